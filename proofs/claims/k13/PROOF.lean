import PyProof.Rows.All
import Wide.All
import OpenK.AllK
import Wide.FinOn
import HandS.ForMost
import HandS.More
import HandS.IsInst
import HandS.Wide
import HandS.Flow
import HandS.Steps
import HandS.Gcd
import KE.KMathGC
import PyProof.ReprRoads
import PyProof.ReprBulk
import HandS.Codes
import PyProof.Rows.StrRev
import PyProof.Rows.RegReprOcc
import PyProof.ListStr
import PyProof.TupleOfStr
import PyProof.Rows.EnumRows
import KE.DataMinMax
import HandS.ExcInit
import HandS.ExcField
import HandS.ExcIs
import HandS.WordsExc
import HandS.CallLocal
import HandS.CallSlots
import KE.KExcIs
import HandS.Lambda
import HandS.EndTab
import KE.KDflt
import PySem.Challenge.RW_everyhalf_k13_what_trees_refuse
set_option Elab.async false
set_option linter.all false
set_option maxRecDepth 100000
set_option maxHeartbeats 2000000
/-! EH1: our own words beside the hand layer: repr of data, a def entered with no guard on the stack, calls with keywords alone. -/
namespace EH
open PySem PySem.Spec PyProof.Rows L2

section
variable {X : Cx}
/-- repr(x), x any data without dicts -/
theorem cr_repr (gd : X.A.guards = some []) (hu : X.A.units + 64 < cLine) : CallR X (.builtin "repr") (fun xs H Q => ∃ x d, xs = [x] ∧ Dp X.K H x d ∧ d.showable = true ∧ d.hasDict = false ∧ d.depth ≤ 60 ∧ d.shown.length ≤ sizeLine ∧ Q (.str d.shown) H) := by
  intro pins s σ H xs us Q I r h
  obtain ⟨x, d, rfl, hd, hs, hn, hdp, hz, q⟩ := h
  obtain ⟨u, rfl, rx⟩ := vals1 r
  have viaRef : ∀ a as, Reads s.heap (.ref a) d as → wpAny (model X.prog X.w) X.A (call (.builtin "repr") [.ref a]) (EP X pins σ Q) X.xe s := fun a as rd =>
    repr_of_reads' rd hs (PyData.noDict_hsm hn) gd (by omega) (fun _ _ e => e)
      (fun h' u' tk hk => ⟨.str d.shown, H, I.un (h' := h') (t' := tk) (Un.kept hk) (I.hok.kept hk), ⟨_, rfl⟩, q⟩) hz
  obtain ⟨as, rd⟩ := Dp.reads I d x u hd rx
  cases hd with
  | non =>
    cases rx
    exact PySem.P.repr_of_none ⟨.str _, H, I.tok _, ⟨_, rfl⟩, q⟩
  | bl b =>
    cases rx
    exact PySem.P.repr_of_bool ⟨.str _, H, I.tok _, ⟨_, rfl⟩, by cases b <;> exact q⟩
  | int i =>
    obtain ⟨t, rfl⟩ := rx
    exact PySem.P.repr_of_int (by simpa [PyData.showable] using hs) ⟨.str _, H, I.tok _, ⟨_, rfl⟩, q⟩
  | str z =>
    obtain ⟨t, rfl⟩ := rx
    exact PySem.P.repr_of_str ⟨.str _, H, I.tok _, ⟨_, rfl⟩, q⟩ hz
  | lst h1 h2 =>
    cases rx
    exact viaRef _ as rd
  | tup h1 h2 =>
    cases rx
    exact viaRef _ as rd
end

/-! ### a def that is entered with no guard on the stack -/
structure FnG (P : Program) (w : World) (K : PySem.W.Frag) (mg : Str → Option Value) (base : Heap) (cx : CXT) (k : Nat) (f : Addr) (fd : FuncData) (ps : List Str) (sp : Sp) : Prop where
  len : ∀ vs H Q E, sp vs H Q E → vs.length = ps.length
  run : ∀ (A : Around) (out : List Env) (s : Shared) (H : Hp) (args : Args) (us : List Value) (vs : List V) (Q : VK) (E : XK),
    A.guards = some [] → Room k A → Env0 P w K mg base A out s H → BindsTo s fd args (ps.zip us) → Vals vs us → sp vs H Q E →
    codeAny (model P w) A (.call (.ref f) args) (CR cx out P w H s Q E) s

theorem deeper_guards {A : Around} {e : Env} (h : A.guards = some []) : (A.deeper e).guards = some [] := h

section
variable {P : Program} {w : World} {K : PySem.W.Frag} {mg : Str → Option Value} {base : Heap}
theorem okG {x qual : Str} {st : Stmt} {f : Addr} {fd : FuncData} {N ps : List Str} {k : Nat} {sp : Sp}
    (F : Fun K x qual st f fd) (S : FnScope N ps (defScope st)) (len : ∀ vs H Q E, sp vs H Q E → vs.length = ps.length)
    (hb : ∀ (cdv : Value) (A : Around) (out : List Env) (s : Shared) (H : Hp) (vs : List V) (Q : VK) (E : XK),
      (A.deeper (envOfC qual (defScope st) s.heap.objs.size f cdv)).guards = some [] →
      Room k (A.deeper (envOfC qual (defScope st) s.heap.objs.size f cdv)) → sp vs H Q E →
      ∃ t, PSs (cxOf CX0 P w K mg base N qual (defScope st) f cdv A out s H E).nox (defBody st) t ∧
        t { nx := fun _ H' => Q .non H', rt := Q } (start N vs) H) :
    FnG P w K mg base CX0 (k + 1) f fd ps sp := by
  obtain ⟨oc, od, kV, doc, pm, an, cdv, ct, osl, rfl, lk, hcd⟩ := F.ex
  refine ⟨len, fun A out s H args us vs Q E gd hr e0 bnd rv hsp => ?_⟩
  have lenV := len _ _ _ _ hsp
  have KX : K.In s.heap := e0.mod.kin.keeps fun b o e => (e0.bs b o e).1
  have noLim : s.heap.NoLimit := e0.mod.nolimit.keeps fun b o e => (e0.bs b o e).1
  have kinds : ∀ y ∈ ps.zip us, (defScope st).names.lookup y.1 = some .local ∨
      ((defScope st).names.lookup y.1 = some .cell ∧ ((cellsFrom (s.heap.objs.size + 1) (defScope st).names []).lookup y.1).isSome = true) := by
    rintro ⟨n, v⟩ hy
    refine (S.par n (List.of_mem_zip hy).1).imp id fun q => ⟨q, ?_⟩
    exact PySem.W.cellsFrom_some _ _ _ (.inl q)
  refine codeAny_call_function hr.depth (KX _ _ lk) rfl S.co S.gen rfl (PySem.W.codeRec_of KX hcd) (bnd _ _ _ _ ?_)
  refine wpAny_newFunctionEnv_cells S.kind kinds fun en he s1 ic => ?_
  subst he
  refine ⟨noLim.keeps ic.toInCall.keep, codeAny_func ?_⟩
  obtain ⟨t, ht', hq⟩ := hb cdv A out s H vs Q E (deeper_guards gd) (hr.deeper _) hsp
  have ht := ht'.nox
  have I0 : Inv (cxOf CX0 P w K mg base N qual (defScope st) f cdv A out s H E) [] (start N vs) H s1 := inv_start S hr.hd e0 lenV rv ic
  refine wpAny_mono (ht.run [] s1 (start N vs) H _ I0 hq) (fun fl s' hs => ?_) fun _ _ z => z
  cases fl with
  | ret u =>
    obtain ⟨v, σ', H', J, ru, q⟩ := hs
    exact ⟨v, H', J.os, J.bare, J.base, J.hok, ru, q⟩
  | next =>
    obtain ⟨σ', H', J, q⟩ := hs
    exact ⟨.non, H', J.os, J.bare, J.base, J.hok, rfl, q⟩
  | brk =>
    obtain ⟨_, _, _, q⟩ := hs
    exact q.elim
  | cont =>
    obtain ⟨_, _, _, q⟩ := hs
    exact q.elim
end

/-- the law's call, no guard on the stack -/
theorem law_callG {P : Program} {w : World} {K : PySem.W.Frag} {mg mb : Str → Option Value} {k : Nat} {fa a : Addr} {fd : FuncData} {x : Str} {sp : Sp} {s1 : Shared} {us : List Value} {ns : List Int}
    (KX : K.In s1.heap) (nsG : s1.heap.Ns mainGlobals mg) (nsB : s1.heap.Ns builtinsNs mb) (boot : ∀ x : Str, x ≠ "__name__" → mb x = bootBuiltins x)
    (noLim : s1.heap.NoLimit) (gens0 : s1.gens = #[]) (ha : s1.heap.get? a = some { cls := .type "list", data := .seq us.toArray }) (hi : IntsAre us ns) (hl : ns.length ≤ sizeLine) (hr : Room k callerA)
    (F : ∀ base : Heap, K.In base → base.Ns mainGlobals mg → FnG P w K mg base CX0 k fa fd [x] sp)
    (bnd : ∀ (s : Shared) (u : Value), BindsTo s fd ⟨[u], []⟩ [(x, u)])
    (hsp : ∀ H : Hp, SqL K H a (ns.map V.int) → sp [.ref a] H (fun v _ => v = .bl true) fun _ _ _ => False) :
    codeAny (model P w) callerA (.call (.ref fa) ⟨[.ref a], []⟩)
      (fun r s' => r = .ok (.ret (.bool true)) ∧ OldK s1.heap s'.heap ∧ s'.os = s1.os ∧ AllBare s'.gens) s1 := by
  have rv := vals_ints hi
  have lenU := hi.length
  have body : ∀ H : Hp, Only H → SqL K H a (ns.map V.int) → HOk P w H s1.heap → (∀ b, H b ≠ none → b = a) → (H a ≠ none → K.lookup a = none) →
      codeAny (model P w) callerA (.call (.ref fa) ⟨[.ref a], []⟩)
        (fun r s' => r = .ok (.ret (.bool true)) ∧ OldK s1.heap s'.heap ∧ s'.os = s1.os ∧ AllBare s'.gens) s1 := by
    intro H only hS hok atA notK
    have down : ∀ {b : Addr} {o : Obj}, s1.heap.get? b = some o → H b = none → (hidT s1.heap H).get? b = some o := fun e n => hidT_get e n
    have isA : ∀ {b : Addr}, H b ≠ none → b = a := fun {b} h => atA b h
    have dictFree : ∀ {b : Addr} {o : Obj} {es : Array DictEntry} {ep : Nat}, s1.heap.get? b = some o → o.data = .dict es ep → H b = none := by
      intro b o es ep e d
      cases hb : H b with
      | none => rfl
      | some u =>
        have eb : b = a := isA (by rw [hb]; exact Option.some_ne_none _)
        subst eb
        rw [ha] at e
        cases e
        cases (show Data.seq us.toArray _ = Data.dict es ep from d)
    have nsDown : ∀ {b : Addr} {m : Str → Option Value}, s1.heap.Ns b m → (hidT s1.heap H).Ns b m := by
      rintro b m ⟨o, es, ep, e, d, r⟩
      exact ⟨o, es, ep, down e (dictFree e d), d, r⟩
    have kDown : K.In (hidT s1.heap H) := by
      intro b o e
      refine down (KX b o e) ?_
      cases hb : H b with
      | none => rfl
      | some u =>
        have eb : b = a := isA (by rw [hb]; exact Option.some_ne_none _)
        subst eb
        rw [notK (by rw [hb]; exact Option.some_ne_none _)] at e
        cases e
    have md : Mod K mg (hidT s1.heap H) := by
      refine ⟨kDown, nsDown nsG, ⟨mb, nsDown nsB, boot⟩, ?_⟩
      obtain ⟨mc, h1, h2⟩ := noLim
      exact ⟨mc, nsDown h1, h2⟩
    have e0 : Env0 P w K mg (hidT s1.heap H) callerA [] s1 H :=
      ⟨rfl, md, fun _ _ e => of_hidT e, Nat.le_of_eq (hidT_size _ _), trivial, fun _ hb => absurd hb List.not_mem_nil, hok, .of_eq gens0⟩
    have run := (F _ kDown (nsDown nsG)).run callerA [] s1 H ⟨[.ref a], []⟩ [.ref a] [.ref a] _ _ rfl hr e0 (bnd s1 (.ref a)) (.cons rfl .nil) (hsp H hS)
    refine codeAny_mono run fun r s' h => ?_
    rcases r with e | fl
    · exact h.elim
    · cases fl with
      | next => exact h.elim
      | brk => exact h.elim
      | cont => exact h.elim
      | ret u =>
        obtain ⟨v, H', os, bare, un, hok', ru, q⟩ := h
        cases (show v = .bl true from q)
        cases (show u = Value.bool true from ru)
        refine ⟨rfl, OldK.of_keep fun b o e => ?_, os, bare⟩
        cases hb : H b with
        | none => exact un.keep b o e hb (fun z => absurd z List.not_mem_nil) List.not_mem_nil
        | some u =>
          rcases only b with z | ⟨ob, xs, z⟩
          · rw [hb] at z
            cases z
          · obtain ⟨e1, _⟩ := hok b _ z
            obtain ⟨e2, _⟩ := hok' b _ (un.frzs b ob _ z)
            rw [e] at e1
            cases e1
            exact e2
  cases hk : K.lookup a with
  | some o =>
    have e := KX a o hk
    rw [ha] at e
    cases e
    refine body (fun _ => none) (fun _ => .inl rfl) (.inr ⟨_, us.toArray, _, hk, rfl, rfl, rfl, ?_, ?_⟩) (fun b u => ?_) (fun b z => absurd rfl z) fun z => absurd rfl z
    · rw [List.size_toArray, lenU]
      exact hl
    · simpa using rv
    · intro z
      exact nomatch (show (none : Option HO) = some u from z)
  | none =>
    have hA : ∀ b, (fun b => if b = a then some (HO.frz { cls := .type "list", data := .seq us.toArray } (.lst (ns.map V.int))) else none) b ≠ none → b = a := by
      intro b z
      by_cases hb : b = a
      · exact hb
      · exact absurd (if_neg hb) z
    refine body (fun b => if b = a then some (.frz { cls := .type "list", data := .seq us.toArray } (.lst (ns.map V.int))) else none) (fun b => ?_) (.inl (.inr ⟨{ cls := .type "list", data := .seq us.toArray }, if_pos rfl⟩)) (fun b u z => ?_) hA fun _ => hk
    · by_cases hb : b = a
      · exact .inr ⟨_, _, if_pos hb⟩
      · exact .inl (if_neg hb)
    · have eb : b = a := hA b (by rw [z]; exact Option.some_ne_none _)
      have z' := (if_pos eb).symm.trans z
      cases z'
      subst eb
      refine ⟨ha, ?_, us, _, rv, ha⟩
      rw [List.length_map]
      exact hl

/-- from the promise of the law's def to what k_head leaves -/
theorem walk_ofG {l : PySem.W.OpenLaw} {n k : Nat} {q : Program} {loose : List Str} {XP : (Str → Option Value) → Heap → Prop} {YP : World → Heap → Prop} {d : DefRec} {K : Params → PySem.W.Frag} {sp : PySem.W.Frag → Sp} {x : Str}
    (hn : l.most = some n) (hn2 : n ≤ sizeLine) (hdf : d.params.defaults = []) (hr : Room k callerA) (hY : ∀ (w : World) (h : Heap), YP w h → (K w.params).In h)
    (F : ∀ (w : World) (mg : Str → Option Value) (fa : Addr) (h : Heap), (K w.params).In h → h.Ns mainGlobals mg → mg d.name = some (.ref fa) →
      ∃ fd : FuncData, (∀ (s : Shared) (u : Value), BindsTo s fd ⟨[u], []⟩ [(x, u)]) ∧
        ∀ base : Heap, (K w.params).In base → base.Ns mainGlobals mg → FnG l.prog w (K w.params) mg base CX0 k fa fd [x] (sp (K w.params)))
    (hsp : ∀ (K : PySem.W.Frag) (H : Hp) (a : Addr) (ns : List Int), ns.length ≤ n → SqL K H a (ns.map V.int) → sp K [.ref a] H (fun v _ => v = .bl true) fun _ _ _ => False) :
    PySem.W.WalkO q loose XP YP l.row.toRowW d [] (fun f vs => PySem.call f vs) := by
  refine Att.attach_call hn hdf fun w s0 s1 mg mb fa o pm cd doc a us ns G Y ho hd hcd hmg hobj hints hlen hg => ?_
  have KX := hY w _ Y
  obtain ⟨fd, bnd, hF⟩ := F w mg fa _ KX G.T.g hmg
  exact law_callG KX G.T.g G.T.b G.T.builtins G.T.nolimit hg hobj hints (Nat.le_trans hlen hn2) hr hF bnd fun H hS => hsp _ H a ns hlen hS

/-! ### calls with keywords alone -/
section
variable {X : Cx} {cx : CXT} {k : Nat} {f : Addr} {fd : FuncData} {ps ks : List Str} {sp : Sp} {E : XK} {x : Str} {p pos : Pos} {kws : List Keyword} {tk : TA}
variable {g : List Value → List Value → List Value} {gV : List V → List V → List V}
theorem pe_callK0 (F : FnOk X.prog X.w X.K X.mg X.base cx k f fd ps sp) (hr : Room k X.A) (hg : Gl X x) (hm : X.mg x = some (.ref f)) (hk : PySem.W.keepIn X.K (.ref f) = true)
    (hb : KBinds X.K fd ps ks g gV) (hx : Passes cx X E) (hkw : PK X kws tk)
    (hall : (backToKw pos (keywordEach kws X.env)).all (·.1.isSome) = true := by rfl) (hks : (backToKw pos (keywordEach kws X.env)).filterMap (·.1) = ks := by rfl)
    (hdb : (x == ("__debug__" : Str)) = false := by decide)
    (hpl : ((backTo pos (starEach [] X.env)).any (·.1) || (backToKw pos (keywordEach kws X.env)).any (·.1.isNone)) = false := by rfl) :
    PE X (.Call (.Name x p) [] kws pos) (tCallK sp gV E tNil tk) := by
  refine ⟨fun pins s σ H Q I h => ?_⟩
  refine wpAny_Call_Name_kw (ld_glob I hg hm ?_ hdb)
  refine PySem.W.callWith_KW0 (h₀ := X.base) I.ok.mod.kin hk hall ?_ hpl
  refine thn (hkw.run pos pins s σ H _ I h) fun ws s2 ⟨zs, H2, I2, rz, q2⟩ => ⟨I2.kIn, ?_⟩
  rw [hks]
  exact run_fnk (us := []) (vs := []) F hr hb hx I2 .nil rz q2
end

/-! ### texts -/
section
variable {X : Cx}
/-- s * n -/
theorem op_rep_str : OpR X (binaryOp .Mult) (fun x y H Q => ∃ (z : Str) (n : Nat), x = .str z ∧ y = .int n ∧ n ≤ 1000000 ∧ z.length * n ≤ sizeLine ∧ z.length ≤ 1000000 ∧ Q (.str ⟨((List.replicate n z.cps.toList).flatten).toArray⟩) H) := by
  intro pins s σ H x y v u Q I rx ry h
  obtain ⟨z, n, rfl, rfl, hn, hz, hl, q⟩ := h
  obtain ⟨t, rfl⟩ := rx
  obtain ⟨t', rfl⟩ := ry
  have key : ∀ m : Nat, (List.replicate m z.cps).foldl (· ++ ·) #[] = ((List.replicate m z.cps.toList).flatten).toArray := by
    have gen : ∀ (m : Nat) (acc : Array Nat), (List.replicate m z.cps).foldl (· ++ ·) acc = acc ++ ((List.replicate m z.cps.toList).flatten).toArray := by
      intro m
      induction m with
      | zero => intro acc; simp
      | succ m ih =>
        intro acc
        rw [List.replicate_succ, List.foldl_cons, ih, List.replicate_succ, List.flatten_cons]
        apply Array.ext'
        simp
    intro m
    rw [gen]
    simp
  have done : ∀ w' : Str, w' = ⟨((List.replicate n z.cps.toList).flatten).toArray⟩ → ∀ t2 tk2, EP X pins σ Q (.str w' t2) { s with toks := tk2 } := by
    rintro w' rfl t2 tk2
    exact ⟨.str _, H, I.tok _, ⟨_, rfl⟩, q⟩
  refine PySem.P.mul_str ?_ ?_ ?_ ?_
  · have h1 : ¬ ((n : Int) < -(2 ^ 63 : Int)) := by omega
    have h2 : ¬ ((n : Int) ≥ 2 ^ 63) := by omega
    rw [decide_eq_false h1, decide_eq_false h2]
    rfl
  · intro h1 _ h3
    have hpos : (0 : Int) < n := by omega
    have h4 : ((z.length : Int) + 1) ≤ (2 ^ 63 - 1) / n := by
      rw [Int.le_ediv_iff_mul_le hpos]
      have h5 : ((z.length : Int) + 1) * n ≤ ((z.length : Int) + 1) * 1000000 := Int.mul_le_mul_of_nonneg_left (by omega) (by omega)
      have h6 : (z.length : Int) ≤ 1000000 := by omega
      have h7 : ((z.length : Int) + 1) * 1000000 ≤ 1000001 * 1000000 := Int.mul_le_mul_of_nonneg_right (by omega) (by omega)
      omega
    omega
  · intro h1 h2
    show decide (z.length * ((n : Nat) : Int).toNat > sizeLine) = false
    rw [Int.toNat_natCast]
    exact decide_eq_false (by omega)
  · by_cases h1 : (n : Int) < 1
    · rw [if_pos h1]
      have e0 : n = 0 := by omega
      subst e0
      exact ⟨by decide, done Str.empty rfl _ _⟩
    · rw [if_neg h1]
      by_cases h2 : ((n : Int) == 1 || z.length == 0) = true
      · rw [if_pos h2]
        have e1 : z = (⟨((List.replicate n z.cps.toList).flatten).toArray⟩ : Str) := by
          rcases Bool.or_eq_true_iff.mp h2 with h3 | h3
          · have e2 : n = 1 := by
              have := of_decide_eq_true (p := (n : Int) = 1) (by simpa using h3)
              omega
            subst e2
            obtain ⟨c⟩ := z
            simp
          · obtain ⟨⟨c⟩⟩ := z
            have e3 : c = [] := by
              have h4 : c.length = 0 := of_decide_eq_true (p := c.length = 0) (by simpa [Str.length] using h3)
              exact List.eq_nil_of_length_eq_zero h4
            subst e3
            simp
        exact done z e1 _ _
      · rw [if_neg h2, Int.toNat_natCast, key]
        refine ⟨?_, done _ rfl _ _⟩
        show ((List.replicate n z.cps.toList).flatten).toArray.size ≤ sizeLine
        have e4 : ((List.replicate n z.cps.toList).flatten).length = n * z.cps.toList.length := by simp
        have e5 : z.cps.toList.length = z.length := by simp [Str.length]
        rw [List.size_toArray, e4, e5, Nat.mul_comm]
        exact hz
end

/-! ### a, b, c = x, y, z with plain local names -/
def tPar3 (i j l : Nat) (ta : TA) : TS := fun D σ H => ta σ H fun vs H1 => ∃ v w u, vs = [v, w, u] ∧ D.nx (((σ.set i (some v)).set j (some w)).set l (some u)) H1
section
variable {X : Cx} {pos : Pos}
theorem ps_par3 {i j l : Nat} {x y z : Str} {a b c : Expr} {ta : TA} {px py pz pt : Pos} {kt k2 pt2} (hc : X.calm = true) (hN : X.N.Nodup)
    (hi : X.N[i]? = some x) (hj : X.N[j]? = some y) (hl : X.N[l]? = some z) (hij : i ≠ j) (hil : i ≠ l) (hjl : j ≠ l)
    (hx : X.env.scope.names.lookup x = some .local) (hy : X.env.scope.names.lookup y = some .local) (hz : X.env.scope.names.lookup z = some .local) (ha : PA X [a, b, c] ta)
    (hw : swappedStores [.Tuple [.Name x px, .Name y py, .Name z pz] kt pt] (.Tuple [a, b, c] k2 pt2) X.env = pure (some [x, y, z]))
    (hs : swapsWithSole [.Tuple [.Name x px, .Name y py, .Name z pz] kt pt] (.Tuple [a, b, c] k2 pt2) pos.line X.env = pure false := by rfl) :
    PS X (.Assign [.Tuple [.Name x px, .Name y py, .Name z pz] kt pt] (.Tuple [a, b, c] k2 pt2) pos) (tPar3 i j l ta) := by
  refine ⟨fun pins s σ H D I h => ?_⟩
  rw [exec_Assign_arm]
  refine wpAny_bind (wpAny_standAt ?_)
  rw [hs]
  refine wpAny_bind (wpAny_pure ?_)
  rw [if_neg (by decide)]
  refine wpAny_bind (Tuple_ (thn (ha.run _ pins s σ H _ I h) fun us s1 ⟨vs, H1, I1, r1, q1⟩ => ?_))
  obtain ⟨v, w, t, e1, q1⟩ := q1
  subst e1
  obtain ⟨u1, u2, u3, rfl, rv, rw', rt⟩ : ∃ u1 u2 u3, us = [u1, u2, u3] ∧ RelV v u1 ∧ RelV w u2 ∧ RelV t u3 := by
    cases r1 with
    | cons p q =>
      cases q with
      | cons p' q' =>
        cases q' with
        | cons p'' q'' =>
          cases q''
          exact ⟨_, _, _, rfl, p, p', p''⟩
  refine wpAny_newObj_type ?_ (by show 3 ≤ sizeLine; decide)
  have I2 : Inv X pins σ H1 { s1 with heap := s1.heap.push { cls := .type "tuple", data := .seq [u1, u2, u3].toArray } } :=
    I1.kept (t' := s1.toks) fun b o e => Heap.get?_push_of_some _ e
  rw [hw]
  refine wpAny_bind (wpAny_pure ?_)
  show wpAny (model X.prog X.w) X.A (do
    rule "assign.swapped-stores"
    let items ← unpackItems (.ref s1.heap.objs.size) 3 none
    assignInOrder [fun v => bindName X.env z v, fun v => bindName X.env y v, fun v => bindName X.env x v] items.reverse
    pure Flow.next) _ _ _
  refine wpAny_bind (wpAny_rule (wpAny_bind (unpackItems_tuple (items := #[u1, u2, u3]) (I.ok.hd hc) (IsTup.new s1.heap _) fun h' hx' => ?_)))
  have I3 := I2.kept (h' := h') (t' := s1.toks) fun b o e => hx' b o (Nat.ne_of_lt (Heap.lt_size e)) e
  show wpAny _ _ (assignInOrder [fun v => bindName X.env z v, fun v => bindName X.env y v, fun v => bindName X.env x v] [u3, u2, u1] >>= fun _ => pure Flow.next) _ _ _
  refine wpAny_bind (assignInOrder_cons (wpAny_bindName (store_ok I3 hN hl (.inl hz) rt (fun s2 I4 => ?_) (.inr hz))))
  refine assignInOrder_cons (wpAny_bindName (store_ok I4 hN hj (.inl hy) rw' (fun s3 I5 => ?_) (.inr hy)))
  refine assignInOrder_cons (wpAny_bindName (store_ok I5 hN hi (.inl hx) rv (fun s4 I6 => assignInOrder_nil (wpAny_pure ?_)) (.inr hx)))
  have e : (((σ.set l (some t)).set j (some w)).set i (some v)) = (((σ.set i (some v)).set j (some w)).set l (some t)) := by
    rw [List.set_comm _ _ (Ne.symm hjl), List.set_comm _ _ (Ne.symm hil), List.set_comm _ _ (Ne.symm hij)]
  rw [e] at I6
  exact ⟨_, H1, I6, q1⟩
end

/-! ### a def that may be called by its name -/
structure Cl (P : Program) (w : World) (K : PySem.W.Frag) (mg : Str → Option Value) (base : Heap) (k : Nat) (x : Str) (sp : Sp) : Prop where
  ex : ∃ (f : Addr) (fd : FuncData) (ps : List Str), FnOk P w K mg base CX0 k f fd ps sp ∧ mg x = some (.ref f) ∧ PySem.W.keepIn K (.ref f) = true ∧ Binds K fd ps []
/-- .. with keywords alone: π brings the keywords' values into the parameters' order -/
def tF (sp : Sp) (t : TA) : TE := fun σ H Q => t σ H fun vs H1 => sp vs H1 Q E0
def tF0 (sp : Sp) : TE := fun _ H Q => sp [] H Q E0
def tFk (n : Nat) (π : List V → List V) (sp : Sp) (t : TA) : TE := fun σ H Q => t σ H fun zs H1 => zs.length = n ∧ sp (π zs) H1 Q E0
structure ClK (P : Program) (w : World) (K : PySem.W.Frag) (mg : Str → Option Value) (base : Heap) (k : Nat) (x : Str) (ks : List Str) (π : List V → List V) (sp : Sp) : Prop where
  ex : ∃ (f : Addr) (fd : FuncData) (ps : List Str) (g : List Value → List Value), FnOk P w K mg base CX0 k f fd ps sp ∧ mg x = some (.ref f) ∧ PySem.W.keepIn K (.ref f) = true ∧
    (∀ (s : Shared) (ws : List Value), ws.length = ks.length → BindsTo s fd ⟨[], ks.zip ws⟩ (ps.zip (g ws))) ∧ ∀ (zs : List V) (ws : List Value), Vals zs ws → Vals (π zs) (g ws)
section
variable {X : Cx} {k j : Nat} {x : Str} {sp : Sp} {p pos : Pos} {e : Expr} {es : List Expr} {t tk : TA} {ks : List Str} {π : List V → List V} {kws : List Keyword}
theorem pe_f (c : Cl X.prog X.w X.K X.mg X.base k x sp) (hr : Room j X.A) (hk : k ≤ j) (hg : Gl X x) (ha : PA X (e :: es) t) (hdb : (x == ("__debug__" : Str)) = false := by decide)
    (he : starEach (e :: es) X.env = (false, eval e X.env) :: starEach es X.env := by rfl) (hpl : (backTo pos (starEach es X.env)).any (·.1) = false := by rfl) :
    PE X (.Call (.Name x p) (e :: es) [] pos) (tF sp t) := by
  obtain ⟨f, fd, ps, F, hm, kp, b⟩ := c.ex
  have h := pe_call (p := p) (pos := pos) F (hr.mono hk) hg hm kp b .nil pass0 ha hdb he hpl
  refine ⟨fun pins s σ H Q I q => h.run pins s σ H Q I ?_⟩
  show t σ H fun vs H1 => sp (vs ++ []) H1 Q E0
  simp only [List.append_nil]
  exact q
theorem pe_f0 (c : Cl X.prog X.w X.K X.mg X.base k x sp) (hr : Room j X.A) (hk : k ≤ j) (hg : Gl X x) (hdb : (x == ("__debug__" : Str)) = false := by decide) :
    PE X (.Call (.Name x p) [] [] pos) (tF0 sp) := by
  obtain ⟨f, fd, ps, F, hm, kp, b⟩ := c.ex
  have h := pe_call0 (p := p) (pos := pos) F (hr.mono hk) hg hm kp b .nil pass0 hdb
  exact ⟨fun pins s σ H Q I q => h.run pins s σ H Q I q⟩
theorem pe_fk (c : ClK X.prog X.w X.K X.mg X.base k x ks π sp) (hr : Room j X.A) (hk : k ≤ j) (hg : Gl X x) (hkw : PK X kws tk)
    (hall : (backToKw pos (keywordEach kws X.env)).all (·.1.isSome) = true := by rfl) (hks : (backToKw pos (keywordEach kws X.env)).filterMap (·.1) = ks := by rfl)
    (hdb : (x == ("__debug__" : Str)) = false := by decide)
    (hpl : ((backTo pos (starEach [] X.env)).any (·.1) || (backToKw pos (keywordEach kws X.env)).any (·.1.isNone)) = false := by rfl) :
    PE X (.Call (.Name x p) [] kws pos) (tFk ks.length π sp tk) := by
  obtain ⟨f, fd, ps, g, F, hm, kp, b, rel⟩ := c.ex
  refine ⟨fun pins s σ H Q I h => ?_⟩
  refine wpAny_Call_Name_kw (ld_glob I hg hm ?_ hdb)
  refine PySem.W.callWith_KW0 (h₀ := X.base) I.ok.mod.kin kp hall ?_ hpl
  refine thn (hkw.run pos pins s σ H _ I h) fun ws s2 ⟨zs, H2, I2, rz, hlen, q2⟩ => ⟨I2.kIn, ?_⟩
  rw [hks]
  have r2 := rel zs ws rz
  refine wpAny_call (codeAny_mono (F.run X.A X.stack s2 H2 ⟨[], ks.zip ws⟩ (g ws) (π zs) Q E0 (hr.mono hk) I2.env0 (b s2 ws (by rw [← rz.length]; exact hlen)) r2 q2) fun r s' hq => ?_)
  cases r with
  | error e => exact hq.elim
  | ok fl =>
    cases fl with
    | ret u => exact I2.after hq
    | next => exact hq.elim
    | brk => exact hq.elim
    | cont => exact hq.elim
end
section
variable {P : Program} {w : World} {K : PySem.W.Frag} {mg : Str → Option Value} {base : Heap}
theorem Cl.mk' {k : Nat} {x qual : Str} {st : Stmt} {f : Addr} {fd : FuncData} {ps : List Str} {sp : Sp} (F : Fun K x qual st f fd) (m : mg x = some (.ref f)) (b : Binds K fd ps []) (ok : FnOk P w K mg base CX0 k f fd ps sp) : Cl P w K mg base k x sp :=
  ⟨f, fd, ps, ok, m, F.kp, b⟩
theorem Cl.mono {j k : Nat} {x : Str} {sp : Sp} (c : Cl P w K mg base j x sp) (h : j ≤ k) : Cl P w K mg base k x sp := by
  obtain ⟨f, fd, ps, F, m, kp, b⟩ := c.ex
  exact ⟨f, fd, ps, F.mono h, m, kp, b⟩
theorem Cl.imp {k : Nat} {x : Str} {sp sp' : Sp} (c : Cl P w K mg base k x sp) (h : ∀ vs H Q E, sp' vs H Q E → sp vs H Q E) : Cl P w K mg base k x sp' := by
  obtain ⟨f, fd, ps, F, m, kp, b⟩ := c.ex
  exact ⟨f, fd, ps, F.imp h, m, kp, b⟩
/-- a module's constant -/
structure Cst (mg : Str → Option Value) (x : Str) (v : V) : Prop where
  ex : ∃ u, mg x = some u ∧ RelV v u
theorem pe_cst {X : Cx} {x : Str} {v : V} {pos : Pos} (c : Cst X.mg x v) (hg : Gl X x) (hd : (x == ("__debug__" : Str)) = false := by decide) : PE X (.Name x pos) (tC v) := by
  obtain ⟨u, hm, r⟩ := c.ex
  exact pe_glob hg hm r hd
end

/-! ### keywords' values in the parameters' order -/
def pick (is : List Nat) {α : Type} (xs : List α) : List α := is.filterMap fun i => xs[i]?
theorem pick_vals : ∀ (is : List Nat) {zs : List V} {ws : List Value}, Vals zs ws → Vals (pick is zs) (pick is ws)
  | [], _, _, _ => .nil
  | i :: is, zs, ws, r => by
    have ih := pick_vals is r
    unfold pick at ih ⊢
    cases e : zs[i]? with
    | none =>
      have e2 := r.none_of e
      rw [List.filterMap_cons_none e, List.filterMap_cons_none e2]
      exact ih
    | some z =>
      obtain ⟨u, e2, ru⟩ := r.get e
      rw [List.filterMap_cons_some e, List.filterMap_cons_some e2]
      exact .cons ru ih

/-! ### numbers of the drawing object -/
theorem tick_b1 {x b C : Int} (h0 : 0 ≤ x) (h1 : x < 2147483648) (b0 : 0 ≤ b) (b1 : b ≤ 1000000) (c0 : 0 ≤ C) (c1 : C ≤ 1000000) : 0 ≤ x * (2 * b + C) ∧ x * (2 * b + C) ≤ 2147483648 * 3000000 := by
  refine ⟨Int.mul_nonneg h0 (by omega), ?_⟩
  exact Int.mul_le_mul (by omega) (by omega) (by omega) (by omega)
theorem tick_b2 {D b : Int} (d0 : 0 ≤ D) (d1 : D ≤ 1000000) (b0 : 0 ≤ b) (b1 : b ≤ 1000000) : 0 ≤ D * b ∧ D * b ≤ 1000000 * 1000000 ∧ 0 ≤ D * b * b ∧ D * b * b ≤ 1000000 * 1000000 * 1000000 := by
  have h1 : 0 ≤ D * b := Int.mul_nonneg d0 b0
  have h2 : D * b ≤ 1000000 * 1000000 := Int.mul_le_mul d1 b1 b0 (by decide)
  exact ⟨h1, h2, Int.mul_nonneg h1 b0, Int.mul_le_mul h2 b1 b0 (by decide)⟩

/-! ### data of ints -/
theorem dp_ints {K : PySem.W.Frag} {H : Hp} : ∀ cs : List Int, DpAll K H (cs.map V.int) (cs.map PyData.int)
  | [] => .nil
  | c :: cs => .cons (.int c) (dp_ints cs)
theorem sh_ints (cs : List Int) : SeqAt.shaped (.list (cs.map .int)) = true := by
  have h : ∀ cs : List Int, PyData.canLayAll0 (cs.map PyData.int) = true ∧ PyData.depthAll (cs.map PyData.int) = 0 := by
    intro cs
    induction cs with
    | nil => exact ⟨rfl, rfl⟩
    | cons c cs ih => simp only [List.map_cons, PyData.canLayAll0, PyData.canLay0, PyData.depthAll, PyData.depth, ih.1, ih.2, Bool.and_self, Nat.max_self, and_self]
  unfold SeqAt.shaped
  simp only [PyData.canLay0, PyData.depth, (h cs).1, (h cs).2]
  rfl

/-! ### isinstance of a value and a built-in class -/
theorem tyb_wide {K : PySem.W.Frag} {H : Hp} {v : V} {T : String} (h : TyB K H v T) : TyX K H v (.type T) := by
  cases h with
  | non => exact .base .non
  | bl b => exact .base (.bl b)
  | int i => exact .base (.int i)
  | str x => exact .base (.str x)
  | byt b => exact .byt b
  | lst h =>
    rcases h with (h | ⟨o, h⟩) | ⟨o, its, n, h1, h2, _⟩
    · exact .base (.lst h)
    · exact .base (.frz h)
    · exact .kList h1 h2
  | tup h =>
    rcases h with (h | ⟨o, h⟩) | ⟨o, its, n, h1, h2, _⟩
    · exact .base (.tup h)
    · exact .fTuple h
    · exact .kTuple h1 h2
  | dK h => exact .base (.dK h)
def kinds : List String := ["NoneType", "bool", "int", "str", "bytes", "list", "tuple", "dict"]
theorem tyb_kind {K : PySem.W.Frag} {H : Hp} {v : V} {T : String} (h : TyB K H v T) : T ∈ kinds := by
  cases h <;> decide
/-- is what is of the type T also of the type n -/
def isSub (T n : String) : Bool := T == n || (T == "bool" && n == "int")
theorem kit_sub : ∀ T ∈ kinds, ∀ n ∈ kinds, kitB T n = some (isSub T n) := by decide +kernel
theorem call_is {X : Cx} : CallR X (.builtin "isinstance") (fun xs H Q => ∃ v T n, xs = [v, .ty n] ∧ TyB X.K H v T ∧ n ∈ kinds ∧ Q (.bl (isSub T n)) H) := by
  intro pins s σ H xs us Q I r h
  obtain ⟨v, T, n, rfl, ht, hn, q⟩ := h
  exact call_isi pins s σ H _ us Q I r ⟨v, .ty n, .type T, .type n, isSub T n, rfl, .ty n, tyb_wide ht, kit_ty (kit_sub T (tyb_kind ht) n hn), q⟩

/-! ### binomials -/
def chs : Nat → Nat → Nat
  | _, 0 => 1
  | 0, _ + 1 => 0
  | n + 1, k + 1 => chs n k + chs n (k + 1)
theorem chs_zero (n : Nat) : chs n 0 = 1 := by cases n <;> rfl
theorem chs_big : ∀ (n k : Nat), n < k → chs n k = 0
  | 0, 0, h => absurd h (Nat.lt_irrefl _)
  | 0, k + 1, _ => rfl
  | n + 1, 0, h => absurd h (Nat.not_lt_zero _)
  | n + 1, k + 1, h => by
    show chs n k + chs n (k + 1) = 0
    rw [chs_big n k (by omega), chs_big n (k + 1) (by omega)]
theorem chs_step : ∀ (n k : Nat), k ≤ n → chs n (k + 1) * (k + 1) = chs n k * (n - k)
  | 0, 0, _ => rfl
  | 0, k + 1, h => absurd h (by omega)
  | n + 1, 0, _ => by
    show (chs n 0 + chs n (0 + 1)) * (0 + 1) = 1 * (n + 1 - 0)
    have h := chs_step n 0 (Nat.zero_le _)
    rw [chs_zero] at h ⊢
    omega
  | n + 1, k + 1, h => by
    show (chs n (k + 1) + chs n (k + 1 + 1)) * (k + 1 + 1) = (chs n k + chs n (k + 1)) * (n + 1 - (k + 1))
    have h1 := chs_step n k (by omega)
    have e : n + 1 - (k + 1) = n - k := by omega
    rw [e, Nat.add_mul, Nat.add_mul, ← h1]
    by_cases hk : k + 1 ≤ n
    · have h2 := chs_step n (k + 1) hk
      rw [h2, ← Nat.mul_add, ← Nat.mul_add]
      congr 1
      omega
    · have en : n = k := by omega
      subst en
      rw [chs_big n (n + 1) (by omega), chs_big n (n + 1 + 1) (by omega)]
      simp
def fct : Nat → Nat
  | 0 => 1
  | n + 1 => fct n * (n + 1)
theorem fct_pos : ∀ n, 0 < fct n
  | 0 => Nat.one_pos
  | n + 1 => Nat.mul_pos (fct_pos n) (Nat.succ_pos _)
/-- n (n - 1) .. (n - k + 1) -/
def fll (n : Nat) : Nat → Nat
  | 0 => 1
  | k + 1 => fll n k * (n - k)
theorem chs_fll (n : Nat) : ∀ k, k ≤ n → chs n k * fct k = fll n k
  | 0, _ => by rw [chs_zero]; rfl
  | k + 1, h => by
    have ih := chs_fll n k (by omega)
    have hs := chs_step n k (by omega)
    show chs n (k + 1) * (fct k * (k + 1)) = fll n k * (n - k)
    rw [← ih, Nat.mul_right_comm (chs n k), ← hs, Nat.mul_comm (fct k), ← Nat.mul_assoc]
theorem fll_self : ∀ n, fll n n = fct n := by
  intro n
  have h := chs_fll n n (Nat.le_refl _)
  have e : chs n n = 1 := by
    induction n with
    | zero => rfl
    | succ n ih =>
      show chs n n + chs n (n + 1) = 1
      rw [chs_big n (n + 1) (by omega), ih (chs_fll n n (Nat.le_refl _))]
  rw [e, Nat.one_mul] at h
  exact h.symm
theorem chs_sym : ∀ (n k : Nat), k ≤ n → chs n (n - k) = chs n k := by
  -- both times k! (n - k)! are n!
  have key : ∀ (n k : Nat), k ≤ n → chs n k * fct k * fct (n - k) = fct n := by
    intro n
    induction n with
    | zero =>
      intro k h
      have e : k = 0 := by omega
      subst e
      rfl
    | succ n ih =>
      intro k h
      cases k with
      | zero => rw [chs_zero]; show 1 * 1 * fct (n + 1) = _; omega
      | succ k =>
        have i1 := ih k (by omega)
        have e1 : n + 1 - (k + 1) = n - k := by omega
        show (chs n k + chs n (k + 1)) * (fct k * (k + 1)) * fct (n + 1 - (k + 1)) = fct n * (n + 1)
        rw [e1]
        by_cases hk : k + 1 ≤ n
        · have i2 := ih (k + 1) hk
          have e2 : fct (n - k) = fct (n - (k + 1)) * (n - k) := by
            have : n - k = (n - (k + 1)) + 1 := by omega
            rw [this]
            rfl
          have a1 : chs n k * (fct k * (k + 1)) * fct (n - k) = fct n * (k + 1) := by
            rw [← i1]
            simp only [Nat.mul_assoc, Nat.mul_comm, Nat.mul_left_comm]
          have a2 : chs n (k + 1) * (fct k * (k + 1)) * fct (n - k) = fct n * (n - k) := by
            rw [← i2, e2]
            show _ = chs n (k + 1) * (fct k * (k + 1)) * fct (n - (k + 1)) * (n - k)
            simp only [Nat.mul_assoc]
          rw [Nat.add_mul, Nat.add_mul, a1, a2, ← Nat.mul_add]
          congr 1
          omega
        · have en : n = k := by omega
          subst en
          rw [chs_big n (n + 1) (by omega), Nat.add_zero]
          have e3 : n - n = 0 := Nat.sub_self n
          rw [e3] at i1 ⊢
          calc chs n n * (fct n * (n + 1)) * fct 0 = (chs n n * fct n * fct 0) * (n + 1) := by
                simp only [Nat.mul_assoc, Nat.mul_comm, Nat.mul_left_comm]
            _ = fct n * (n + 1) := by rw [i1]
  intro n k h
  have a := key n k h
  have b := key n (n - k) (by omega)
  have e : n - (n - k) = k := by omega
  rw [e] at b
  have hp : 0 < fct k * fct (n - k) := Nat.mul_pos (fct_pos _) (fct_pos _)
  have c : chs n (n - k) * (fct k * fct (n - k)) = chs n k * (fct k * fct (n - k)) := by
    rw [← Nat.mul_assoc, ← Nat.mul_assoc, a]
    rw [Nat.mul_right_comm] at b
    exact b
  exact Nat.eq_of_mul_eq_mul_right hp c
theorem fprod (n : Nat) : ∀ k, k ≤ n → Builtin.Math.fallingProduct (n : Int) k = (fll n k : Nat)
  | 0, _ => rfl
  | k + 1, h => by
    have ih := fprod n k (by omega)
    unfold Builtin.Math.fallingProduct at ih ⊢
    rw [List.range_succ, List.foldl_append, ih]
    show ((fll n k : Nat) : Int) * ((n : Int) - (k : Int)) = ((fll n k * (n - k) : Nat) : Int)
    rw [Int.natCast_mul, Int.natCast_sub (by omega)]
theorem chs_div {n k : Nat} (h : k ≤ n) : fll n k / fct k = chs n k := by
  rw [← chs_fll n k h, Nat.mul_div_cancel _ (fct_pos k)]
theorem mcComb_chs (n k : Nat) : PySem.W.mcComb (n : Int) (k : Int) = (chs n k : Nat) := by
  by_cases h : k ≤ n
  · have em : ∃ m : Nat, min (k : Int) ((n : Int) - k) = (m : Int) ∧ m ≤ n ∧ chs n m = chs n k := by
      by_cases h2 : k ≤ n - k
      · exact ⟨k, by omega, h, rfl⟩
      · exact ⟨n - k, by omega, by omega, chs_sym n k h⟩
    obtain ⟨m, e1, e2, e3⟩ := em
    rw [PySem.W.mcComb_at (by omega) (by omega) e1, Int.toNat_natCast, fprod n m e2, fprod m m (Nat.le_refl _), fll_self, ← e3, ← chs_div e2, Int.natCast_ediv]
  · rw [PySem.W.mcComb_above (by omega), chs_big n k (by omega)]
    rfl
theorem cr_comb {X : Cx} : CallR X (.builtin "math.comb") (fun xs H Q => ∃ n k : Nat, xs = [.int n, .int k] ∧ n ≤ 18000 ∧ Q (.int (chs n k : Nat)) H) := by
  intro pins s σ H xs us Q I r h
  obtain ⟨n, k, rfl, hn, q⟩ := h
  obtain ⟨u1, u2, rfl, ⟨t, rfl⟩, ⟨t', rfl⟩⟩ := vals2 r
  refine PySem.W.mc_comb_v (by omega) (by omega) (by omega) (.inr (by omega)) (mcComb_chs n k) ?_
  exact ⟨.int _, H, I.tok _, ⟨_, rfl⟩, q⟩

/-! ### heaps -/
theorem same_put {H0 H : Hp} {D : Addr} {o : HO} (s : Same H0 H) (h : H0 D = none) : Same H0 (upd H D o) := fun b x e => by
  rw [upd_ne (ne_of_none e h)]
  exact s _ _ e

/-! ### data that may be shown and compared -/
mutual
def okD : PyData → Bool
  | .int i => decide (i.natAbs.log2 < 900)
  | .str x => x.cps.toList.all fun c => decide (c < 1114112)
  | .list xs | .tuple xs => okDs xs
  | .dict _ => false
  | .none | .bool _ => true
def okDs : List PyData → Bool
  | [] => true
  | x :: xs => okD x && okDs xs
end
mutual
theorem okD_all : ∀ d : PyData, okD d = true → d.showable = true ∧ d.hasDict = false ∧ d.leavesShort 1000 = true ∧ d.canLay0 = true
  | .none, _ => ⟨by simp only [PyData.showable], by simp only [PyData.hasDict], by simp only [PyData.leavesShort], by simp only [PyData.canLay0]⟩
  | .bool _, _ => ⟨by simp only [PyData.showable], by simp only [PyData.hasDict], by simp only [PyData.leavesShort], by simp only [PyData.canLay0]⟩
  | .int i, h => by
    have h1 : i.natAbs.log2 < 900 := by simpa only [okD, decide_eq_true_eq] using h
    refine ⟨by simp only [PyData.showable, decide_eq_true_eq]; omega, by simp only [PyData.hasDict], ?_, by simp only [PyData.canLay0]⟩
    have h2 := int_text_length_le (a := i) (k := 900) (by decide) h1
    have h3 : (PyData.shown (.int i)).length ≤ 1000 := by
      simp only [PyData.shown]
      show (Str.ofString (toString i)).length ≤ 1000
      have h4 := PySem.ofString_length (toString i)
      omega
    simp only [PyData.leavesShort]
    exact decide_eq_true h3
  | .str x, h => by
    have h1 : ∀ c ∈ x.cps.toList, c < 1114112 := by simpa only [okD, List.all_eq_true, decide_eq_true_eq] using h
    refine ⟨by simp only [PyData.showable], by simp only [PyData.hasDict], ?_, ?_⟩
    · simp only [PyData.leavesShort, List.all_eq_true, decide_eq_true_eq]
      intro c hc
      exact Nat.lt_of_lt_of_le (h1 c hc) (by decide)
    · simp only [PyData.canLay0, PyData.strOk]
      rw [← Array.all_toList, List.all_eq_true]
      intro c hc
      exact decide_eq_true (h1 c hc)
  | .list xs, h => by
    obtain ⟨a, b, c, d⟩ := okDs_all xs (by simpa only [okD] using h)
    exact ⟨by simpa only [PyData.showable] using a, by simpa only [PyData.hasDict] using b, by simpa only [PyData.leavesShort] using c, by simpa only [PyData.canLay0] using d⟩
  | .tuple xs, h => by
    obtain ⟨a, b, c, d⟩ := okDs_all xs (by simpa only [okD] using h)
    exact ⟨by simpa only [PyData.showable] using a, by simpa only [PyData.hasDict] using b, by simpa only [PyData.leavesShort] using c, by simpa only [PyData.canLay0] using d⟩
  | .dict _, h => by simp only [okD, Bool.false_eq_true] at h
theorem okDs_all : ∀ xs : List PyData, okDs xs = true → PyData.showableAll xs = true ∧ PyData.hasDictAll xs = false ∧ PyData.leavesShortAll 1000 xs = true ∧ PyData.canLayAll0 xs = true
  | [], _ => ⟨by simp only [PyData.showableAll], by simp only [PyData.hasDictAll], by simp only [PyData.leavesShortAll], by simp only [PyData.canLayAll0]⟩
  | x :: xs, h => by
    have h1 : okD x = true ∧ okDs xs = true := by simpa only [okDs, Bool.and_eq_true] using h
    obtain ⟨a, b, c, d⟩ := okD_all x h1.1
    obtain ⟨a', b', c', d'⟩ := okDs_all xs h1.2
    exact ⟨by simp only [PyData.showableAll, a, a', Bool.and_self], by simp only [PyData.hasDictAll, b, b', Bool.or_self], by simp only [PyData.leavesShortAll, c, c', Bool.and_self], by simp only [PyData.canLayAll0, d, d', Bool.and_self]⟩
end
/-- x is the data d, small enough -/
structure GD (K : PySem.W.Frag) (H : Hp) (x : V) (d : PyData) : Prop where
  at_ : Dp K H x d
  ok : okD d = true
  bk : d.bulk ≤ 10000
  dp : d.depth ≤ 60
theorem GD.shaped {K : PySem.W.Frag} {H : Hp} {x : V} {d : PyData} (h : GD K H x d) : SeqAt.shaped d = true := by
  unfold SeqAt.shaped
  rw [(okD_all d h.ok).2.2.2, decide_eq_true (Nat.le_trans h.dp (by decide))]
  rfl
theorem GD.short {K : PySem.W.Frag} {H : Hp} {x : V} {d : PyData} (h : GD K H x d) : d.shown.length ≤ sizeLine := by
  have e := PyData.shown_le_bulk 1000 (by decide) d (okD_all d h.ok).2.2.1
  have b := h.bk
  rw [sizeLine_eq]
  have m : (1000 + 2) * d.bulk ≤ (1000 + 2) * 10000 := Nat.mul_le_mul_left _ b
  omega
section
variable {X : Cx}
theorem cr_show (gd : X.A.guards = some []) (hu : X.A.units + 64 < cLine) : CallR X (.builtin "repr") (fun xs H Q => ∃ x d, xs = [x] ∧ GD X.K H x d ∧ Q (.str d.shown) H) := by
  intro pins s σ H xs us Q I r h
  obtain ⟨x, d, rfl, g, q⟩ := h
  obtain ⟨a, b, _, _⟩ := okD_all d g.ok
  exact cr_repr gd hu pins s σ H _ us Q I r ⟨x, d, rfl, g.at_, a, b, g.dp, g.short, q⟩
theorem op_eqG (hu : X.A.units + 64 < cLine) : OpR X (compareOp .Eq) (fun x y H Q => ∃ d e, GD X.K H x d ∧ GD X.K H y e ∧ Q (.bl (PyData.eqv d e)) H) := by
  intro pins s σ H x y v u Q I rx ry h
  obtain ⟨d, e, hd, he, q⟩ := h
  exact op_eqD hu pins s σ H x y v u Q I rx ry ⟨d, e, hd.at_, he.at_, hd.shaped, he.shaped, q⟩
theorem op_neG (hu : X.A.units + 64 < cLine) : OpR X (compareOp .NotEq) (fun x y H Q => ∃ d e, GD X.K H x d ∧ GD X.K H y e ∧ Q (.bl (!PyData.eqv d e)) H) := by
  intro pins s σ H x y v u Q I rx ry h
  obtain ⟨d, e, hd, he, q⟩ := h
  exact op_neD hu pins s σ H x y v u Q I rx ry ⟨d, e, hd.at_, he.at_, hd.shaped, he.shaped, q⟩
end
theorem GD.of {K : PySem.W.Frag} {H : Hp} {a : Addr} {xs : List V} {ds : List PyData} (h : SqL K H a xs) (p : DpAll K H xs ds) (o : okDs ds = true) (b : PyData.bulkAll ds ≤ 10000) (n : PyData.depthAll ds ≤ 59) : GD K H (.ref a) (.list ds) :=
  ⟨.lst h p, by simpa only [okD] using o, by simpa only [PyData.bulk] using b, by simp only [PyData.depth]; omega⟩
theorem GD.ofT {K : PySem.W.Frag} {H : Hp} {a : Addr} {xs : List V} {ds : List PyData} (h : SqT K H a xs) (p : DpAll K H xs ds) (o : okDs ds = true) (b : PyData.bulkAll ds ≤ 10000) (n : PyData.depthAll ds ≤ 59) : GD K H (.ref a) (.tuple ds) :=
  ⟨.tup h p, by simpa only [okD] using o, by simpa only [PyData.bulk] using b, by simp only [PyData.depth]; omega⟩
end EH

namespace EH
open PySem PySem.Spec PyProof.Rows L2
theorem pow_ok {m : Int} (h0 : 0 < m) (h1 : m ≤ 1000000) : m.natAbs < 2 ^ 2000 :=
  Nat.lt_of_lt_of_le (show m.natAbs < 2 ^ 20 by omega) (Nat.pow_le_pow_right (by decide) (by decide))
theorem log2_of_lt {n k : Nat} (hk : 0 < k) (h : n < 2 ^ k) : n.log2 < k := by
  by_cases h0 : n = 0
  · subst h0
    simpa using hk
  · exact (Nat.log2_lt h0).mpr h
end EH

set_option Elab.async false
set_option linter.all false
set_option maxRecDepth 100000
set_option maxHeartbeats 2000000
/-! EH2: texts as rows of signs: our rules beside the hand layer's. -/
namespace EH
open PySem PySem.Spec PyProof.Rows L2
open SX (S S_len S_cat S_inj join_S S_tl)
/-- x[lo:hi], of signs -/
def cutN (a : List Nat) (lo hi : Option Int) : List Nat := (a.drop (HT.sIx a.length 0 lo)).take (HT.sIx a.length a.length hi - HT.sIx a.length 0 lo)
theorem cutS_S (a : List Nat) (lo hi : Option Int) : cutS (S a) lo hi = S (cutN a lo hi) := by
  unfold cutS cutN
  rw [S_len]
theorem cutN_all (a : List Nat) : cutN a none none = a := by
  unfold cutN
  rw [HT.sIx_none, HT.sIx_none, Nat.sub_zero, List.drop_zero, List.take_length]
theorem cutN_to (a : List Nat) (k : Nat) : cutN a none (some (k : Int)) = a.take k := by
  unfold cutN
  rw [HT.sIx_none, HT.sIx_nat, List.drop_zero, Nat.sub_zero]
  rcases Nat.le_total k a.length with h | h
  · rw [Nat.min_eq_left h]
  · rw [Nat.min_eq_right h, List.take_of_length_le (Nat.le_refl _), List.take_of_length_le h]
theorem cutN_from (a : List Nat) (k : Nat) : cutN a (some (k : Int)) none = a.drop k := by
  unfold cutN
  rw [HT.sIx_none, HT.sIx_nat]
  rcases Nat.le_total k a.length with h | h
  · rw [Nat.min_eq_left h, List.take_of_length_le (by rw [List.length_drop]; exact Nat.le_refl _)]
  · rw [Nat.min_eq_right h, List.drop_eq_nil_of_le (Nat.le_refl _), List.drop_eq_nil_of_le h, List.take_nil]
theorem cutN_len (a : List Nat) (lo hi : Option Int) : (cutN a lo hi).length ≤ a.length := by
  unfold cutN
  rw [List.length_take, List.length_drop]
  omega
theorem cutN_mid (a : List Nat) (i j : Nat) : cutN a (some (i : Int)) (some (j : Int)) = (a.drop i).take (j - i) := by
  unfold cutN
  rw [HT.sIx_nat, HT.sIx_nat]
  rcases Nat.le_total i a.length with h | h
  · rw [Nat.min_eq_left h]
    rcases Nat.le_total j a.length with h' | h'
    · rw [Nat.min_eq_left h']
    · rw [Nat.min_eq_right h', List.take_of_length_le (by rw [List.length_drop]; exact Nat.le_refl _), List.take_of_length_le (by rw [List.length_drop]; omega)]
  · rw [Nat.min_eq_right h, List.drop_eq_nil_of_le (Nat.le_refl _), List.drop_eq_nil_of_le h, List.take_nil, List.take_nil]
theorem count_S (a : List Nat) (c : Nat) : Txt.count (S a) (S [c]) = ((a.count c : Nat) : Int) := by
  show Txt.count (S a) ⟨#[c]⟩ = _
  rw [count_cnt]
  show cnt c a = _
  induction a with
  | nil => rfl
  | cons x r ih =>
    rw [cnt_cons, ih, List.count_cons]
    by_cases e : x = c
    · subst e
      simp
      omega
    · simp [e]
section
variable {X : Cx}
/-- a written text -/
theorem pe_lit {x : Str} {j pos} {l : List Nat} (h : x = S l) : PE X (.Constant (.str x) j pos) (tC (.str (S l))) := by
  subst h
  exact pe_str
theorem mt_countS : MtR X "str.count" (fun x xs H Q => ∃ (a : List Nat) (c : Nat), x = .str (S a) ∧ xs = [.str (S [c])] ∧ Q (.int (a.count c : Nat)) H) := by
  intro pins s σ H x v xs us Q I r rs h
  obtain ⟨a, c, rfl, rfl, q⟩ := h
  rw [← count_S] at q
  exact mt_count pins s σ H _ _ _ _ Q I r rs ⟨_, _, rfl, rfl, q⟩
theorem sl_S : SlR X (fun x lo hi H Q => ∃ a : List Nat, x = .str (S a) ∧ a.length ≤ sizeLine ∧ Q (.str (S (cutN a lo hi))) H) := by
  intro pins s σ H x v vl vu lo hi sl Q I rx hs pl pu h
  obtain ⟨a, rfl, hz, q⟩ := h
  rw [← cutS_S] at q
  exact sl_str pins s σ H _ v vl vu lo hi sl Q I rx hs pl pu ⟨_, rfl, by rw [S_len]; exact hz, q⟩
theorem op_add_S : OpR X (binaryOp .Add) (fun x y H Q => ∃ a b : List Nat, x = .str (S a) ∧ y = .str (S b) ∧ a.length + b.length ≤ sizeLine ∧ Q (.str (S (a ++ b))) H) := by
  intro pins s σ H x y v u Q I rx ry h
  obtain ⟨a, b, rfl, rfl, hz, q⟩ := h
  rw [← S_cat] at q
  exact op_add_str pins s σ H _ _ v u Q I rx ry ⟨_, _, rfl, rfl, by rw [S_len, S_len]; exact hz, q⟩
theorem op_rep_S : OpR X (binaryOp .Mult) (fun x y H Q => ∃ (a : List Nat) (n : Nat), x = .str (S a) ∧ y = .int n ∧ n ≤ 1000000 ∧ a.length * n ≤ sizeLine ∧ a.length ≤ 1000000 ∧ Q (.str (S (List.replicate n a).flatten)) H) := by
  intro pins s σ H x y v u Q I rx ry h
  obtain ⟨a, n, rfl, rfl, h1, h2, h3, q⟩ := h
  exact op_rep_str pins s σ H _ _ v u Q I rx ry ⟨_, n, rfl, rfl, h1, by rw [S_len]; exact h2, by rw [S_len]; exact h3, q⟩
theorem op_eq_S : OpR X (compareOp .Eq) (fun x y H Q => ∃ a b : List Nat, x = .str (S a) ∧ y = .str (S b) ∧ Q (.bl (decide (a = b))) H) := by
  intro pins s σ H x y v u Q I rx ry h
  obtain ⟨a, b, rfl, rfl, q⟩ := h
  refine op_eq pins s σ H _ _ v u Q I rx ry ⟨rfl, ?_⟩
  have e : decide (V.str (S a) = V.str (S b)) = decide (a = b) := by
    by_cases h : a = b
    · subst h; simp
    · rw [decide_eq_false h, decide_eq_false]
      exact fun z => h (S_inj (V.str.inj z))
  rw [e]
  exact q
theorem op_ne_S : OpR X (compareOp .NotEq) (fun x y H Q => ∃ a b : List Nat, x = .str (S a) ∧ y = .str (S b) ∧ Q (.bl (!decide (a = b))) H) := by
  intro pins s σ H x y v u Q I rx ry h
  obtain ⟨a, b, rfl, rfl, q⟩ := h
  refine op_ne pins s σ H _ _ v u Q I rx ry ⟨rfl, ?_⟩
  have e : decide (V.str (S a) = V.str (S b)) = decide (a = b) := by
    by_cases h : a = b
    · subst h; simp
    · rw [decide_eq_false h, decide_eq_false]
      exact fun z => h (S_inj (V.str.inj z))
  rw [e]
  exact q
theorem op_in_S : OpR X (compareOp .In) (fun x y H Q => ∃ (c : Nat) (a : List Nat), x = .str (S [c]) ∧ y = .str (S a) ∧ Q (.bl (decide (c ∈ a))) H) := by
  intro pins s σ H x y v u Q I rx ry h
  obtain ⟨c, a, rfl, rfl, q⟩ := h
  exact op_in_sign pins s σ H _ _ v u Q I rx ry ⟨c, S a, rfl, rfl, q⟩
theorem op_notIn_S : OpR X (compareOp .NotIn) (fun x y H Q => ∃ (c : Nat) (a : List Nat), x = .str (S [c]) ∧ y = .str (S a) ∧ Q (.bl (!decide (c ∈ a))) H) := by
  intro pins s σ H x y v u Q I rx ry h
  obtain ⟨c, a, rfl, rfl, q⟩ := h
  exact op_notIn_sign pins s σ H _ _ v u Q I rx ry ⟨c, S a, rfl, rfl, q⟩
theorem call_len_S : CallR X (.builtin "len") (fun xs H Q => ∃ a : List Nat, xs = [.str (S a)] ∧ a.length ≤ sizeLine ∧ Q (.int (a.length : Nat)) H) := by
  intro pins s σ H xs us Q I r h
  obtain ⟨a, rfl, hz, q⟩ := h
  refine call_len_str pins s σ H _ us Q I r ⟨_, rfl, by rw [S_len]; exact hz, ?_⟩
  rw [S_len]
  exact q
theorem mt_joinS : MtR X "str.join" (fun x xs H Q => ∃ (p : Addr) (ys : List (List Nat)), x = .str (S []) ∧ xs = [.ref p] ∧ (SqL X.K H p (ys.map fun y => V.str (S y)) ∨ SqT X.K H p (ys.map fun y => V.str (S y))) ∧ ys.flatten.length ≤ 16777216 ∧ Q (.str (S ys.flatten)) H) := by
  intro pins s σ H x v xs us Q I r rs h
  obtain ⟨p, ys, rfl, rfl, hp, hz, q⟩ := h
  have e0 : (ys.map fun y => V.str (S y)) = (ys.map S).map V.str := by rw [List.map_map]; rfl
  have ej : ∀ l : List (List Nat), TL.joinL [] l = l.flatten := by
    intro l
    induction l with
    | nil => rfl
    | cons a l ih =>
      cases l with
      | nil => rw [List.flatten_cons, List.flatten_nil, List.append_nil]; rfl
      | cons b l => rw [List.flatten_cons, ← ih]; rfl
  have el : ∀ l : List (List Nat), ((l.map S).map (·.length)).sum = l.flatten.length := by
    intro l
    induction l with
    | nil => rfl
    | cons a l ih => rw [List.map_cons, List.map_cons, List.sum_cons, ih, List.flatten_cons, List.length_append, S_len]
  rw [e0] at hp
  refine mt_join pins s σ H _ _ _ _ Q I r rs ⟨_, p, ys.map S, rfl, rfl, hp, ?_, ?_⟩
  · rw [el, S_len]
    simpa using hz
  · rw [join_S, ej]
    exact q
end
/-- x[::-1] -/
theorem revN (a : List Nat) (u : Tok) : Txt.sliceBy (S a) none none (-1, u) = S a.reverse := by
  have h := step_rev_list (S a) u
  generalize Txt.sliceBy (S a) none none (-1, u) = z at h ⊢
  have e : z = S z.cps.toList := (S_tl z).symm
  rw [e, h]
  congr 1
  have hl : (S a).length = a.length := S_len a
  have : ((List.range (S a).length).map fun k => (S a).cps.getD ((S a).length - 1 - k) 0) = a.reverse := by
    rw [hl]
    refine List.ext_getElem (by simp) fun i h1 h2 => ?_
    rw [List.getElem_map, List.getElem_range, List.getElem_reverse]
    have hi : i < a.length := by simpa using h1
    show (a.toArray).getD (a.length - 1 - i) 0 = _
    have hj : a.length - 1 - i < a.length := by omega
    simp [Array.getD, hj]
  rw [this]
def tRevS (te : TE) : TE := fun σ H Q => te σ H fun x H1 => ∃ a : List Nat, x = .str (S a) ∧ a.length ≤ sizeLine ∧ Q (.str (S a.reverse)) H1
theorem pe_revS {X : Cx} {e : Expr} {te : TE} {k : Nat} {p1 p2 p3 pos : Pos} (he : PE X e te) : PE X (.Subscript e (.Slice none none (some (.UnaryOp .USub (.Constant (.int 1) k p1) p2)) p3) pos) (tRevS te) := by
  refine ⟨fun pins s σ H Q I h => ?_⟩
  refine Subscript_ (thn (he.run pins s σ H _ I h) fun v s1 ⟨x, H1, I1, r1, q1⟩ => ?_)
  obtain ⟨a, ex, hz, q⟩ := q1
  subst ex
  obtain ⟨t, rfl⟩ := r1
  have hst : PO X (some (.UnaryOp .USub (.Constant (.int 1) k p1) p2)) (tPart (tUn (rU fun i => .int (-i)) (tC (.int 1)))) := po_some (pe_un un_neg pe_int)
  refine wpAny_Slice (thn (po_none.run pins s1 σ H1 (fun o H2 => o = none ∧ H2 = H1) I1 ⟨rfl, rfl⟩) fun vl s2 ⟨l, H2, I2, pl, el, e2⟩ => ?_)
  subst el e2
  refine thn (po_none.run pins s2 σ H2 (fun o H3 => o = none ∧ H3 = H2) I2 ⟨rfl, rfl⟩) fun vu s3 ⟨u, H3, I3, pu, eu, e3⟩ => ?_
  subst eu e3
  refine thn (hst.run pins s3 σ H3 (fun o H4 => o = some (-1) ∧ H4 = H3) I3 ⟨1, rfl, -1, rfl, rfl, rfl⟩) fun vs s4 ⟨o, H4, I4, ps, eo, e4⟩ => ?_
  subst eo e4
  have I5 : L2.Inv X pins σ H4 { s4 with heap := s4.heap.push { cls := .type "slice", data := .fields #[vl, vu, vs] } } := I4.kept (t' := s4.toks) fun b ob q => Heap.get?_push_of_some _ q
  obtain ⟨l, rfl, hl1⟩ := IsPart.raw pl
  obtain ⟨u, rfl, hu1⟩ := IsPart.raw pu
  obtain ⟨w, rfl, hw1⟩ := IsPart.raw ps
  cases l with
  | some l => cases hl1
  | none =>
  cases u with
  | some u => cases hu1
  | none =>
  cases w with
  | none => cases hw1
  | some w =>
  obtain ⟨i, tw⟩ := w
  have ei : i = -1 := Option.some.inj hw1
  subst ei
  show wpAny (model X.prog X.w) X.A (subscriptTail e (.Slice none none (some (.UnaryOp .USub (.Constant (.int 1) k p1) p2)) p3) (.str (S a) t) (.ref s4.heap.objs.size)) (EP X pins σ Q) X.xe { s4 with heap := s4.heap.push { cls := .type "slice", data := .fields #[_, _, _] } }
  refine tail_any (ops := [.str (S a) t, .ref s4.heap.objs.size]) (typeIs_str _ _ _) F.slot_str_getitem.lookup ?_ (by with_unfolding_all rfl)
  refine wpAny_getItem_str_slice (l := none) (u := none) (st := some (-1, tw)) ⟨_, Heap.get?_push_size _ rfl, rfl, rfl⟩ rfl ?_
  have er := revN a tw
  unfold Txt.sliceBy at er
  show Made.post (if _ then Made.val (.str (S a) t) else Made.str _) _ _
  split
  · rename_i c
    rw [if_pos c] at er
    exact ⟨.str (S a), _, I5, ⟨t, rfl⟩, by rw [er]; exact q⟩
  · rename_i c
    rw [if_neg c] at er
    have hl2 : (Str.length ⟨(List.filterMap (fun x => (S a).cps[x]?) (slicePicked (S a) none none (some (-1, tw)))).toArray⟩) = a.length := by
      rw [er, S_len, List.length_reverse]
    refine ⟨Nat.le_trans (Nat.le_of_eq hl2) hz, ?_⟩
    show EP X pins σ Q (.str ⟨(List.filterMap (fun x => (S a).cps[x]?) (slicePicked (S a) none none (some (-1, tw)))).toArray⟩ _) _
    rw [er]
    exact ⟨.str (S a.reverse), _, I5.tok _, ⟨_, rfl⟩, q⟩
/-- the signs of a text, as values -/
def sgs (a : List Nat) : List V := a.map fun c => V.str (S [c])
theorem vals_signs {a : List Nat} {acc : Array Value} (h : ItemsOf (SignAt (S a)) acc (S a).cps.size) : Vals (sgs a) acc.toList := by
  obtain ⟨hs, hi⟩ := h
  have hs' : acc.size = a.length := by rw [hs]; simp
  have key : ∀ (b : List Nat) (l : List Value), b.length = l.length → (∀ (j : Nat) (v : Value), l[j]? = some v → ∃ c u, b[j]? = some c ∧ v = Value.str ⟨#[c]⟩ u) → Vals (sgs b) l := by
    intro b
    induction b with
    | nil =>
      intro l hl _
      cases l with
      | nil => exact .nil
      | cons v l => cases hl
    | cons c b ih =>
      intro l hl h
      cases l with
      | nil => cases hl
      | cons v l =>
        obtain ⟨c', u, e1, e2⟩ := h 0 v rfl
        cases e1
        exact .cons ⟨u, e2⟩ (ih l (Nat.succ.inj hl) fun j v hj => h (j + 1) v hj)
  refine key a acc.toList (by rw [Array.length_toList]; exact hs'.symm) fun j v hj => ?_
  obtain ⟨c, u, h1, h2⟩ := hi j v (by simpa using hj)
  exact ⟨c, u, by simpa using h1, h2⟩
theorem call_list_S {X : Cx} (hc : X.calm = true) : CallR X (.type "list") (fun xs H Q => ∃ a : List Nat, xs = [.str (S a)] ∧ a.length ≤ sizeLine ∧ ∀ l, H l = none → Q (.ref l) (upd H l (.lst (sgs a)))) := by
  intro pins s σ H xs us Q I r h
  obtain ⟨a, rfl, hz, q⟩ := h
  obtain ⟨u, rfl, rx⟩ := vals1 r
  obtain ⟨t, rfl⟩ := rx
  refine call_list_str (I.ok.hd hc) (S a) t (fun h' tk acc' c' kp e hi => ?_) (by simpa using hz)
  have r' := vals_signs hi
  refine ⟨.ref s.heap.objs.size, _, I.laid (t' := tk) kp (Nat.le_refl _) (show ObjOk X.prog X.w _ h' _ (.lst (sgs a)) from ⟨by unfold sgs; rw [List.length_map]; exact hz, acc'.toList, c', r', by rw [Array.toArray_toList]; exact e⟩), rfl, q _ (I.hok.fresh (Nat.le_refl _))⟩
theorem call_tuple_S {X : Cx} (hc : X.calm = true) : CallR X (.type "tuple") (fun xs H Q => ∃ a : List Nat, xs = [.str (S a)] ∧ a.length ≤ sizeLine ∧ ∀ l, H l = none → Q (.ref l) (upd H l (.tup (sgs a)))) := by
  intro pins s σ H xs us Q I r h
  obtain ⟨a, rfl, hz, q⟩ := h
  obtain ⟨u, rfl, rx⟩ := vals1 r
  obtain ⟨t, rfl⟩ := rx
  refine call_tuple_str (I.ok.hd hc) (S a) t (fun h' tk acc kp hi => ?_) (by simpa using hz)
  have r' := vals_signs hi
  have I1 : L2.Inv X pins σ H { s with heap := h' } := I.kept (t' := s.toks) kp
  have I2 : L2.Inv X pins σ (upd H h'.objs.size (.tup (sgs a))) { s with heap := h'.push { cls := .type "tuple", data := .seq acc }, toks := tk } :=
    I1.laid (t' := tk) (fun b o e => Heap.get?_push_of_some _ e) (Nat.le_refl _) (show ObjOk X.prog X.w _ _ _ (.tup (sgs a)) from ⟨by unfold sgs; rw [List.length_map]; exact hz, acc.toList, r', by rw [Array.toArray_toList]; exact IsTup.new _ _⟩)
  exact ⟨.ref h'.objs.size, _, I2, rfl, q _ (I1.hok.fresh (Nat.le_refl _))⟩
/-- what pi_str walks -/
theorem its_at {a : List Nat} {i : Nat} {H H' : Hp} {x : V} (h : (Its (S a)).yld i H x H') : H' = H ∧ ∃ c, a[i]? = some c ∧ x = .str (S [c]) := by
  obtain ⟨e, c, h1, h2⟩ := h
  refine ⟨e, c, ?_, h2⟩
  simpa using h1
theorem its_go {a : List Nat} {i : Nat} {H : Hp} (h : i < a.length) : (Its (S a)).go i H := by
  show i < (S a).cps.size
  simpa using h
theorem its_stop {a : List Nat} {i : Nat} {H : Hp} (h : a.length ≤ i) : (Its (S a)).stop i H := by
  show (S a).cps.size ≤ i
  simpa using h
theorem for_S {a : List Nat} {g : TG} {tb : TS} {D : Ends} {σ : L2.St} {H : Hp} (Pv : Nat → L2.St → Hp → Prop) (h0 : Pv 0 σ H)
    (hs : ∀ i c σ H, a[i]? = some c → Pv i σ H → g (.str (S [c])) σ H fun σ2 H2 => tb { D with nx := Pv (i + 1), ct := Pv (i + 1), bk := D.nx } σ2 H2) (hd : ∀ σ H, Pv a.length σ H → D.nx σ H) :
    ∃ W : Nat → Nat → L2.St → Hp → Prop, (∃ m, W 0 m σ H) ∧ ∀ i m σ H, W i m σ H →
      ((Its (S a)).stop i H ∧ D.nx σ H) ∨ ((Its (S a)).go i H ∧ ∃ N : L2.St → Hp → Prop, (∀ σ' H', N σ' H' → ∃ m', m' < m ∧ W (i + 1) m' σ' H') ∧ ∀ x H', (Its (S a)).yld i H x H' → g x σ H' fun σ2 H2 => tb { D with nx := N, ct := N, bk := D.nx } σ2 H2) := by
  refine ⟨fun i m σ H => m = a.length - i ∧ i ≤ a.length ∧ Pv i σ H, ⟨a.length, by simp, Nat.zero_le _, h0⟩, ?_⟩
  rintro i m σ H ⟨rfl, hi, p⟩
  by_cases hlt : i < a.length
  · refine .inr ⟨its_go hlt, Pv (i + 1), fun σ' H' p' => ⟨a.length - (i + 1), by omega, rfl, hlt, p'⟩, fun x H' y => ?_⟩
    obtain ⟨rfl, c, hc, rfl⟩ := its_at y
    exact hs i c σ _ hc p
  · have e : i = a.length := by omega
    subst e
    exact .inl ⟨its_stop (Nat.le_refl _), hd σ H p⟩
theorem lc_S {a : List Nat} {g : TG} {tt : TT} {te : TE} {vs : List Nat} {σ : L2.St} {H1 : Hp} {D : Addr} {Qd : Hp → Prop} (Pv : Nat → Hp → Prop) (h0 : Pv 0 (upd H1 D (.lst [])))
    (hs : ∀ i c H, a[i]? = some c → Pv i H → g (.str (S [c])) (wipe σ vs) H fun σ2 H2 => wipe σ2 vs = wipe σ vs ∧ tt σ2 H2 fun b H3 =>
      if b = true then te σ2 H3 fun y H4 => ∃ acc, H4 D = some (.lst acc) ∧ acc.length < sizeLine ∧ Pv (i + 1) (upd H4 D (.lst (acc ++ [y]))) else Pv (i + 1) H3) (hd : ∀ H, Pv a.length H → Qd H) :
    ∃ W : Nat → Nat → Hp → Prop, (∃ m, W 0 m (upd H1 D (.lst []))) ∧ ∀ i m H, W i m H →
      ((Its (S a)).stop i H ∧ Qd H) ∨ ((Its (S a)).go i H ∧ ∃ Nx : Hp → Prop, (∀ H', Nx H' → ∃ m', m' < m ∧ W (i + 1) m' H') ∧ ∀ x H', (Its (S a)).yld i H x H' → g x (wipe σ vs) H' fun σ2 H2 => wipe σ2 vs = wipe σ vs ∧ tt σ2 H2 fun b H3 =>
        if b = true then te σ2 H3 fun y H4 => ∃ acc, H4 D = some (.lst acc) ∧ acc.length < sizeLine ∧ Nx (upd H4 D (.lst (acc ++ [y]))) else Nx H3) := by
  refine ⟨fun i m H => m = a.length - i ∧ i ≤ a.length ∧ Pv i H, ⟨a.length, by simp, Nat.zero_le _, h0⟩, ?_⟩
  rintro i m H ⟨rfl, hi, p⟩
  by_cases hlt : i < a.length
  · refine .inr ⟨its_go hlt, Pv (i + 1), fun H' p' => ⟨a.length - (i + 1), by omega, rfl, hlt, p'⟩, fun x H' y => ?_⟩
    obtain ⟨rfl, c, hc, rfl⟩ := its_at y
    exact hs i c _ hc p
  · have e : i = a.length := by omega
    subst e
    exact .inl ⟨its_stop (Nat.le_refl _), hd H p⟩
end EH

set_option Elab.async false
set_option linter.all false
set_option maxRecDepth 100000
set_option maxHeartbeats 2000000
/-! EH3: enumerate over a text; words of lists. -/
namespace EH
open PySem PySem.Spec PyProof.Rows L2
open SX (S S_len S_cat S_inj join_S S_tl)
/-- len of a list or a tuple, told by K alone -/
def rLenSq (K : PySem.W.Frag) : List V → Hp → VK → Prop := fun xs H Q => ∃ p ys, xs = [.ref p] ∧ (SqL K H p ys ∨ SqT K H p ys) ∧ Q (.int ys.length) H
/-- the signs of a text, each with its place in a new pair -/
def ItES (x : Str) : It :=
  ⟨fun i _ => i < x.cps.size, fun i H v H' => ∃ T c, v = .ref T ∧ H T = none ∧ H' = upd H T (.tup [.int (i : Nat), .str ⟨#[c]⟩]) ∧ x.cps[i]? = some c, fun i _ => i = x.cps.size⟩
theorem turn_enumS {P : Program} {w : World} {K : PySem.W.Frag} {elts : List Expr} {kk : Nat} {tpos : Pos} (x : Str) (t : Tok) (ty : String) (hty : ty = "str_ascii_iterator" ∨ ty = "str_iterator") (e it : Addr) :
    Turn P w K (.Tuple elts kk tpos) (ItES x) [e, it] e (fun i h => (∃ old, IsEnum h e it ((i : Nat) : Int) old) ∧ h.IsStrIter it ty x t i ∧ e ≠ it) where
  mem := by simp
  obj := fun i h st b hb => by
    obtain ⟨⟨old, he⟩, ⟨o, ho, hc, hd⟩, _⟩ := st
    have e' : b = e ∨ b = it := by simpa using hb
    rcases e' with z | z
    · rw [z]; exact ⟨_, he, fun v q => nomatch q⟩
    · rw [z]; exact ⟨o, ho, fun v q => by rw [hd] at q; cases q⟩
  keep := fun i h h' st k => let ⟨⟨old, he⟩, ⟨o, ho, r⟩, hne⟩ := st; ⟨⟨old, k e (by simp) _ he⟩, ⟨o, k it (by simp) o ho, r⟩, hne⟩
  item := by
    intro X hP hw hK hc i pins s σ H E I hf st hg
    subst hP hw hK
    have D : Draws X.prog X.w X.A.in1 it [it] x.cps.size (fun i v => ∃ c u, x.cps[i]? = some c ∧ v = Value.str ⟨#[c]⟩ u) (fun i h => h.IsStrIter it ty x t i) := by
      rcases hty with e | e
      · rw [e]; exact Draws.strAscii (A := X.A.in1) (show X.A.in1.handled = none from I.ok.hd hc) it x t
      · rw [e]; exact Draws.strWide (A := X.A.in1) (show X.A.in1.handled = none from I.ok.hd hc) it x t
    obtain ⟨⟨old, he⟩, hit, hne⟩ := st
    have hel : e < s.heap.objs.size := Heap.lt_size he
    have hil : it < s.heap.objs.size := by obtain ⟨_, q, _⟩ := hit; exact Heap.lt_size q
    refine wpAny_pyNext_enum_itemD D he hit hg hne (by simpa using hne) fun u h' tk hu ho hit' hT hsz hk => ?_
    obtain ⟨c, tu, hcx, rfl⟩ := hu
    refine ⟨_, rfl, wpAny_letOwnedTupleGo_enum (s := { s with heap := h', toks := tk + 1 }) ho fun h'' he' sb => ?_⟩
    have hT2 : h''.get? s.heap.objs.size = some { cls := .type "tuple", data := .seq #[.int i tk, .str ⟨#[c]⟩ tu] } := (sb.2 _ (Nat.ne_of_gt hel)).trans hT
    have new : ObjOk X.prog X.w (upd H s.heap.objs.size (.tup [.int (i : Nat), .str ⟨#[c]⟩])) h'' s.heap.objs.size (.tup [.int (i : Nat), .str ⟨#[c]⟩]) :=
      ⟨by show 2 ≤ sizeLine; decide, [.int i tk, .str ⟨#[c]⟩ tu], .cons ⟨_, rfl⟩ (.cons ⟨_, rfl⟩ .nil), ⟨_, hT2, rfl, _, rfl⟩⟩
    have I1 : L2.Inv X pins σ (upd H s.heap.objs.size (.tup [.int (i : Nat), .str ⟨#[c]⟩])) { s with heap := h'', toks := tk + 1 } :=
      I.turnedNew (ch := [e, it]) (fun b ob hb q => (sb.2 b (fun z => hb (by simp [z]))).trans (hk b ob (fun z => hb (by simp [z])) (fun z => hb (by simp [z])) q)) hf (Nat.le_refl _) new
    refine ⟨.ref s.heap.objs.size, _, I1, rfl, ⟨_, c, rfl, I.hok.fresh (Nat.le_refl _), rfl, hcx⟩, ⟨⟨.str ⟨#[c]⟩ tu, ?_⟩, ?_, hne⟩, fun b hb => ?_⟩
    · have e1 : ((i + 1 : Nat) : Int) = (i : Int) + 1 := by omega
      rw [e1]; exact he'
    · obtain ⟨o, q1, q2⟩ := hit'
      exact ⟨o, (sb.2 it (Ne.symm hne)).trans q1, q2⟩
    · have hb' : b < s.heap.objs.size := by
        have e' : b = e ∨ b = it := by simpa using hb
        rcases e' with z | z
        · rw [z]; exact hel
        · rw [z]; exact hil
      rw [upd_ne (Nat.ne_of_lt hb')]
      exact (hf b hb).1
  done := by
    intro X hP hw hK hc i pins s σ H E I hf st hg
    subst hP hw hK
    have hi : i = x.cps.size := hg
    subst hi
    have D : Draws X.prog X.w X.A.in1 it [it] x.cps.size (fun i v => ∃ c u, x.cps[i]? = some c ∧ v = Value.str ⟨#[c]⟩ u) (fun i h => h.IsStrIter it ty x t i) := by
      rcases hty with e | e
      · rw [e]; exact Draws.strAscii (A := X.A.in1) (show X.A.in1.handled = none from I.ok.hd hc) it x t
      · rw [e]; exact Draws.strWide (A := X.A.in1) (show X.A.in1.handled = none from I.ok.hd hc) it x t
    obtain ⟨⟨old, he⟩, hit, hne⟩ := st
    obtain ⟨f0, f1, f2, f3, f4, f5⟩ := hf it (by simp)
    exact wpAny_pyNext_enum_endD D he hit fun h' eb => ⟨rfl, I.turned (t' := s.toks) (fun b o hb q => eb b o hb q) f0 f1 f3 f4 f5⟩
  self := fun A i s Q E st h => let ⟨⟨_, he⟩, _⟩ := st; wpAny_pyIter_enum he h
def iEnumS (ta : TA) : TI := fun σ H R => ta σ H fun vs H1 => ∃ a : List Nat, vs = [.str (S a)] ∧ R (ItES (S a)) H1
theorem pi_enumS {X : Cx} {e : Expr} {ta : TA} {p pos tpos : Pos} {elts : List Expr} {kk : Nat} (hg : Gl X "enumerate") (hm : X.mg "enumerate" = none) (ha : PA X [e] ta) (hs : starEach [e] X.env = [(false, eval e X.env)] := by rfl) :
    PI X (.Tuple elts kk tpos) (.Call (.Name "enumerate" p) [e] [] pos) (iEnumS ta) := by
  refine ⟨fun pins s σ H R I h => ?_⟩
  refine Call_ (ld_blt I hg hm boot_enumerate (PyProof.Rows.callWith_type1 (thn (ha.run pos pins s σ H _ I h) fun us s1 ⟨vs, H1, I1, r1, q1⟩ => ?_) hs rfl))
  obtain ⟨a, ex, q⟩ := q1
  subst ex
  obtain ⟨u, rfl, r⟩ := vals1 r1
  obtain ⟨t, rfl⟩ := r
  refine call_enumerate_str fun h' he hit hsz hk => wpAny_pyIter_enum he ?_
  have I2 : L2.Inv X pins σ H1 { s1 with heap := h' } := I1.kept (t' := s1.toks) hk
  have ty : strIterType (S a) = "str_ascii_iterator" ∨ strIterType (S a) = "str_iterator" := by
    unfold strIterType
    split
    · exact .inl rfl
    · exact .inr rfl
  refine ⟨s1.heap.objs.size + 1, [s1.heap.objs.size + 1, s1.heap.objs.size], _, _, H1, rfl, I2, turn_enumS (S a) t _ ty (s1.heap.objs.size + 1) s1.heap.objs.size, ⟨⟨.none, he⟩, hit, Nat.succ_ne_self _⟩, fun b hb => ?_, q⟩
  have e' : b = s1.heap.objs.size + 1 ∨ b = s1.heap.objs.size := by simpa using hb
  have hle : s1.heap.objs.size ≤ b := by
    rcases e' with z | z
    · rw [z]; exact Nat.le_add_right _ _
    · rw [z]; exact Nat.le_refl _
  exact I1.fpOk hle (I1.hok.fresh hle)
/-- each turn's pair: its place and its sign -/
theorem for_ES {K : PySem.W.Frag} {a : List Nat} {g : TG} {tb : TS} {D : Ends} {σ : L2.St} {H : Hp} (Pv : Nat → L2.St → Hp → Prop) (h0 : Pv 0 σ H)
    (hs : ∀ i c σ H T, a[i]? = some c → Pv i σ H → H T = none → g (.ref T) σ (upd H T (.tup [.int (i : Nat), .str (S [c])])) fun σ2 H2 => tb { D with nx := Pv (i + 1), ct := Pv (i + 1), bk := D.nx } σ2 H2) (hd : ∀ σ H, Pv a.length σ H → D.nx σ H) :
    ∃ W : Nat → Nat → L2.St → Hp → Prop, (∃ m, W 0 m σ H) ∧ ∀ i m σ H, W i m σ H →
      ((ItES (S a)).stop i H ∧ D.nx σ H) ∨ ((ItES (S a)).go i H ∧ ∃ N : L2.St → Hp → Prop, (∀ σ' H', N σ' H' → ∃ m', m' < m ∧ W (i + 1) m' σ' H') ∧ ∀ x H', (ItES (S a)).yld i H x H' → g x σ H' fun σ2 H2 => tb { D with nx := N, ct := N, bk := D.nx } σ2 H2) := by
  refine ⟨fun i m σ H => m = a.length - i ∧ i ≤ a.length ∧ Pv i σ H, ⟨a.length, by simp, Nat.zero_le _, h0⟩, ?_⟩
  rintro i m σ H ⟨rfl, hi, p⟩
  by_cases hlt : i < a.length
  · refine .inr ⟨by show i < (S a).cps.size; simpa using hlt, Pv (i + 1), fun σ' H' p' => ⟨a.length - (i + 1), by omega, rfl, hlt, p'⟩, fun x H' y => ?_⟩
    obtain ⟨T, c, rfl, hT, rfl, hc⟩ := y
    exact hs i c σ _ T (by simpa using hc) p hT
  · have e : i = a.length := by omega
    subst e
    exact .inl ⟨by show a.length = (S a).cps.size; simp, hd σ H p⟩
/-- enumerate of a list, in a for and in a comprehension -/
theorem for_E {K : PySem.W.Frag} {a : Addr} {xs : List V} {g : TG} {tb : TS} {D : Ends} {σ : L2.St} {H : Hp} (Pv : Nat → L2.St → Hp → Prop) (h0 : Pv 0 σ H) (hl : ∀ i σ H, i ≤ xs.length → Pv i σ H → SqL K H a xs)
    (hs : ∀ i x σ H T, xs[i]? = some x → Pv i σ H → H T = none → g (.ref T) σ (upd H T (.tup [.int (i : Nat), x])) fun σ2 H2 => tb { D with nx := Pv (i + 1), ct := Pv (i + 1), bk := D.nx } σ2 H2) (hd : ∀ σ H, Pv xs.length σ H → D.nx σ H) :
    ∃ W : Nat → Nat → L2.St → Hp → Prop, (∃ m, W 0 m σ H) ∧ ∀ i m σ H, W i m σ H →
      ((Ite K a).stop i H ∧ D.nx σ H) ∨ ((Ite K a).go i H ∧ ∃ N : L2.St → Hp → Prop, (∀ σ' H', N σ' H' → ∃ m', m' < m ∧ W (i + 1) m' σ' H') ∧ ∀ x H', (Ite K a).yld i H x H' → g x σ H' fun σ2 H2 => tb { D with nx := N, ct := N, bk := D.nx } σ2 H2) := by
  refine ⟨fun i m σ H => m = xs.length - i ∧ i ≤ xs.length ∧ Pv i σ H, ⟨xs.length, by simp, Nat.zero_le _, h0⟩, ?_⟩
  rintro i m σ H ⟨rfl, hi, p⟩
  have q := hl i σ H hi p
  by_cases hlt : i < xs.length
  · refine .inr ⟨⟨xs, xs[i], q, by simp [hlt]⟩, Pv (i + 1), fun σ' H' p' => ⟨xs.length - (i + 1), by omega, rfl, hlt, p'⟩, fun x H' y => ?_⟩
    obtain ⟨T, z, rfl, hT, rfl, hz⟩ := y
    exact hs i z σ _ T (hz xs q) p hT
  · have e : i = xs.length := by omega
    subst e
    exact .inl ⟨⟨xs, q, Nat.le_refl _⟩, hd σ H p⟩
theorem lc_E {K : PySem.W.Frag} {a : Addr} {xs : List V} {g : TG} {tt : TT} {te : TE} {vs : List Nat} {σ : L2.St} {H1 : Hp} {D : Addr} {Qd : Hp → Prop} (Pv : Nat → Hp → Prop) (h0 : Pv 0 (upd H1 D (.lst []))) (hl : ∀ i H, i ≤ xs.length → Pv i H → SqL K H a xs)
    (hs : ∀ i x H T, xs[i]? = some x → Pv i H → H T = none → g (.ref T) (wipe σ vs) (upd H T (.tup [.int (i : Nat), x])) fun σ2 H2 => wipe σ2 vs = wipe σ vs ∧ tt σ2 H2 fun b H3 =>
      if b = true then te σ2 H3 fun y H4 => ∃ acc, H4 D = some (.lst acc) ∧ acc.length < sizeLine ∧ Pv (i + 1) (upd H4 D (.lst (acc ++ [y]))) else Pv (i + 1) H3) (hd : ∀ H, Pv xs.length H → Qd H) :
    ∃ W : Nat → Nat → Hp → Prop, (∃ m, W 0 m (upd H1 D (.lst []))) ∧ ∀ i m H, W i m H →
      ((Ite K a).stop i H ∧ Qd H) ∨ ((Ite K a).go i H ∧ ∃ Nx : Hp → Prop, (∀ H', Nx H' → ∃ m', m' < m ∧ W (i + 1) m' H') ∧ ∀ x H', (Ite K a).yld i H x H' → g x (wipe σ vs) H' fun σ2 H2 => wipe σ2 vs = wipe σ vs ∧ tt σ2 H2 fun b H3 =>
        if b = true then te σ2 H3 fun y H4 => ∃ acc, H4 D = some (.lst acc) ∧ acc.length < sizeLine ∧ Nx (upd H4 D (.lst (acc ++ [y]))) else Nx H3) := by
  refine ⟨fun i m H => m = xs.length - i ∧ i ≤ xs.length ∧ Pv i H, ⟨xs.length, by simp, Nat.zero_le _, h0⟩, ?_⟩
  rintro i m H ⟨rfl, hi, p⟩
  have q := hl i H hi p
  by_cases hlt : i < xs.length
  · refine .inr ⟨⟨xs, xs[i], q, by simp [hlt]⟩, Pv (i + 1), fun H' p' => ⟨xs.length - (i + 1), by omega, rfl, hlt, p'⟩, fun x H' y => ?_⟩
    obtain ⟨T, z, rfl, hT, rfl, hz⟩ := y
    exact hs i z _ T (hz xs q) p hT
  · have e : i = xs.length := by omega
    subst e
    exact .inl ⟨⟨xs, q, Nat.le_refl _⟩, hd H p⟩
end EH

set_option Elab.async false
set_option linter.all false
set_option maxRecDepth 100000
set_option maxHeartbeats 2000000
/-! EH4: min of texts. -/
namespace EH
open PySem PySem.Spec PyProof.Rows L2
open SX (S S_len S_cat S_inj join_S S_tl)
open PySem.W (minD AlikeAll dataLt dataLt_str min_list_data min_tuple_data)
def minW (t : List Nat) (ts : List (List Nat)) : List Nat := ts.foldl (fun m x => if decide (x < m) = true then x else m) t
def TSd (ts : List (List Nat)) : List PyData := ts.map fun t => PyData.str (S t)
theorem readsAll_strs {h : Heap} : ∀ {ts : List (List Nat)} {its : List Value}, Vals (ts.map fun x => V.str (S x)) its → ∃ as, ReadsAll h its (TSd ts) as
  | [], its, r => by
    rw [List.map_nil] at r
    cases r
    exact ⟨_, .nil⟩
  | t :: ts, its, r => by
    rw [List.map_cons] at r
    cases r with
    | cons r1 r2 =>
      obtain ⟨tk, rfl⟩ := r1
      obtain ⟨as, ih⟩ := readsAll_strs (h := h) r2
      exact ⟨_, .cons (.str _ _) ih⟩
theorem minD_strs : ∀ (ts : List (List Nat)) (t : List Nat), minD (.str (S t)) (TSd ts) = .str (S (minW t ts))
  | [], t => rfl
  | x :: ts, t => by
    unfold minD minW TSd
    rw [List.map_cons, List.foldl_cons, List.foldl_cons]
    have e : dataLt (.str (S x)) (.str (S t)) = decide (x < t) := by
      rw [dataLt_str]
    rw [e]
    by_cases h : x < t
    · rw [decide_eq_true h]
      exact minD_strs ts x
    · rw [decide_eq_false h]
      exact minD_strs ts t
theorem alike_strs (ts : List (List Nat)) : AlikeAll (TSd ts) := by
  refine ⟨fun x hx y hy => ?_, fun x hx => ?_⟩
  · obtain ⟨a, _, rfl⟩ := List.mem_map.mp hx
    obtain ⟨b, _, rfl⟩ := List.mem_map.mp hy
    rfl
  · obtain ⟨a, _, rfl⟩ := List.mem_map.mp hx
    exact nofun
theorem depth_strs : ∀ ts : List (List Nat), PyData.depthAll (TSd ts) = 0
  | [] => by simp only [TSd, List.map_nil, PyData.depthAll]
  | t :: ts => by
    have ih := depth_strs ts
    unfold TSd at ih ⊢
    simp only [List.map_cons, PyData.depthAll, PyData.depth, ih, Nat.max_self]
/-- min of a list, of a tuple of texts -/
theorem cr_minS {X : Cx} (hc : X.calm = true) (hu : X.A.units + 64 < cLine) : CallR X (.builtin "min") (fun xs H Q => ∃ (a : Addr) (t : List Nat) (ts : List (List Nat)), xs = [.ref a] ∧
    (SqL X.K H a ((t :: ts).map fun x => V.str (S x)) ∨ SqT X.K H a ((t :: ts).map fun x => V.str (S x))) ∧ Q (.str (S (minW t ts))) H) := by
  intro pins s σ H vs us Q I r h
  obtain ⟨a, t, ts, rfl, hs, q⟩ := h
  rw [Vals.ref1 r]
  have dp := depth_strs (t :: ts)
  have fin : ∀ (v : Value) (h' : Heap) (tk : Nat) (bs : List Addr), Reads h' v (minD (.str (S t)) (TSd ts)) bs → (∀ b o, s.heap.get? b = some o → h'.get? b = some o) → EP X pins σ Q v { s with heap := h', toks := tk } := by
    intro v h' tk bs hr hk
    rw [minD_strs] at hr
    cases hr with
    | str x t' => exact ⟨.str _, H, I.kept hk, ⟨_, rfl⟩, q⟩
  rcases hs with hs | hs
  · obtain ⟨its, rv, hl, _⟩ := I.list hs
    obtain ⟨as, ra⟩ := readsAll_strs (h := s.heap) rv
    exact min_list_data (x := .str (S t)) (xs := TSd ts) (I.ok.hd hc) hl.isList ra (alike_strs (t :: ts)) (by show _ + 1 + PyData.depthAll (TSd (t :: ts)) < _; rw [dp]; omega) fun i v h' tk bs _ hr hk => fin v h' tk bs hr hk
  · obtain ⟨its, rv, hl, _⟩ := I.tuple hs
    obtain ⟨as, ra⟩ := readsAll_strs (h := s.heap) rv
    exact min_tuple_data (x := .str (S t)) (xs := TSd ts) (I.ok.hd hc) hl ra (alike_strs (t :: ts)) (by show _ + 1 + PyData.depthAll (TSd (t :: ts)) < _; rw [dp]; omega) fun i v h' tk bs _ hr hk => fin v h' tk bs hr hk
end EH

set_option Elab.async false
set_option linter.all false
set_option maxRecDepth 100000
set_option maxHeartbeats 4000000
namespace EH
open PySem PySem.Spec PyProof.Rows L2
open SX (S S_len S_cat S_inj join_S S_tl)
/-! ### texts: how they begin -/
theorem starts_S (a l : List Nat) : PySem.Txt.startswith (S a) (S l) = decide (a.take l.length = l) := by
  have ea : (S a).cps.toList = a := rfl
  have el : (S l).cps.toList = l := rfl
  have la : (S a).length = a.length := S_len a
  have ll : (S l).length = l.length := S_len l
  have hx : ((S a).cps.extract 0 (0 + (S l).length)).toList = a.take l.length := by
    rw [Array.toList_extract, ea, ll, Nat.zero_add]
    simp [List.extract]
  have hb : ((S a).cps.extract 0 (0 + (S l).length) == (S l).cps) = decide (a.take l.length = l) := by
    by_cases e : a.take l.length = l
    · rw [decide_eq_true e]
      have : (S a).cps.extract 0 (0 + (S l).length) = (S l).cps := Array.toList_inj.mp (by rw [hx, el, e])
      rw [this]
      exact beq_self_eq_true _
    · rw [decide_eq_false e]
      refine beq_false_of_ne fun z => e ?_
      rw [← hx, z, el]
  show (decide (0 + (S l).length ≤ (S a).length) && ((S a).cps.extract 0 (0 + (S l).length) == (S l).cps)) = _
  rw [hb, la, ll]
  by_cases e : a.take l.length = l
  · have : l.length ≤ a.length := by
      rw [← e, List.length_take]
      exact Nat.min_le_right _ _
    rw [decide_eq_true e, decide_eq_true (by omega)]
    rfl
  · rw [decide_eq_false e, Bool.and_false]
section
variable {X : Cx}
theorem mt_startsS : MtR X "str.startswith" (fun x xs H Q => ∃ a l : List Nat, x = .str (S a) ∧ xs = [.str (S l)] ∧ Q (.bl (decide (a.take l.length = l))) H) := by
  intro pins s σ H x v xs us Q I r rs h
  obtain ⟨a, l, rfl, rfl, q⟩ := h
  rw [← starts_S] at q
  exact mt_startswith pins s σ H _ _ _ _ Q I r rs ⟨_, _, rfl, rfl, q⟩
end
/-! ### data put together: at most n great, at most k deep -/
structure Gd (K : PySem.W.Frag) (H : Hp) (x : V) (d : PyData) (n k : Nat) : Prop where
  at_ : Dp K H x d
  ok : okD d = true
  bk : d.bulk ≤ n
  dp : d.depth ≤ k
structure Gds (K : PySem.W.Frag) (H : Hp) (xs : List V) (ds : List PyData) (n k : Nat) : Prop where
  at_ : DpAll K H xs ds
  ok : okDs ds = true
  bk : PyData.bulkAll ds ≤ n
  dp : PyData.depthAll ds ≤ k
section
variable {K : PySem.W.Frag} {H : Hp} {p : Addr} {x : V} {xs : List V} {d : PyData} {ds : List PyData} {n m k j : Nat}
theorem Gd.gd (h : Gd K H x d n k) (hn : n ≤ 10000) (hk : k ≤ 60) : GD K H x d := ⟨h.at_, h.ok, Nat.le_trans h.bk hn, Nat.le_trans h.dp hk⟩
theorem Gd.int {i : Int} (h : i.natAbs.log2 < 900) : Gd K H (.int i) (.int i) 0 0 := ⟨.int i, by simp only [okD, decide_eq_true h], by simp only [PyData.bulk]; exact Nat.le_refl _, by simp only [PyData.depth]; exact Nat.le_refl _⟩
theorem Gd.bl {b : Bool} : Gd K H (.bl b) (.bool b) 0 0 := ⟨.bl b, by simp only [okD], by simp only [PyData.bulk]; exact Nat.le_refl _, by simp only [PyData.depth]; exact Nat.le_refl _⟩
theorem Gd.non : Gd K H .non .none 0 0 := ⟨.non, by simp only [okD], by simp only [PyData.bulk]; exact Nat.le_refl _, by simp only [PyData.depth]; exact Nat.le_refl _⟩
theorem Gd.str {a : List Nat} (h : (a.all fun c => decide (c < 1114112)) = true) (l : a.length ≤ n) : Gd K H (.str (S a)) (.str (S a)) n 0 :=
  ⟨.str _, by simp only [okD]; exact h, by simp only [PyData.bulk]; show (a.toArray).size ≤ n; simpa using l, by simp only [PyData.depth]; exact Nat.le_refl _⟩
theorem Gds.nil : Gds K H [] [] 0 0 := ⟨.nil, by simp only [okDs], by simp only [PyData.bulkAll]; exact Nat.le_refl _, by simp only [PyData.depthAll]; exact Nat.le_refl _⟩
theorem Gds.cons (h : Gd K H x d n k) (t : Gds K H xs ds m j) : Gds K H (x :: xs) (d :: ds) (n + 1 + m) (max k j) := by
  have h1 := h.bk
  have h2 := t.bk
  have h3 := h.dp
  have h4 := t.dp
  refine ⟨.cons h.at_ t.at_, by simp only [okDs, h.ok, t.ok, Bool.and_self], ?_, ?_⟩
  · simp only [PyData.bulkAll]
    omega
  · simp only [PyData.depthAll]
    omega
theorem Gd.lst (h : SqL K H p xs) (t : Gds K H xs ds n k) : Gd K H (.ref p) (.list ds) n (k + 1) := by
  have h3 := t.dp
  exact ⟨.lst h t.at_, by simp only [okD]; exact t.ok, by simp only [PyData.bulk]; exact t.bk, by simp only [PyData.depth]; omega⟩
theorem Gd.tup (h : SqT K H p xs) (t : Gds K H xs ds n k) : Gd K H (.ref p) (.tuple ds) n (k + 1) := by
  have h3 := t.dp
  exact ⟨.tup h t.at_, by simp only [okD]; exact t.ok, by simp only [PyData.bulk]; exact t.bk, by simp only [PyData.depth]; omega⟩
theorem Gds.ints : ∀ l : List Int, (∀ i ∈ l, i.natAbs.log2 < 900) → Gds K H (l.map V.int) (l.map PyData.int) l.length 0
  | [], _ => Gds.nil
  | i :: l, h => by
    have t := Gds.ints l fun x hx => h x (List.mem_cons_of_mem _ hx)
    have c := Gds.cons (Gd.int (K := K) (H := H) (h i (List.mem_cons_self ..))) t
    refine ⟨c.at_, c.ok, ?_, ?_⟩
    · have h1 : PyData.bulkAll ((i :: l).map PyData.int) ≤ 0 + 1 + l.length := c.bk
      rw [List.length_cons]
      omega
    · have h1 : PyData.depthAll ((i :: l).map PyData.int) ≤ max 0 0 := c.dp
      omega
end
theorem log2_nat {n : Nat} (h : n < 1000000) : ((n : Int)).natAbs.log2 < 900 := by
  rw [Int.natAbs_natCast]
  exact log2_of_lt (by decide) (Nat.lt_of_lt_of_le h (Nat.le_trans (by decide : 1000000 ≤ 2 ^ 20) (Nat.pow_le_pow_right (by decide) (by decide))))
/-- the heap behind a statement under a short name -/
theorem next_by {D : Ends} {σ : L2.St} {H0 H : Hp} (s : Same H0 H) (k : ∀ H', Same H0 H' → tNext D σ H') : tNext D σ H := k H s
theorem cutV_tail (xs : List V) (k : Nat) : cutV xs (some (k : Int)) none = xs.drop k := by
  unfold cutV
  have e0 : HT.sIx xs.length 0 (some (k : Int)) = min k xs.length := HT.sIx_nat xs.length 0 k
  rw [HT.sIx_none, e0]
  have e1 : xs.drop (min k xs.length) = xs.drop k := by
    rcases Nat.le_total k xs.length with h | h
    · rw [Nat.min_eq_left h]
    · rw [Nat.min_eq_right h, List.drop_length, List.drop_of_length_le h]
  rw [e1, List.take_of_length_le]
  rw [List.length_drop]
  omega
theorem ixN_of {n i : Nat} (h : i < n) : ixN n (i : Int) = some i := by
  unfold ixN
  rw [if_pos (by omega), if_pos (by omega), Int.toNat_natCast]
/-! ### rules for two kinds -/
theorem op_or {X : Cx} {f : Value → Value → Sem Value} {r1 r2 : R2} (a : OpR X f r1) (b : OpR X f r2) : OpR X f (fun x y H Q => r1 x y H Q ∨ r2 x y H Q) := by
  intro pins s σ H x y v u Q I rx ry h
  rcases h with h | h
  · exact a pins s σ H x y v u Q I rx ry h
  · exact b pins s σ H x y v u Q I rx ry h
theorem cr_or {X : Cx} {f : Value} {r1 r2 : List V → Hp → VK → Prop} (a : CallR X f r1) (b : CallR X f r2) : CallR X f (fun xs H Q => r1 xs H Q ∨ r2 xs H Q) := by
  intro pins s σ H xs us Q I r h
  rcases h with h | h
  · exact a pins s σ H xs us Q I r h
  · exact b pins s σ H xs us Q I r h
theorem sl_or {X : Cx} {r1 r2 : V → Option Int → Option Int → Hp → VK → Prop} (a : SlR X r1) (b : SlR X r2) : SlR X (fun x lo hi H Q => r1 x lo hi H Q ∨ r2 x lo hi H Q) := by
  intro pins s σ H x v vl vu lo hi sl Q I rx hs pl pu h
  rcases h with h | h
  · exact a pins s σ H x v vl vu lo hi sl Q I rx hs pl pu h
  · exact b pins s σ H x v vl vu lo hi sl Q I rx hs pl pu h
end EH

set_option Elab.async false
set_option linter.all false
set_option maxRecDepth 100000
set_option maxHeartbeats 4000000
/-! EH6: an error that is caught and kept beyond its suite: an object of its own; what asks of it. -/
namespace EH
open PySem PySem.Spec PyProof.Rows L2
/-- at a: an error of the class cls, its own dict at d -/
def exH (cls : Value) (d : Option Addr) (a : Addr) : HO := .ext fun h => ∃ (ob : Obj) (fv : Array Value), h.get? a = some ob ∧ Zc cls d ob ∧ ob.data = .fields fv
theorem exH_ok {P : Program} {w : World} {H : Hp} {h : Heap} {a : Addr} {cls : Value} {d : Option Addr} {ob : Obj} {fv : Array Value} (e : h.get? a = some ob) (z : Zc cls d ob) (f : ob.data = .fields fv) : ObjOk P w H h a (exH cls d a) := by
  refine ⟨⟨ob, fv, e, z, f⟩, ⟨ob, e⟩, ?_⟩
  rintro h1 h2 ⟨o1, f1, e1, z1, d1⟩ keeps
  exact ⟨o1, f1, keeps o1 e1, z1, d1⟩
theorem exH_at {P : Program} {w : World} {H : Hp} {h : Heap} {a : Addr} {cls : Value} {d : Option Addr} (k : HOk P w H h) (e : H a = some (exH cls d a)) : ∃ (ob : Obj) (fv : Array Value), h.get? a = some ob ∧ Zc cls d ob ∧ ob.data = .fields fv := by
  have x := k a _ e
  have y : ObjOk P w H h a (.ext fun h => ∃ (ob : Obj) (fv : Array Value), h.get? a = some ob ∧ Zc cls d ob ∧ ob.data = .fields fv) := x
  exact y.1
section
variable {X : Cx} {pins : List (Addr × Obj)} {σ : L2.St} {H : Hp} {s : Shared} {a : Addr} {ob : Obj} {fv : Array Value} {cls : Value} {d : Option Addr}
/-- an untracked error, newer than the def's begin, is tracked from here on -/
theorem Inv.hold (I : Inv X ((a, ob) :: pins) σ H s) (z : Zc cls d ob) (f : ob.data = .fields fv) (n0 : ∀ o, X.s_0.heap.get? a = some o → False) (np : ∀ p ∈ X.pn ++ pins, p.1 ≠ a) : Inv X pins σ (upd H a (exH cls d a)) s := by
  have mine := I.pin (a, ob) (List.mem_append_right _ (List.mem_cons_self ..))
  have ea : s.heap.get? a = some ob := mine.1
  have na : H a = none := mine.2.1
  have old : ∀ {b : Addr} {o : HO}, H b = some o → b ≠ a := fun q e => by
    rw [e, na] at q
    cases q
  refine ⟨I.ok, I.os, I.bare, ⟨I.base.keep, I.base.slot, ?_, I.base.there, ?_, ?_, ?_⟩, I.loc, I.cell, ?_, ?_, ?_, ?_, I.len⟩
  · intro b o q n hx
    have ne : b ≠ a := fun e => by
      subst e
      exact n0 o q
    rw [upd_ne ne]
    exact I.base.free b o q n hx
  · intro b xs q
    have q2 := I.base.tups b xs q
    rw [upd_ne (old q2)]
    exact q2
  · intro b o u q
    have q2 := I.base.frzs b o u q
    rw [upd_ne (old q2)]
    exact q2
  · intro b ps q
    obtain ⟨more, q2⟩ := I.base.tbls b ps q
    refine ⟨more, ?_⟩
    rw [upd_ne (old q2)]
    exact q2
  · have ne : X.env.locals ≠ a := fun e => mine.2.2.1 e.symm
    rw [upd_ne ne]
    exact I.free
  · intro x c q
    have ne : c ≠ a := by
      rintro rfl
      obtain ⟨v, hv⟩ := I.cell x c q
      obtain ⟨o, e1, e2⟩ : ∃ o, s.heap.get? c = some o ∧ o.data = .cell v := by
        first
          | exact hv
          | (obtain ⟨o, e1, e2⟩ := hv; exact ⟨o, e1, e2⟩)
          | exact ⟨_, hv, rfl⟩
      rw [ea] at e1
      cases e1
      rw [f] at e2
      cases e2
    rw [upd_ne ne]
    exact I.freeC x c q
  · intro p hp
    have old_pin : p ∈ X.pn ++ ((a, ob) :: pins) := by
      rcases List.mem_append.mp hp with h | h
      · exact List.mem_append_left _ h
      · exact List.mem_append_right _ (List.mem_cons_of_mem _ h)
    obtain ⟨q1, q2, q3⟩ := I.pin p old_pin
    refine ⟨q1, ?_, q3⟩
    rw [upd_ne (np p hp)]
    exact q2
  · intro b o q
    by_cases e : b = a
    · subst e
      rw [upd_same] at q
      cases q
      exact exH_ok ea z f
    · rw [upd_ne e] at q
      refine (I.hok b o q).stay (fun c v _ r => r) (fun c r => ?_) (fun c xs r => ?_)
      · rw [upd_ne (old r)]
        exact r
      · rw [upd_ne (old r)]
        exact r
end
end EH
namespace EH
open PySem PySem.Spec PyProof.Rows L2
/-- what the clause 'except x as n' wishes, where nothing but the end of its suite comes next and the error is kept -/
def wHold (K : PySem.W.Frag) (c : Value) (i : Nat) (ts : Addr → Value → Option Addr → TS) (D : Ends) : WX := fun cls d σ H =>
  PySem.W.exmOne K cls c = some true ∧ ∀ a, H a = none →
    ts a cls d { nx := fun σ1 H1 => D.nx (σ1.set i none) (upd H1 a (exH cls d a)), rt := fun _ _ => False, bk := fun _ _ => False, ct := fun _ _ => False } (σ.set i (some (.ref a))) H
section
variable {X : Cx} {pins : List (Addr × Obj)} {σ : L2.St} {H : Hp} {s : Shared} {D : Ends}
/-- behind the suite the error stands pinned yet -/
theorem Inv.unsuiteK {a : Addr} {p : Addr × Obj} {more : List (Addr × Obj)} (I : Inv (X.suite a (p :: (X.pn ++ pins))) more σ H s) (ok : X.Ok) : Inv X (p :: pins) σ H s := by
  refine ⟨ok, I.os, I.bare, I.base, I.loc, I.cell, I.free, I.freeC, ?_, I.hok, I.len⟩
  intro q hq
  refine I.pin q (List.mem_append_left _ ?_)
  rcases List.mem_append.mp hq with h | h
  · exact List.mem_cons_of_mem _ (List.mem_append_left _ h)
  · rcases List.mem_cons.mp h with e | h
    · exact e ▸ List.mem_cons_self ..
    · exact List.mem_cons_of_mem _ (List.mem_append_right _ h)
/-- what is in the air of a try: its state, the error apart -/
theorem caught_new {a : Addr} {B : Heap} {sI : Shared} {H : Hp} {σ : L2.St} (I : Inv X pins σ H sI) (hx : X.ex = []) (kept : ∀ b o, sI.heap.get? b = some o → b ∉ frs X.stack → B.get? b = some o) (fresh : B.get? a = none) (nf : a ∉ frs X.stack) :
    sI.heap.get? a = none ∧ (∀ o, X.s_0.heap.get? a = some o → False) ∧ ∀ p ∈ X.pn ++ pins, p.1 ≠ a := by
  have none_ : sI.heap.get? a = none := by
    cases e : sI.heap.get? a with
    | none => rfl
    | some o =>
      rw [kept a o e nf] at fresh
      cases fresh
  refine ⟨none_, fun o e => ?_, fun p hp e => ?_⟩
  · obtain ⟨o2, e2⟩ := I.base.there a o e (by rw [hx]; exact List.not_mem_nil)
    rw [none_] at e2
    cases e2
  · have q := (I.pin p hp).1
    rw [e, none_] at q
    cases q
theorem frames_no_error {h : Heap} {l : List Env} {B : Heap} {a : Addr} {o : Obj} {fv : Array Value} (ff : h.FunFrames B l) (e : h.get? a = some o) (f : o.data = .fields fv) : a ∉ frs l := by
  intro m
  obtain ⟨_, o2, e2, no⟩ := ff.mem m
  rw [e] at e2
  cases e2
  exact no fv f
end
end EH
namespace EH
open PySem PySem.Spec PyProof.Rows L2
section
variable {X : Cx} {x n : Str} {c : Value} {i : Nat} {body suite : List Stmt} {st0 : Stmt} {np pos pos' : Pos} {tb : WX → TS} {ts : Addr → Value → Option Addr → TS}
/-- what is wished of the body's error: it is noted, and the clause takes it -/
abbrev taken (X : Cx) (hd : ExceptHandler) (pins : List (Addr × Obj)) (D : Ends) : Value → Shared → Prop := fun er sA =>
  wpAny (model X.prog X.w) X.A (noteFrame er X.env) (fun _ sB =>
    wpAny (model X.prog X.w) X.A (setFlight er none) (fun _ sC =>
      wpAny (model X.prog X.w) X.A (handleBy er X.env [hd]) (SP X pins D) X.xe sC) X.xe sB) X.xe sA
theorem ps_try_hold (hs : X.stack = X.env :: X.outer) (hf : X.env.frame = some X.env.locals) (hx : X.ex = []) (hN : X.N.Nodup) (hi : X.N[i]? = some n) (hln : X.env.kindOf n = some .local) (hc : Names X x c)
    (hb : ∀ (W : WX) (pn : List (Addr × Obj)) (xe : Value → Shared → Prop), Takes (X.tr pn xe) W → PassesOwn (model X.prog X.w) X.A X.env xe → PSs (X.tr pn xe) body (tb W))
    (hsu : ∀ (a : Addr) (ob : Obj) (cls : Value) (d : Option Addr) (pn : List (Addr × Obj)), Zc cls d ob → (∃ fv, ob.data = .fields fv) → PSs (X.suite a ((a, ob) :: pn)) (st0 :: suite) (ts a cls d)) :
    PS X (.Try body [.ExceptHandler (some (.Name x np)) (some n) (st0 :: suite) pos'] [] [] pos) (fun D σ H => tb (wHold X.K c i ts D) D σ H) := by
  refine ⟨fun pins s σ H D I h => wpAny_Try_except ?_⟩
  have ok := I.ok
  have top_ : X.A.frames = some (X.env :: X.outer) := ok.frames.trans (congrArg some hs)
  have catch_ : Takes (X.tr (X.pn ++ pins) (taken X (.ExceptHandler (some (.Name x np)) (some n) (st0 :: suite) pos') pins D)) (wHold X.K c i ts D) := by
    rintro u sT ⟨a, B, sI, more, σ1, H1, cls, d, rfl, IT, kept, up, sky, na, os, bare, named, wish⟩
    have J := Inv.ofTry IT ok
    have sky1 : Sky B (X.env :: X.outer) a (Zc cls d) X.env.locals sT.heap := hs ▸ sky
    refine Sky.land Zc.steady top_ hf sky1 fun hp1 fly1 up1 => ?_
    have J1 : Inv X pins σ1 H1 { sT with heap := hp1 } := J.landed kept fly1.1 (up.trans up1) os bare
    obtain ⟨ob1, fv1, at1, zc1, fd1⟩ := fly1.there
    have nfr : a ∉ frs (X.env :: X.outer) := frames_no_error fly1.2.2.1 at1 fd1
    have nloc : a ≠ X.env.locals := by
      rintro rfl
      exact nfr (List.mem_filterMap.mpr ⟨X.env, List.mem_cons_self .., hf⟩)
    have nfs : a ∉ X.fs := fun m => by
      obtain ⟨e, he, q⟩ := List.mem_filterMap.mp m
      exact nfr (List.mem_filterMap.mpr ⟨e, List.mem_cons_of_mem _ he, q⟩)
    obtain ⟨_, new0, newp⟩ := caught_new J hx kept fly1.2.1 (hs ▸ nfr)
    have K1 := J1.suite at1 fd1 na nloc nfs
    have ty : PySem.W.Looks (model X.prog X.w) hp1 (typeOf (.ref a)) cls := fun A Q E sQ keeps q => wpAny_typeOf_ref (keeps _ _ at1) (zc1.1 ▸ q)
    have fits := PySem.W.exm_one (M := model X.prog X.w) J1.kIn ty named
    refine wpAny_handleBy_cons (codeAny_handlers_test ?_) (fun z => nomatch z)
    have name_ : ∀ {Q : Value → Shared → Prop} {E : Value → Shared → Prop}, Q c { sT with heap := hp1 } → wpAny (model X.prog X.w) (X.A.mark (some (.ref a))) (eval (.Name x np) X.env) Q E { sT with heap := hp1 } := by
      intro Q E q
      obtain ⟨gl, nd, m | ⟨m, bt, nn⟩⟩ := hc
      · exact ld_glob (X := X.suite a ((a, ob1) :: (X.pn ++ pins))) K1 gl m q nd
      · exact ld_blt (X := X.suite a ((a, ob1) :: (X.pn ++ pins))) K1 gl m bt q nn nd
    refine name_ (fits.here (codeAny_handlers_suite_as ?_))
    refine HandSPX.lands_againZ fly1 fun hp2 fly2 up2 => ?_
    have J2 : Inv X pins σ1 H1 { sT with heap := hp2 } := J.landed kept fly2.1 ((up.trans up1).trans up2) os bare
    obtain ⟨ob2, fv2, at2, zc2, fd2⟩ := fly2.there
    have K2 := J2.suite at2 fd2 na nloc nfs
    refine store_ok (X := X.suite a ((a, ob2) :: (X.pn ++ pins))) (v := .ref a) K2 hN hi (.inl hln) rfl (fun s5 K5 => ?_) (.inr hln)
    refine wpAny_mono ((hsu a ob2 cls d (X.pn ++ pins) zc2 ⟨_, fd2⟩).run [] s5 _ H1 _ K5 (wish a na)) (fun fl s6 out => ?_) (fun _ _ z => z.elim)
    cases fl with
    | next =>
      obtain ⟨σ6, H6, K6, q6⟩ := out
      exact gone_ok (Inv.unsuiteK K6 ok) hN hi hln fun s7 J7 => ⟨_, _, Inv.hold J7 zc2 fd2 new0 newp, q6⟩
    | brk =>
      obtain ⟨_, _, _, q6⟩ := out
      exact q6.elim
    | cont =>
      obtain ⟨_, _, _, q6⟩ := out
      exact q6.elim
    | ret u =>
      obtain ⟨_, _, _, _, _, q6⟩ := out
      exact q6.elim
  have first_ := (hb (wHold X.K c i ts D) (X.pn ++ pins) _ catch_ PassesOwn.looking).run [] s σ H D (I.toTry _) h
  refine wpAny_mono first_ (fun fl sE out => ?_) (fun _ _ z => z)
  cases fl with
  | next =>
    obtain ⟨σ', H', IE, q⟩ := out
    exact wpAny_execs_nil ⟨σ', H', IE.ofTry ok, q⟩
  | brk =>
    obtain ⟨σ', H', IE, q⟩ := out
    exact ⟨σ', H', IE.ofTry ok, q⟩
  | cont =>
    obtain ⟨σ', H', IE, q⟩ := out
    exact ⟨σ', H', IE.ofTry ok, q⟩
  | ret u =>
    obtain ⟨v, σ', H', IE, r, q⟩ := out
    exact ⟨v, σ', H', IE.ofTry ok, r, q⟩
end
end EH
namespace EH
open PySem PySem.Spec PyProof.Rows L2
open SX (S S_len S_cat S_inj join_S S_tl)
/-! ### classes of errors -/
/-- self.f = v, the one row of __init__(self, f) -/
def spInit1 (C : Addr) (f : Str) : Sp := fun vs H Q _ => ∃ (a : Addr) (v : V), vs = [.ref a, v] ∧ H a = some (exo a C none) ∧ ∀ dx, H dx = none → dx ≠ a → Q .non (upd (upd H dx (exd dx [(f, v)])) a (exo a C (some dx)))
/-- self.f = v; self.g = u -/
def spInit2 (C : Addr) (f g : Str) : Sp := fun vs H Q _ => ∃ (a : Addr) (v u : V), vs = [.ref a, v, u] ∧ H a = some (exo a C none) ∧ ∀ dx, H dx = none → dx ≠ a → Q .non (upd (upd (upd H dx (exd dx [(f, v)])) a (exo a C (some dx))) dx (exd dx [(g, u), (f, v)]))
/-- what the class at C says, so that its errors may be asked -/
structure KitE (K : PySem.W.Frag) (C : Addr) : Prop where
  xf : XfC K C
  ca : PySem.W.findIn K (.ref C) "__class__" = some (some (.builtin "object.__class__"))
  cn : PySem.W.specialIn K (.builtin "object.__class__") "__get__" = some (some (.builtin "getset_descriptor.__get__"))
  ct : PySem.W.takesIn K (.builtin "object.__class__") = some true
  cm : PySem.W.mroIn K C (.type "object") = some true
  cl : (PySem.W.clsIn K C).isSome = true
/-- the class of errors that is named x: at C; its __init__ keeps sp -/
structure ErrC (P : Program) (w : World) (K : PySem.W.Frag) (mg : Str → Option Value) (base : Heap) (x : Str) (C : Addr) (ps : List Str) (sp : Sp) : Prop where
  g : mg x = some (.ref C)
  ox : OexC K C
  ini : ∃ (fI : Addr) (fd : FuncData), PySem.W.findIn K (.ref C) "__init__" = some (some (.ref fI)) ∧ PySem.W.typeIn K (.ref fI) = some (.type "function") ∧ FnOk P w K mg base CX0 1 fI fd ps sp ∧ Binds K fd ps []
  kt : KitE K C
/-- E(v) -/
def tErr1 (C : Addr) (f : Str) (ta : TA) : L2.St → Hp → XK → Prop := fun σ H Q => ta σ H fun vs H1 => ∃ v, vs = [v] ∧ ∀ d, H1 d = none → Q (.ref C) (some d) (upd H1 d (.xd [(f, v)]))
def tErr2 (C : Addr) (f g : Str) (ta : TA) : L2.St → Hp → XK → Prop := fun σ H Q => ta σ H fun vs H1 => ∃ v u, vs = [v, u] ∧ ∀ d, H1 d = none → Q (.ref C) (some d) (upd H1 d (.xd [(g, u), (f, v)]))
theorem made_heap {H : Hp} {a d : Addr} {o o2 o3 : HO} {fs : List (Str × V)} (ha : H a = none) (n : d ≠ a) : upd (del (upd (upd (upd H a o) d o2) a o3) a) d (.xd fs) = upd H d (.xd fs) := by
  funext b
  by_cases e : b = d
  · subst e
    rw [upd_same, upd_same]
  · rw [upd_ne e, upd_ne e]
    by_cases e2 : b = a
    · subst e2
      rw [del_same, ha]
    · rw [del_ne e2, upd_ne e2, upd_ne e, upd_ne e2]
theorem made_heap2 {H : Hp} {a d : Addr} {o o2 o3 o4 : HO} {fs : List (Str × V)} (ha : H a = none) (n : d ≠ a) : upd (del (upd (upd (upd (upd H a o) d o2) a o3) d o4) a) d (.xd fs) = upd H d (.xd fs) := by
  funext b
  by_cases e : b = d
  · subst e
    rw [upd_same, upd_same]
  · rw [upd_ne e, upd_ne e]
    by_cases e2 : b = a
    · subst e2
      rw [del_same, ha]
    · rw [del_ne e2, upd_ne e, upd_ne e2, upd_ne e, upd_ne e2]
/-- a reading that may be weakened -/
def tMore (t : TA) : TA := fun σ H Q => ∃ Q0 : List V → Hp → Prop, t σ H Q0 ∧ ∀ vs H1, Q0 vs H1 → Q vs H1
theorem pa_more {X : Cx} {es : List Expr} {t : TA} (h : PA X es t) : PA X es (tMore t) := by
  refine ⟨fun pos pins s σ H Q I ⟨Q0, q0, imp⟩ => wpAny_mono (h.run pos pins s σ H Q0 I q0) (fun us s1 out => ?_) (fun _ _ z => z)⟩
  obtain ⟨vs, H1, I1, r1, q⟩ := out
  exact ⟨vs, H1, I1, r1, imp _ _ q⟩
section
variable {X : Cx} {x f g : Str} {C : Addr} {ps : List Str} {e : Expr} {es : List Expr} {ta : TA} {p pos : Pos} {k : Nat}
theorem pmk_err1 (h : ErrC X.prog X.w X.K X.mg X.base x C ps (spInit1 C f)) (hr : Room k X.A) (hk : 2 ≤ k) (ha : PA X [e] ta) (hg : Gl X x) (hdb : (x == ("__debug__" : Str)) = false := by decide)
    (he : starEach (e :: []) X.env = (false, eval e X.env) :: starEach [] X.env := by rfl) (hpl : (backTo pos (starEach [] X.env)).any (·.1) = false := by rfl) : PMk X (.Call (.Name x p) [e] [] pos) (tErr1 C f ta) := by
  obtain ⟨fI, fd, iC, tI, F, b⟩ := h.ini
  intro pins s σ H Q I wish
  refine pmk_oex (p := p) (pos := pos) (dvs := []) (ds := []) h.ox iC tI F (hr.mono hk) b .nil pass0 hg h.g (pa_more ha) hdb he hpl pins s σ H Q I ⟨_, wish, ?_⟩
  rintro vs H1 ⟨v, e1, q⟩
  subst e1
  refine ⟨by show 1 ≤ 1000; decide, fun a na => ⟨a, v, rfl, upd_same, fun d nd dn => ⟨rfl, d, [(f, v)], upd_same, ?_, ?_, ?_⟩⟩⟩
  · rw [upd_ne dn]
    exact upd_same
  · rw [upd_ne dn] at nd
    exact nd
  · rw [made_heap na dn]
    rw [upd_ne dn] at nd
    exact q d nd
theorem pmk_err2 {e2 : Expr} (h : ErrC X.prog X.w X.K X.mg X.base x C ps (spInit2 C f g)) (hr : Room k X.A) (hk : 2 ≤ k) (ha : PA X [e, e2] ta) (hg : Gl X x) (hdb : (x == ("__debug__" : Str)) = false := by decide)
    (he : starEach (e :: [e2]) X.env = (false, eval e X.env) :: starEach [e2] X.env := by rfl) (hpl : (backTo pos (starEach [e2] X.env)).any (·.1) = false := by rfl) : PMk X (.Call (.Name x p) [e, e2] [] pos) (tErr2 C f g ta) := by
  obtain ⟨fI, fd, iC, tI, F, b⟩ := h.ini
  intro pins s σ H Q I wish
  refine pmk_oex (p := p) (pos := pos) (dvs := []) (ds := []) h.ox iC tI F (hr.mono hk) b .nil pass0 hg h.g (pa_more ha) hdb he hpl pins s σ H Q I ⟨_, wish, ?_⟩
  rintro vs H1 ⟨v, u, e1, q⟩
  subst e1
  refine ⟨by show 2 ≤ 1000; decide, fun a na => ⟨a, v, u, rfl, upd_same, fun d nd dn => ⟨rfl, d, [(g, u), (f, v)], ?_, upd_same, ?_, ?_⟩⟩⟩
  · rw [upd_ne (Ne.symm dn)]
    exact upd_same
  · rw [upd_ne dn] at nd
    exact nd
  · rw [made_heap2 na dn]
    rw [upd_ne dn] at nd
    exact q d nd
end
end EH
namespace EH
open PySem PySem.Spec PyProof.Rows L2
/-! ### defs that may raise, called by name; held in a local -/
structure ClX (P : Program) (w : World) (K : PySem.W.Frag) (mg : Str → Option Value) (base : Heap) (k : Nat) (x : Str) (sp : Sp) : Prop where
  ex : ∃ (f : Addr) (fd : FuncData) (ps : List Str), FnOk P w K mg base (L2.CX P w) k f fd ps sp ∧ mg x = some (.ref f) ∧ PySem.W.keepIn K (.ref f) = true ∧ Binds K fd ps []
structure HeldX (P : Program) (w : World) (K : PySem.W.Frag) (mg : Str → Option Value) (base : Heap) (k : Nat) (f : Addr) (sp : Sp) : Prop where
  ex : ∃ (fd : FuncData) (ps : List Str), FnOk P w K mg base (L2.CX P w) k f fd ps sp ∧ PySem.W.keepIn K (.ref f) = true ∧ Binds K fd ps []
/-- .. where nothing is raised -/
def sp0 (sp : Sp) : Sp := fun vs H Q _ => sp vs H Q E0
section
variable {P : Program} {w : World} {K : PySem.W.Frag} {mg : Str → Option Value} {base : Heap} {k : Nat} {f : Addr} {fd : FuncData} {ps : List Str} {sp : Sp} {x qual : Str} {st : Stmt}
theorem FnOk.quiet (F : FnOk P w K mg base (L2.CX P w) k f fd ps sp) : FnOk P w K mg base CX0 k f fd ps (sp0 sp) := by
  refine ⟨fun vs H Q E h => F.len vs H Q E0 h, fun A outer s H args us vs Q E hr he hb hv hs => ?_⟩
  refine codeAny_mono (F.run A outer s H args us vs Q E0 hr he hb hv hs) fun r s' z => ?_
  rcases r with er | (v | _ | _ | _)
  · obtain ⟨_, _, _, _, _, _, _, _, _, _, _, _, no⟩ := z
    exact no.elim
  all_goals exact z
theorem ClX.mk' (F : Fun K x qual st f fd) (m : mg x = some (.ref f)) (b : Binds K fd ps []) (ok : FnOk P w K mg base (L2.CX P w) k f fd ps sp) : ClX P w K mg base k x sp := ⟨f, fd, ps, ok, m, F.kp, b⟩
theorem ClX.quiet (c : ClX P w K mg base k x sp) : Cl P w K mg base k x (sp0 sp) := by
  obtain ⟨f, fd, ps, F, m, kp, b⟩ := c.ex
  exact ⟨f, fd, ps, FnOk.quiet F, m, kp, b⟩
end
section
variable {X : Cx} {k j i : Nat} {x : Str} {sp : Sp} {W : WX} {p pos : Pos} {e : Expr} {es : List Expr} {t : TA}
def tFX (sp : Sp) (W : WX) (t : TA) : TE := fun σ H Q => t σ H fun vs H1 => sp vs H1 Q (WE W σ)
theorem pe_fX (c : ClX X.prog X.w X.K X.mg X.base k x sp) (hr : Room j X.A) (hk : k ≤ j) (hg : Gl X x) (tk : Takes X W) (ha : PA X (e :: es) t) (hdb : (x == ("__debug__" : Str)) = false := by decide)
    (he : starEach (e :: es) X.env = (false, eval e X.env) :: starEach es X.env := by rfl) (hpl : (backTo pos (starEach es X.env)).any (·.1) = false := by rfl) : PE X (.Call (.Name x p) (e :: es) [] pos) (tFX sp W t) := by
  obtain ⟨f, fd, ps, F, hm, kp, b⟩ := c.ex
  exact pe_callS (p := p) (pos := pos) F (hr.mono hk) hg hm kp b (fun σ => passAt tk σ) ha hdb he hpl
/-- a def as a value -/
def tFn (P : Program) (w : World) (K : PySem.W.Frag) (mg : Str → Option Value) (base : Heap) (k : Nat) (sp : Sp) : TE := fun _ H Q => ∀ f, HeldX P w K mg base k f sp → Q (.ref f) H
theorem pe_fnX (c : ClX X.prog X.w X.K X.mg X.base k x sp) (hg : Gl X x) (hdb : (x == ("__debug__" : Str)) = false := by decide) : PE X (.Name x p) (tFn X.prog X.w X.K X.mg X.base k sp) := by
  obtain ⟨f, fd, ps, F, hm, kp, b⟩ := c.ex
  refine ⟨fun pins s σ H Q I h => (pe_glob hg hm (v := .ref f) rfl hdb).run pins s σ H Q I ?_⟩
  exact h f ⟨fd, ps, F, kp, b⟩
def tHeld (P : Program) (w : World) (K : PySem.W.Frag) (mg : Str → Option Value) (base : Heap) (i k : Nat) (W : WX) (t : TA) : TE := fun σ H Q =>
  ∃ f sp, σ[i]? = some (some (.ref f)) ∧ HeldX P w K mg base k f sp ∧ t σ H fun vs H1 => sp vs H1 Q (WE W σ)
theorem pe_heldX (hr : Room j X.A) (hk : k ≤ j) (hN : X.N[i]? = some x) (hv : Vis X.env.scope x) (tk : Takes X W) (ha : PA X (e :: es) t) (hdb : (x == ("__debug__" : Str)) = false := by decide) (hcd : (x == ("__classdict__" : Str)) = false := by decide)
    (he : starEach (e :: es) X.env = (false, eval e X.env) :: starEach es X.env := by rfl) (hpl : (backTo pos (starEach es X.env)).any (·.1) = false := by rfl) : PE X (.Call (.Name x p) (e :: es) [] pos) (tHeld X.prog X.w X.K X.mg X.base i k W t) := by
  refine ⟨?_⟩
  rintro pins s σ H Q I ⟨f, sp, at_, held, args⟩
  obtain ⟨fd, ps, F, kp, b⟩ := held.ex
  have var_ := (pe_var (X := X) (pos := p) hN hv hdb hcd).run pins s σ H (fun v H1 => v = .ref f ∧ H1 = H) I ⟨_, at_, rfl, rfl⟩
  refine wpAny_Call_Name_kw (thn var_ ?_)
  rintro u s1 ⟨_, _, I1, r1, rfl, rfl⟩
  obtain rfl : u = Value.ref f := r1
  refine PySem.W.callWith_K (h₀ := X.base) I.ok.mod.kin kp (thn (ha.run pos pins s1 σ _ _ I1 args) ?_) he hpl
  rintro us s2 ⟨vs, H2, I2, r2, q2⟩
  refine ⟨I2.kIn, ?_⟩
  have q3 : sp (vs ++ []) H2 Q (WE W σ) := by
    rw [List.append_nil]
    exact q2
  exact run_fnSD (E := WE W) (dvs := []) (ds := []) F (hr.mono hk) b .nil (passAt tk σ) I2 r2 q3
end
/-! ### an error that was kept: isinstance, its fields -/
def rIsH (K : PySem.W.Frag) : List V → Hp → VK → Prop := fun xs H Q => ∃ (a C D dd : Addr) (fs : List (Str × V)) (b : Bool), xs = [.ref a, .ref D] ∧ H a = some (exH (.ref C) (some dd) a) ∧ H dd = some (.xd fs) ∧ KitE K C ∧
  PySem.W.kitOne K (.ref C) (.ref D) = some b ∧ Q (.bl b) H
section
variable {X : Cx} {pins : List (Addr × Obj)} {σ : L2.St} {H : Hp} {s : Shared} {a C dd : Addr} {fs : List (Str × V)}
theorem held_inst (I : Inv X pins σ H s) (ea : H a = some (exH (.ref C) (some dd) a)) (ed : H dd = some (.xd fs)) :
    ∃ (ob od : Obj) (mA : Str → Option Value), PySem.W.InstAt s.heap a ob C (some od) ∧ (∀ f, PySem.W.lookIn f od = some (mA f)) ∧ ∀ f, RelO (fs.lookup f) (mA f) := by
  obtain ⟨ob, fv, at_, zc, fd⟩ := exH_at I.hok ea
  have own : ObjOk X.prog X.w H s.heap dd (.xd fs) := I.hok dd _ ed
  obtain ⟨mA, ns, rel⟩ := own
  obtain ⟨od, at2, look⟩ := lookIn_ns ns
  refine ⟨ob, od, mA, ⟨at_, zc.1, ?_, ?_⟩, fun f => ?_, rel⟩
  · unfold PySem.W.notCls
    rw [fd] <;> rfl
  · rw [zc.2]
    exact at2
  · exact look f
theorem call_isH : CallR X (.builtin "isinstance") (rIsH X.K) := by
  rintro pins s σ H xs us Q I r ⟨a, C, D, dd, fs, b, rfl, ea, ed, kt, one, q⟩
  obtain ⟨ob, od, mA, inst, _, _⟩ := held_inst I ea ed
  cases r with
  | cons r1 r' =>
    cases r' with
    | cons r2 r'' =>
      cases r''
      cases r1
      cases r2
      exact PySem.W.kia_one (PySem.W.kitx_exc kt.cl kt.xf.ga kt.xf.gg kt.xf.exC kt.ca kt.cn kt.ct kt.cm) I.kIn inst one (fun z => nomatch z) fun tk => ⟨.bl b, H, I.kept (t' := tk) fun _ _ z => z, rfl, q⟩
end
def tXh (K : PySem.W.Frag) (f : Str) (te : TE) : TE := fun σ H Q => te σ H fun x H1 => ∃ (a C dd : Addr) (fs : List (Str × V)) (v : V), x = .ref a ∧ H1 a = some (exH (.ref C) (some dd) a) ∧ H1 dd = some (.xd fs) ∧ fs.lookup f = some v ∧ KitE K C ∧
  PySem.W.findIn K (.ref C) f = some none ∧ Q v H1
theorem pe_xh {X : Cx} {e : Expr} {te : TE} {f : Str} {pos : Pos} (he : PE X e te) (hb : attributeBase e f X.env (eval e X.env) = eval e X.env := by rfl) : PE X (.Attribute e f pos) (tXh X.K f te) := by
  refine ⟨fun pins s σ H Q I h => attr_of hb (thn (he.run pins s σ H _ I h) ?_)⟩
  rintro u s1 ⟨x, H1, I1, r, a, C, dd, fs, v, rfl, ea, ed, lk, kt, no, q⟩
  obtain rfl : u = Value.ref a := r
  obtain ⟨ob, od, mA, inst, look, rel⟩ := held_inst I1 ea ed
  obtain ⟨u, hu, ru⟩ := RelO.some_of (v := v) (o := mA f) (by rw [← lk]; exact rel f)
  have found := PySem.W.findObj_own kt.xf.hdC no rfl ((look f).trans (congrArg some hu))
  exact HandSPX.exc_get I1.kIn inst kt.xf.ga kt.xf.gg kt.xf.exC found (handed_of ru) ⟨v, H1, I1.tok _, ru, q⟩
end EH
namespace EH
open PySem PySem.Spec PyProof.Rows L2
/-- a row of a class -/
def meth (st : Stmt) (j : Nat) : Stmt := match st with
  | .ClassDef _ _ _ body _ _ _ _ _ _ _ => body.getD j (.Pass ⟨0, 0, 0, 0⟩)
  | _ => .Pass ⟨0, 0, 0, 0⟩
/-- what a def wishes of what it raises: what its caller does -/
abbrev wDef (E : XK) : WX := fun cls d _ H => E cls d H
end EH
namespace EH
open PySem PySem.Spec PyProof.Rows L2
/-- a class by its name -/
theorem pe_cls {X : Cx} {x : Str} {C : Addr} {pos : Pos} (hg : Gl X x) (hm : X.mg x = some (.ref C)) (hd : (x == ("__debug__" : Str)) = false := by decide) : PE X (.Name x pos) (tC (.ref C)) := pe_glob (v := .ref C) hg hm rfl hd
end EH
namespace EH
open PySem PySem.Spec PyProof.Rows L2
theorem kit_self {K : PySem.W.Frag} {C : Addr} : PySem.W.kitOne K (.ref C) (.ref C) = some true := by
  unfold PySem.W.kitOne
  rw [if_pos (beq_self_eq_true _)]
end EH

set_option Elab.async false
set_option linter.all false
set_option maxRecDepth 100000
set_option maxHeartbeats 4000000
/-! EH12: lambdas that are handed to a def, which calls them in a try; with a default, too; the law's end with tables of code. -/
namespace EH
open PySem PySem.Spec PyProof.Rows L2
open LamX (CodeO TabS Tabs ExtN TabB lamCx lamEnv)
/-! ### defs that make lambdas: their code object is told -/
section
variable {P : Program} {w : World} {K : PySem.W.Frag} {mg : Str → Option Value} {base : Heap}
theorem okC {x qual : Str} {st : Stmt} {f : Addr} {fd : FuncData} {N ps : List Str} {k : Nat} {sp : Sp}
    (F : Fun K x qual st f fd) (S : FnScope N ps (defScope st)) (len : ∀ vs H Q E, sp vs H Q E → vs.length = ps.length)
    (hb : ∀ (cdv : Value) (A : Around) (out : List Env) (s : Shared) (H : Hp) (vs : List V) (Q : VK) (E : XK), fd.code = cdv →
      Room k (A.deeper (envOfC qual (defScope st) s.heap.objs.size f cdv)) → sp vs H Q E →
      ∃ t, PSs (cxOf CX0 P w K mg base N qual (defScope st) f cdv A out s H E).nox (defBody st) t ∧
        t { nx := fun _ H' => Q .non H', rt := Q } (start N vs) H) :
    FnOk P w K mg base CX0 (k + 1) f fd ps sp := by
  obtain ⟨oc, od, kV, doc, pm, an, cdv, ct, osl, rfl, lk, hcd⟩ := F.ex
  refine fn_of lk hcd S len (fun A out s H vs Q E room wish => ?_)
  obtain ⟨t, ht, qt⟩ := hb cdv A out s H vs Q E rfl room wish
  exact ⟨t, ht.nox, qt⟩
theorem okGC {x qual : Str} {st : Stmt} {f : Addr} {fd : FuncData} {N ps : List Str} {k : Nat} {sp : Sp}
    (F : Fun K x qual st f fd) (S : FnScope N ps (defScope st)) (len : ∀ vs H Q E, sp vs H Q E → vs.length = ps.length)
    (hb : ∀ (cdv : Value) (A : Around) (out : List Env) (s : Shared) (H : Hp) (vs : List V) (Q : VK) (E : XK), fd.code = cdv →
      (A.deeper (envOfC qual (defScope st) s.heap.objs.size f cdv)).guards = some [] →
      Room k (A.deeper (envOfC qual (defScope st) s.heap.objs.size f cdv)) → sp vs H Q E →
      ∃ t, PSs (cxOf CX0 P w K mg base N qual (defScope st) f cdv A out s H E).nox (defBody st) t ∧
        t { nx := fun _ H' => Q .non H', rt := Q } (start N vs) H) :
    FnG P w K mg base CX0 (k + 1) f fd ps sp := by
  obtain ⟨oc, od, kV, doc, pm, an, cdv, ct, osl, rfl, lk, hcd⟩ := F.ex
  refine ⟨len, fun A out s H args us vs Q E gd hr e0 bnd rv hsp => ?_⟩
  have lenV := len _ _ _ _ hsp
  have KX : K.In s.heap := e0.mod.kin.keeps fun b o e => (e0.bs b o e).1
  have noLim : s.heap.NoLimit := e0.mod.nolimit.keeps fun b o e => (e0.bs b o e).1
  have kinds : ∀ y ∈ ps.zip us, (defScope st).names.lookup y.1 = some .local ∨
      ((defScope st).names.lookup y.1 = some .cell ∧ ((cellsFrom (s.heap.objs.size + 1) (defScope st).names []).lookup y.1).isSome = true) := by
    rintro ⟨n, v⟩ hy
    refine (S.par n (List.of_mem_zip hy).1).imp id fun q => ⟨q, ?_⟩
    exact PySem.W.cellsFrom_some _ _ _ (.inl q)
  refine codeAny_call_function hr.depth (KX _ _ lk) rfl S.co S.gen rfl (PySem.W.codeRec_of KX hcd) (bnd _ _ _ _ ?_)
  refine wpAny_newFunctionEnv_cells S.kind kinds fun en he s1 ic => ?_
  subst he
  refine ⟨noLim.keeps ic.toInCall.keep, codeAny_func ?_⟩
  obtain ⟨t, ht', hq⟩ := hb cdv A out s H vs Q E rfl (deeper_guards gd) (hr.deeper _) hsp
  have ht := ht'.nox
  have I0 : Inv (cxOf CX0 P w K mg base N qual (defScope st) f cdv A out s H E) [] (start N vs) H s1 := inv_start S hr.hd e0 lenV rv ic
  refine wpAny_mono (ht.run [] s1 (start N vs) H _ I0 hq) (fun fl s' hs => ?_) fun _ _ z => z
  cases fl with
  | ret u =>
    obtain ⟨v, σ', H', J, ru, q⟩ := hs
    exact ⟨v, H', J.os, J.bare, J.base, J.hok, ru, q⟩
  | next =>
    obtain ⟨σ', H', J, q⟩ := hs
    exact ⟨.non, H', J.os, J.bare, J.base, J.hok, rfl, q⟩
  | brk =>
    obtain ⟨_, _, _, q⟩ := hs
    exact q.elim
  | cont =>
    obtain ⟨_, _, _, q⟩ := hs
    exact q.elim
end
/-! ### a lambda's names, its object -/
/-- captured names and globals; names of its own (defaults) that the maker hasn't -/
structure LamD (sc scope : Scope) (N own : List Str) : Prop where
  kind : scope.kind = .function
  co : scope.isCoroutine = false
  gen : scope.isGenerator = false
  cel : ∀ y ∈ scope.names, y.2 ≠ .cell
  out : ∀ y ∈ scope.names, y.2 = .local → y.1 ∉ N
  bs : ∀ x ∈ own, scope.names.lookup x = some .local
  free : ∀ y ∈ scope.names, y.2 = .free → sc.names.lookup y.1 = some .cell ∨ sc.names.lookup y.1 = some .free
theorem LamD.has {X : Cx} {scope : Scope} {N own : List Str} (L : LamD X.env.scope scope N own) (ok : X.Ok) (y : Str × NameKind) (m : y ∈ scope.names) (e : y.2 = .free) : ∃ c, X.env.cells.lookup y.1 = some c :=
  ok.has _ (L.free y m e)
structure LamF (fd : FuncData) (q : Str) (body : Expr) (scope : Scope) (cl : List (Str × Addr)) (c' : Addr) : Prop where
  q : fd.qualname = q
  b : fd.body = .expr body
  s : fd.scope = scope
  g : fd.globals = mainGlobals
  c : fd.closure = cl
  k : fd.code = .ref c'
  bi : fd.builtins = builtinsNs
section
variable {X : Cx} {pins : List (Addr × Obj)} {σ : L2.St} {H HZ : Hp} {s s1 : Shared}
/-- the lambda's body begins -/
theorem lam_begin {A : Around} {outer : List Env} {E : XK} {scope : Scope} {own : List Str} {f c' : Addr} {h₁ : Heap} {tk : Nat} {bv : List (Str × Value)}
    (I : Inv X pins σ H s) (L : LamD X.env.scope scope X.N own) (e0 : Env0 X.prog X.w X.K X.mg X.base A outer s1 HZ)
    (calm : A.handled = none) (un : Un (frs X.stack) [] H HZ s.heap s1.heap) (ns : h₁.Ns s1.heap.objs.size fun y => bv.reverse.lookup y)
    (kp : ∀ b o, s1.heap.get? b = some o → h₁.get? b = some o) : Inv (lamCx X A outer s1 HZ E scope f c') [] σ HZ { s1 with heap := h₁, toks := tk } := by
  have cells_ : ∀ {y : Str} {c : Addr}, (cloFrom X.env.cells scope.names []).lookup y = some c → X.env.cells.lookup y = some c := by
    intro y c e
    rcases cloFrom_mem (PySem.mem_of_lookup e) with m | ⟨m, d⟩
    · cases m
    · obtain ⟨c1, hc⟩ := L.has I.ok _ m rfl
      have hc : X.env.cells.lookup y = some c1 := hc
      have same : c = c1 := by
        rw [d, hc] <;> rfl
      exact same ▸ hc
  have there_ : ∀ {y : Str}, scope.names.lookup y = some .free → ∃ c, (cloFrom X.env.cells scope.names []).lookup y = some c := by
    intro y e
    exact mem_lookup (cloFrom_has (cells := X.env.cells) (acc := []) (PySem.mem_of_lookup e : (y, NameKind.free) ∈ scope.names))
  have stays : ∀ {c : Addr} {v : Option Value}, H c = none → s.heap.IsCell c v → h₁.IsCell c v := by
    rintro c v n ⟨o, ho, hd⟩
    obtain ⟨sl, q⟩ := un.any ho n List.not_mem_nil
    exact ⟨_, kp _ _ q, hd⟩
  have none_ : ∀ b : Addr, b ∉ (lamCx X A outer s1 HZ E scope f c').ex := fun b (z : b ∈ ([] : List Addr)) => List.not_mem_nil z
  have ok : (lamCx X A outer s1 HZ E scope f c').Ok := by
    refine ⟨e0.mod, L.kind, rfl, rfl, Nat.le_refl _, ?_, ?_, ?_, fun _ => calm, Around.frames_deeper e0.frames, .inr ⟨rfl, rfl⟩, ?_, e0.bs, e0.bsz, fun b _ _ => none_ b, ?_, e0.funs, e0.frf⟩
    · intro y z c e1 e2
      exact I.ok.inj y z c (cells_ e1) (cells_ e2)
    · intro y hy
      have hy : scope.names.lookup y = some .cell ∨ scope.names.lookup y = some .free := hy
      rcases hy with hy | hy
      · exact absurd rfl (L.cel _ (PySem.mem_of_lookup hy))
      · exact there_ hy
    · intro y c (z : false = true)
      cases z
    · intro b z
      exact absurd z (none_ b)
    · intro b z
      exact absurd z (none_ b)
  refine ⟨ok, rfl, e0.bare, Un.kept kp, ⟨_, ns, ?_⟩, ?_, e0.hok.fresh (Nat.le_refl _), ?_, ?_, e0.hok.kept kp, I.len⟩
  · intro i y v e1 e2 e3
    have e1 : X.N[i]? = some y := e1
    have e3 : Vis scope y := e3
    rcases e3 with k | k | k
    · exact absurd (List.mem_of_getElem? e1) (L.out _ (PySem.mem_of_lookup k) rfl)
    · exact absurd rfl (L.cel _ (PySem.mem_of_lookup k))
    · obtain ⟨m, _, hl⟩ := I.loc
      have cf := L.free _ (PySem.mem_of_lookup k) rfl
      have cf : X.env.scope.names.lookup y = some .cell ∨ X.env.scope.names.lookup y = some .free := cf
      obtain ⟨u, r, at_⟩ := hl i y v e1 e2 (cf.elim (fun z => .inr (.inl z)) fun z => .inr (.inr z))
      obtain ⟨c2, h2⟩ := there_ k
      refine ⟨u, r, .inr ⟨.inr k, c2, h2, ?_⟩⟩
      rcases at_ with ⟨k', _⟩ | ⟨_, c3, e', z⟩
      · have k' : X.env.scope.names.lookup y = some .local := k'
        rcases cf with z | z
        · rw [z] at k'
          cases k'
        · rw [z] at k'
          cases k'
      · have eq_ := (cells_ h2).symm.trans e'
        cases eq_
        exact stays (I.freeC y _ (cells_ h2)) z
  · intro y c e
    obtain ⟨v, z⟩ := I.cell y c (cells_ e)
    exact ⟨v, stays (I.freeC y c (cells_ e)) z⟩
  · intro y c e
    obtain ⟨v, o, ho, _⟩ := I.cell y c (cells_ e)
    exact un.free c o ho (I.freeC y c (cells_ e)) List.not_mem_nil
  · intro q (z : q ∈ ([] : List (Addr × Obj)) ++ [])
    cases z
end
/-! ### the def that calls what it got -/
/-- in Z, a() runs the lambda whose reading is tl -/
def Asked (Z : Cx) (a : Str) (f c' : Addr) (q : Str) (tl : XK → Hp → VK → Prop) : Prop :=
  ∀ (W : WX) (pn : List (Addr × Obj)) (xe : Value → Shared → Prop) (p1 p2 : Pos), Takes (Z.tr pn xe) W →
    PE (Z.tr pn xe) (.Call (.Name a p1) [] [] p2) fun σ H Q => σ[0]? = some (some (.ref f)) ∧ H c' = some (CodeO c' q) ∧ tl (WE W σ) H Q
def tAct (f c' : Addr) (q : Str) (tl : XK → Hp → VK → Prop) (W : WX) : TE := fun σ H Q =>
  σ[0]? = some (some (.ref f)) ∧ H c' = some (CodeO c' q) ∧ tl (WE W σ) H Q
theorem pe_ask {Z : Cx} {a : Str} {f c' : Addr} {q : Str} {tl : XK → Hp → VK → Prop} {W : WX} {pn : List (Addr × Obj)} {xe : Value → Shared → Prop} {p1 p2 : Pos} (act : Asked Z a f c' q tl) (tk : Takes (Z.tr pn xe) W) :
    PE (Z.tr pn xe) (.Call (.Name a p1) [] [] p2) (tAct f c' q tl W) := act W pn xe p1 p2 tk
/-- the def x may be handed a lambda: TT, what it makes of the lambda's reading -/
structure ClL (P : Program) (w : World) (K : PySem.W.Frag) (mg : Str → Option Value) (base : Heap) (k : Nat) (x : Str) (TT : (XK → Hp → VK → Prop) → Hp → VK → Prop) : Prop where
  ex : ∃ (g : Addr) (fd : FuncData) (st : Stmt) (N : List Str) (a : Str), mg x = some (.ref g) ∧ Fun K x x st g fd ∧ Binds K fd [a] [] ∧ FnScope N [a] (defScope st) ∧ N[0]? = some a ∧ Vis (defScope st) a ∧
    (a == ("__debug__" : Str)) = false ∧ (a == ("__classdict__" : Str)) = false ∧
    ∀ (A : Around) (out : List Env) (s : Shared) (H : Hp) (Q : VK) (cdv : Value) (q : Str) (f c' : Addr) (tl : XK → Hp → VK → Prop), Room k (A.deeper (envOfC x (defScope st) s.heap.objs.size g cdv)) →
      Asked (cxOf CX0 P w K mg base N x (defScope st) g cdv A out s H E0) a f c' q tl → H c' = some (CodeO c' q) → TT tl H Q →
      ∃ t, PSs (cxOf CX0 P w K mg base N x (defScope st) g cdv A out s H E0).nox (defBody st) t ∧ t { nx := fun _ H' => Q .non H', rt := Q } (start N [.ref f]) H
section
variable {X : Cx} {pins : List (Addr × Obj)} {σ : L2.St} {H HZ : Hp} {s s1 : Shared}
/-- x(), where x got the lambda -/
theorem asked_of {N : List Str} {x a : Str} {sg : Scope} {g f c' : Addr} {cdv : Value} {fd : FuncData} {body : Expr} {scope : Scope} {own : List Str} {k : Nat} {t : XK → TE}
    (I : Inv X pins σ H s) (L : LamD X.env.scope scope X.N own) (hf : s.heap.get? f = some { cls := .type "function", data := .func fd }) (fo : LamF fd (X.env.qual ++ "<lambda>") body scope (cloFrom X.env.cells scope.names []) c')
    (nf : H f = none) (fr : f ∉ frs X.stack)
    (bnd : ∀ s2 : Shared, (∀ b o, s.heap.get? b = some o → H b = none → b ∉ frs X.stack → s2.heap.get? b = some o) → ∃ bv : List (Str × Value), (∀ y ∈ bv, y.1 ∈ own) ∧ BindsTo s2 fd ⟨[], []⟩ bv)
    (hr : Room (k + 1) (X.A.deeper (envOfC x sg s.heap.objs.size g cdv)))
    (hbody : ∀ (A : Around) (out : List Env) (s : Shared) (H : Hp) (E : XK) (f c' : Addr), Room k (A.deeper (lamEnv X scope s.heap.objs.size f c')) → PE (lamCx X A out s H E scope f c') body (t E))
    (hN : N[0]? = some a) (hv : Vis sg a) (hd : (a == ("__debug__" : Str)) = false) (hcd : (a == ("__classdict__" : Str)) = false) :
    Asked (cxOf CX0 X.prog X.w X.K X.mg X.base N x sg g cdv X.A X.stack s H E0) a f c' (X.env.qual ++ "<lambda>") (fun E H' Q' => t E σ H' Q') := by
  intro W pn xe p1 p2 tk
  refine ⟨?_⟩
  rintro pinsZ sZ σZ HZ Q IZ ⟨at0, code_, wish⟩
  refine wpAny_Call_Name_kw (thn ((pe_var (pos := p1) (i := 0) hN hv hd hcd).run pinsZ sZ σZ HZ (fun v H1 => v = .ref f ∧ H1 = HZ) IZ ⟨.ref f, at0, rfl, rfl⟩) ?_)
  rintro u s1 ⟨v, H1, I1, r1, ev, eH⟩
  subst ev
  rw [eH] at I1
  obtain rfl : u = Value.ref f := r1
  have un : Un (frs X.stack) [] H HZ s.heap s1.heap := I1.base
  have same_ : ∀ b o, s.heap.get? b = some o → H b = none → b ∉ frs X.stack → s1.heap.get? b = some o := fun b o e n m => un.keep b o e n m List.not_mem_nil
  have of1 := same_ f _ hf nf fr
  obtain ⟨bv, bo, bt⟩ := bnd s1 same_
  obtain ⟨q1, b1, sc1, g1, cl1, k1, bi1⟩ := fo
  refine PySem.W.callWith_F0 ⟨_, _, _, _, of1⟩ ?_
  obtain ⟨⟨oc, vs, tq, hoc, hdc, hvc⟩, _, _⟩ := I1.hok c' _ code_
  have body_ : codeAny (model X.prog X.w) (X.A.deeper (envOfC x sg s.heap.objs.size g cdv)) (.call (.ref f) ⟨[], []⟩)
      (CR (L2.CX X.prog X.w) (envOfC x sg s.heap.objs.size g cdv :: X.stack) X.prog X.w HZ s1 Q (WE W σZ)) s1 := by
    refine PySem.W.kla_callFunE hr.depth of1 rfl (by rw [sc1]; exact L.co) (by rw [sc1]; exact L.gen) b1 ⟨c', oc, vs, tq, k1, hoc, hdc, by rw [q1]; exact hvc⟩ ?_
    refine bt _ _ _ _ ?_
    rw [sc1, g1, cl1, k1, bi1, q1]
    refine wpAny_newFunctionEnv L.cel (fun y hy => L.bs _ (bo y hy)) (fun h₁ hns hsb => ?_) L.kind
    refine ⟨I1.nolimit.fresh _ hsb, ?_⟩
    show codeAny _ _ (.expr body (lamEnv X scope s1.heap.objs.size f c')) _ _
    have kp : ∀ b o, s1.heap.get? b = some o → h₁.get? b = some o := by
      intro b o e
      exact hsb.extBut b o (Nat.ne_of_lt (Heap.lt_size e)) (Heap.get?_push_of_some _ e)
    have J : Inv (lamCx X (X.A.deeper (envOfC x sg s.heap.objs.size g cdv)) (envOfC x sg s.heap.objs.size g cdv :: X.stack) s1 HZ (WE W σZ) scope f c') [] σ HZ { s1 with heap := h₁, toks := s1.toks + bv.length } :=
      lam_begin I L I1.env0 hr.hd un hns kp
    refine PySem.W.kla_codeExpr (wpAny_mono ((hbody _ _ s1 HZ (WE W σZ) f c' (hr.deeper _)).run [] _ _ HZ Q J wish) ?_ (fun _ _ z => z))
    rintro v s' ⟨w', H', J', rv, q⟩
    exact ⟨w', H', J'.os, J'.bare, J'.base, J'.hok, rv, q⟩
  refine wpAny_call (codeAny_mono body_ ?_)
  rintro (er | fl) s' hq
  · exact passAt tk σZ pinsZ HZ s1 er s' I1 hq
  · cases fl with
    | ret u => exact I1.after hq
    | next => exact hq.elim
    | brk => exact hq.elim
    | cont => exact hq.elim
end
/-! ### the lambda is made -/
/-- what stands behind the making -/
def Made (X : Cx) (pins : List (Addr × Obj)) (σ : L2.St) (T : List (Addr × Str)) (H : Hp) (body : Expr) (scope : Scope) (own : List Str) : Value → Shared → Prop := fun v s' =>
  ∃ (f c' : Addr) (fd : FuncData) (H1 : Hp), v = .ref f ∧ Inv X pins σ H1 s' ∧ ExtN H H1 ∧ Tabs T H1 ∧ s'.heap.get? f = some { cls := .type "function", data := .func fd } ∧
    LamF fd (X.env.qual ++ "<lambda>") body scope (cloFrom X.env.cells scope.names []) c' ∧ H1 f = none ∧ f ∉ frs X.stack ∧ H1 c' = some (CodeO c' (X.env.qual ++ "<lambda>")) ∧
    ∀ s2 : Shared, (∀ b o, s'.heap.get? b = some o → H1 b = none → b ∉ frs X.stack → s2.heap.get? b = some o) → ∃ bv : List (Str × Value), (∀ y ∈ bv, y.1 ∈ own) ∧ BindsTo s2 fd ⟨[], []⟩ bv
structure TabOf (X : Cx) (T : List (Addr × Str)) (c P : Addr) : Prop where
  b : TabB X.base X.mg c P
  code : X.env.code = .ref c
  mem : (P, X.env.qual ++ "<lambda>") ∈ T
  one : ∀ p ∈ T, p.1 = P → p.2 = X.env.qual ++ "<lambda>"
section
variable {X : Cx} {pins : List (Addr × Obj)} {σ : L2.St} {H : Hp} {s : Shared} {T : List (Addr × Str)} {c P : Addr} {params : Arguments} {body : Expr} {scope : Scope} {own : List Str} {pos : Pos}
theorem new_frame (I : Inv X pins σ H s) {f : Addr} (hf : s.heap.objs.size ≤ f) : f ∉ frs X.stack := by
  intro z
  rcases List.mem_cons.mp (I.stkSub _ z) with e | e
  · have lt := I.lt
    rw [← e] at lt
    exact absurd (Nat.lt_of_lt_of_le lt hf) (Nat.lt_irrefl _)
  · exact I.nofs hf e
/-- how lambdas of these parameters are made -/
def Maker (X : Cx) (T : List (Addr × Str)) (params : Arguments) (body : Expr) (scope : Scope) (pos : Pos) (own : List Str) : Prop :=
  ∀ (pins : List (Addr × Obj)) (σ : L2.St) (H : Hp) (s : Shared), Inv X pins σ H s → Tabs T H →
    wpAny (model X.prog X.w) X.A (eval (.Lambda params body scope pos) X.env) (Made X pins σ T H body scope own) X.xe s
theorem maker0 (L : LamD X.env.scope scope X.N own) (tb : TabOf X T c P) (hdef : defaultsOf params X.env = ([], []))
    (hbind : ∀ (q : Str) (cl : List (Str × Addr)) (pm cv ctv : Value), bindArgs (PySem.W.kla_fn "<lambda>" q params body scope cl pm cv ctv) ⟨[], []⟩ = pure []) : Maker X T params body scope pos own := by
  intro pins σ H s I hT
  refine LamX.lam_make2 (Q := Made X pins σ T H body scope own) I tb.b tb.code tb.mem tb.one hT hdef (L.has I.ok) ?_
  intro f c' pm ctv H1 s' I1 eN T1 hf nf fr co
  exact ⟨f, c', _, H1, rfl, I1, eN, T1, hf, ⟨rfl, rfl, rfl, rfl, rfl, rfl, rfl⟩, nf, fr, co, fun s2 _ => ⟨[], fun y z => absurd z List.not_mem_nil, .of_eq (hbind _ _ _ _ _)⟩⟩
/-- lambda a=n: .. -/
theorem maker1 {n : Int} {dp : Pos} {a : Str} {dk : Nat} (L : LamD X.env.scope scope X.N [a]) (tb : TabOf X T c P) (hdef : params.defaults = [.Constant (.int n) dk dp]) (hkd : params.kw_defaults = [])
    (hbind : ∀ (q : Str) (cl : List (Str × Addr)) (t : Addr) (doc pm cv ctv u : Value) (s2 : Shared), s2.heap.get? t = some (PySem.W.kdv_tup [u]) →
      BindsTo s2 (PySem.W.kdv_fn "<lambda>" q params (.expr body) scope cl (.ref t) doc pm cv ctv) ⟨[], []⟩ [(a, u)]) : Maker X T params body scope pos [a] := by
  intro pins σ H s I hT
  refine PySem.W.kdv_lam (by rw [hdef]; rfl) hkd ?_
  rw [hdef]
  refine PySem.W.kdv_all1 ?_
  refine wpAny_mono ((pe_int (X := X)).run pins s σ H (fun v H1 => H1 = H) I rfl) ?_ (fun _ _ z => z)
  rintro u s1 ⟨v, Hx, I1, _, eHx⟩
  rw [show Hx = H from eHx] at I1
  refine PySem.W.kdv_all0 ?_
  rw [makeFunction_eq]
  simp only [List.zip_nil_right, List.filterMap_nil, List.isEmpty_nil, List.isEmpty_cons, if_true, pure_bind, Bool.false_eq_true, if_false]
  refine wpAny_bind (wpAny_newTextTuple ?_)
  have I2 : Inv X pins σ H { s1 with heap := s1.heap.push { cls := .type "tuple", data := .seq [u].toArray } } := I1.kept (t' := s1.toks) fun b o e => Heap.get?_push_of_some _ e
  have nt : H s1.heap.objs.size = none := I1.hok.fresh (Nat.le_refl _)
  have frt : s1.heap.objs.size ∉ frs X.stack := new_frame I1 (Nat.le_refl _)
  have tup_ : (s1.heap.push { cls := .type "tuple", data := .seq [u].toArray }).get? s1.heap.objs.size = some (PySem.W.kdv_tup [u]) := Heap.get?_push_size _ rfl
  generalize s1.heap.objs.size = tA at nt frt tup_
  generalize s1.heap.push { cls := .type "tuple", data := .seq [u].toArray } = h2 at I2 tup_
  obtain ⟨ps, hP, htr, ham⟩ := hT _ tb.mem
  have bP : h2.BuiltinsAt X.mg P := tb.b.bm.keeps I2.bk
  have hP' : h2.get? P = some { cls := .none, data := .fields ps } := I2.hok P _ hP
  have stands : ∀ (H1 : Hp) (s' : Shared) (cl : List (Str × Addr)) (doc pm cv ctv : Value), H1 tA = none → s'.heap.get? tA = some (PySem.W.kdv_tup [u]) →
      ∀ s2 : Shared, (∀ b o, s'.heap.get? b = some o → H1 b = none → b ∉ frs X.stack → s2.heap.get? b = some o) →
        ∃ bv : List (Str × Value), (∀ y ∈ bv, y.1 ∈ [a]) ∧ BindsTo s2 (PySem.W.kdv_fn "<lambda>" (X.env.qual ++ "<lambda>") params (.expr body) scope cl (.ref tA) doc pm cv ctv) ⟨[], []⟩ bv := by
    intro H1 s' cl doc pm cv ctv n1 e1 s2 keep
    refine ⟨[(a, u)], ?_, hbind _ _ _ _ _ _ _ _ s2 (keep _ _ e1 n1 frt)⟩
    intro y hy
    rw [List.mem_singleton.mp hy]
    exact List.mem_singleton.mpr rfl
  cases hc : codeAmong pos ps.toList with
  | none =>
    refine PySem.W.kdv_makeTail (mg := X.mg) (c := c) (P := P) (ps := ps) (closure_ok (L.has I2.ok)) I2.ok.glob (I2.mod.glob.keeps I2.bk) tb.code (tb.b.code.keeps I2.bk) hP' htr hc tb.b.gP bP ?_
    intro c' ctv doc h' tk ext ge lt rec_ tab_
    obtain ⟨c2, oc, vs, tq, e2, hoc, hd, hv⟩ := rec_
    cases e2
    have szle : h2.objs.size ≤ h'.objs.size := Nat.le_trans ge (Nat.le_of_lt lt)
    have nC : H c' = none := I2.hok.fresh ge
    have doc0 : True := trivial
    have I3 := LamX.inv_table (t' := tk) (more := #[rawInt pos.line, rawInt pos.col, .ref c'])
      (h' := h'.push (PySem.W.kdv_obj "<lambda>" (X.env.qual ++ "<lambda>") params (.expr body) scope (cloFrom X.env.cells scope.names []) (.ref tA) doc ((X.mg "__name__").getD .none) c' ctv))
      I2 hP (fun b o ne e => Heap.get?_push_of_some _ (ext b o ne e)) (Heap.get?_push_of_some _ tab_) ge ⟨oc, vs, tq, Heap.get?_push_of_some _ hoc, hd, hv⟩
    have hE : ExtN H (upd (upd H P (.tbl (ps ++ #[rawInt pos.line, rawInt pos.col, .ref c']))) c' (CodeO c' (X.env.qual ++ "<lambda>"))) := by
      intro b o e notab
      have b1 : b ≠ c' := ne_of_none e nC
      have b2 : b ≠ P := by
        rintro rfl
        rw [hP] at e
        cases e
        exact notab ps rfl
      rw [upd_ne b1, upd_ne b2]
      exact e
    have row_ : (ps ++ #[rawInt pos.line, rawInt pos.col, .ref c']).toList = ps.toList ++ [rawInt pos.line, rawInt pos.col, .ref c'] := by simp
    have lt2 : h2.objs.size ≤ h'.objs.size := szle
    have n1 : h'.objs.size ≠ c' := Nat.ne_of_gt lt
    have n2 : h'.objs.size ≠ P := Nat.ne_of_gt (Nat.lt_of_lt_of_le (Heap.lt_size hP') lt2)
    have n3 : tA ≠ c' := fun e => by
      subst e
      exact absurd (Nat.lt_of_lt_of_le (Heap.lt_size tup_) ge) (Nat.lt_irrefl _)
    have n4 : tA ≠ P := by
      rintro rfl
      rw [nt] at hP
      cases hP
    refine ⟨h'.objs.size, c', _, _, rfl, I3, hE, ?_, Heap.get?_push_size _ rfl, ⟨rfl, rfl, rfl, rfl, rfl, rfl, rfl⟩, ?_, new_frame I2 lt2, upd_same, stands _ _ _ _ _ _ _ ?_ (Heap.get?_push_of_some _ (ext _ _ n4 tup_))⟩
    · rintro p hp
      by_cases hb : p.1 = P
      · rw [tb.one p hp hb, hb]
        refine ⟨_, by rw [upd_ne (ne_of_none hP nC), upd_same], by rw [row_]; exact PySem.TriplesOk_snoc _ _ _ _ htr, ?_⟩
        intro p' cv hcv
        rw [row_] at hcv
        rcases LamX.among_app _ htr hcv with z | z
        · obtain ⟨c0, e1, e2⟩ := ham p' cv z
          exact ⟨c0, e1, hE _ _ e2 LamX.codeO_ne⟩
        · exact ⟨c', z, upd_same⟩
      · obtain ⟨ps', a1, a2, a3⟩ := hT p hp
        refine ⟨ps', by rw [upd_ne (ne_of_none a1 nC), upd_ne hb]; exact a1, a2, ?_⟩
        intro p' cv hcv
        obtain ⟨c0, e1, e2⟩ := a3 p' cv hcv
        exact ⟨c0, e1, hE _ _ e2 LamX.codeO_ne⟩
    · rw [upd_ne n1, upd_ne n2]
      exact I2.hok.fresh lt2
    · rw [upd_ne n3, upd_ne n4]
      exact nt
  | some cv =>
    obtain ⟨c', e, hco⟩ := ham pos cv hc
    subst e
    refine PySem.W.kdv_makeTailHit (mg := X.mg) (c := c) (P := P) (ps := ps) (closure_ok (L.has I2.ok)) I2.ok.glob (I2.mod.glob.keeps I2.bk) tb.code (tb.b.code.keeps I2.bk) hP' htr hc bP ?_
    intro ctv doc h' tk keep szle
    have I3 : Inv X pins σ H { s1 with heap := h'.push (PySem.W.kdv_obj "<lambda>" (X.env.qual ++ "<lambda>") params (.expr body) scope (cloFrom X.env.cells scope.names []) (.ref tA) doc ((X.mg "__name__").getD .none) c' ctv), toks := tk } :=
      I2.kept fun b o e => Heap.get?_push_of_some _ (keep b o e)
    exact ⟨h'.objs.size, c', _, H, rfl, I3, ExtN.refl H, hT, Heap.get?_push_size _ rfl, ⟨rfl, rfl, rfl, rfl, rfl, rfl, rfl⟩, I2.hok.fresh szle, new_frame I2 szle, hco, stands _ _ _ _ _ _ _ nt (Heap.get?_push_of_some _ (keep _ _ tup_))⟩
end
/-- x(lambda: ..): from the lambda's own heap on -/
def tLamH (T : List (Addr × Str)) (TT : (XK → Hp → VK → Prop) → Hp → VK → Prop) (t : XK → TE) : TE := fun σ H Q => Tabs T H ∧ ∀ H1, ExtN H H1 → Tabs T H1 → TT (fun E H' Q' => t E σ H' Q') H1 Q
section
variable {X : Cx} {T : List (Addr × Str)} {params : Arguments} {body : Expr} {scope : Scope} {own : List Str} {p lpos pos : Pos} {k j : Nat} {x : Str} {TT : (XK → Hp → VK → Prop) → Hp → VK → Prop} {t : XK → TE}
theorem pe_lamH (c : ClL X.prog X.w X.K X.mg X.base (k + 1) x TT) (mk : Maker X T params body scope lpos own) (L : LamD X.env.scope scope X.N own) (hr : Room j X.A) (hj : k + 2 ≤ j) (hg : Gl X x)
    (hbody : ∀ (A : Around) (out : List Env) (s : Shared) (H : Hp) (E : XK) (f c' : Addr), Room k (A.deeper (lamEnv X scope s.heap.objs.size f c')) → PE (lamCx X A out s H E scope f c') body (t E))
    (hdb : (x == ("__debug__" : Str)) = false := by decide) : PE X (.Call (.Name x p) [.Lambda params body scope lpos] [] pos) (tLamH T TT t) := by
  obtain ⟨g, fd, st, N, a, hm, F, b, S, hN, hv, d1, d2, run_⟩ := c.ex
  have kp := F.kp
  obtain ⟨oc, od, kV, doc, pm, an, cdv, ct, osl, rfl, lk, hcd⟩ := F.ex
  have hr := hr.mono hj
  refine ⟨?_⟩
  rintro pins s σ H Q I ⟨hT, wish⟩
  refine wpAny_Call_Name_kw (ld_glob I hg hm ?_ hdb)
  refine PySem.W.callWith_K (h₀ := X.base) I.ok.mod.kin kp ?_ (by rfl) (by rfl)
  show wpAny _ _ (spliced ((false, eval (.Lambda params body scope lpos) X.env) :: backTo pos (starEach [] X.env))) _ _ s
  refine Calls.spliced_cons (wpAny_mono (mk pins σ H s I hT) ?_ (fun _ _ z => z))
  rintro v s' ⟨f, c', fd, H1, rfl, I1, eN, T1, hf, fo, nf, fr, co, bnd⟩
  refine Calls.spliced_nil ⟨I1.kIn, ?_⟩
  have run1 : codeAny (model X.prog X.w) X.A (.call (.ref g) ⟨[.ref f], []⟩) (CR CX0 X.stack X.prog X.w H1 s' Q E0) s' := by
    refine LamX.run_ofS (N := N) (ps := [a]) (us := [.ref f]) (vs := [.ref f]) lk hcd S hr I1.env0 (b s' [.ref f] I1.kIn rfl) (.cons rfl .nil) rfl fun hr' => ?_
    obtain ⟨t', ht', qt⟩ := run_ X.A X.stack s' H1 Q cdv _ f c' _ hr' (asked_of I1 L hf fo nf fr bnd hr' hbody hN hv d1 d2) co (wish H1 eN T1)
    exact ⟨t', ht'.nox, qt⟩
  refine wpAny_call (codeAny_mono run1 ?_)
  rintro (er | fl) s2 hq
  · exact (show False from hq).elim
  · cases fl with
    | ret u => exact I1.after hq
    | next => exact hq.elim
    | brk => exact hq.elim
    | cont => exact hq.elim
end
/-! ### the law's end, with tables of code -/
/-- the law's call: no guard on the stack, the tables of the code objects cs empty -/
theorem law_callT {P : Program} {w : World} {K : PySem.W.Frag} {mg mb : Str → Option Value} {k : Nat} {fa a : Addr} {fd : FuncData} {x : Str} {sp : Sp} {s1 : Shared} {us : List Value} {ns : List Int} {cs : List (Addr × Addr)}
    (KX : K.In s1.heap) (nsG : s1.heap.Ns mainGlobals mg) (nsB : s1.heap.Ns builtinsNs mb) (boot : ∀ x : Str, x ≠ "__name__" → mb x = bootBuiltins x)
    (noLim : s1.heap.NoLimit) (gens0 : s1.gens = #[])
    (tab0 : ∀ p ∈ cs, s1.heap.get? p.2 = some { cls := .none, data := .fields #[] }) (tabK : ∀ p ∈ cs, K.lookup p.2 = none) (codes : ∀ p ∈ cs, PySem.W.CodeHd s1.heap p.1 p.2)
    (bmod : ∃ (bm : Addr) (ob : Obj), mg "__builtins__" = some (.ref bm) ∧ bm ≠ builtinsNs ∧ s1.heap.get? bm = some ob ∧ ob.cls = .type "module" ∧ ob.dict = some builtinsNs ∧ ob.data = .plain)
    (ha : s1.heap.get? a = some { cls := .type "list", data := .seq us.toArray }) (hi : IntsAre us ns) (hl : ns.length ≤ sizeLine) (hr : Room k callerA)
    (F : ∀ base : Heap, K.In base → base.Ns mainGlobals mg → (∀ p ∈ cs, TabB base mg p.1 p.2) → FnG P w K mg base CX0 k fa fd [x] sp)
    (bnd : ∀ (s : Shared) (u : Value), BindsTo s fd ⟨[u], []⟩ [(x, u)])
    (hsp : ∀ H : Hp, (∀ p ∈ cs, H p.2 = some (.tbl #[])) → SqL K H a (ns.map V.int) → sp [.ref a] H (fun v _ => v = .bl true) fun _ _ _ => False) :
    codeAny (model P w) callerA (.call (.ref fa) ⟨[.ref a], []⟩)
      (fun r s' => r = .ok (.ret (.bool true)) ∧ OldK s1.heap s'.heap ∧ s'.os = s1.os ∧ AllBare s'.gens) s1 := by
  have rv := vals_ints hi
  have lenU := hi.length
  have inT : ∀ b : Addr, b ∈ cs.map (·.2) → s1.heap.get? b = some { cls := .none, data := .fields #[] } := by
    intro b hb
    obtain ⟨p, hp, e⟩ := List.mem_map.mp hb
    exact e ▸ tab0 p hp
  have memT : ∀ p ∈ cs, p.2 ∈ cs.map (·.2) := fun p hp => List.mem_map.mpr ⟨p, hp, rfl⟩
  have notT : a ∉ cs.map (·.2) := by
    intro z
    have q := inT a z
    rw [ha] at q
    have d : Data.seq us.toArray _ = Data.fields #[] := congrArg Obj.data (Option.some.inj q)
    cases d
  have body : ∀ H : Hp, (∀ p ∈ cs, H p.2 = some (.tbl #[])) → (∀ b, H b = none ∨ b ∈ cs.map (·.2) ∨ ∃ o xs, H b = some (.frz o (.lst xs))) → SqL K H a (ns.map V.int) → HOk P w H s1.heap →
      (∀ b, H b ≠ none → b = a ∨ b ∈ cs.map (·.2)) → (H a ≠ none → K.lookup a = none) →
      codeAny (model P w) callerA (.call (.ref fa) ⟨[.ref a], []⟩)
        (fun r s' => r = .ok (.ret (.bool true)) ∧ OldK s1.heap s'.heap ∧ s'.os = s1.os ∧ AllBare s'.gens) s1 := by
    intro H tabH only hS hok atA notK
    have down : ∀ {b : Addr} {o : Obj}, s1.heap.get? b = some o → H b = none → (hidT s1.heap H).get? b = some o := fun e n => hidT_get e n
    have isA : ∀ {b : Addr}, H b ≠ none → b = a ∨ b ∈ cs.map (·.2) := fun {b} h => atA b h
    have free_ : ∀ {b : Addr} {o : Obj}, s1.heap.get? b = some o → (∀ (xs : Array Value) (n : Nat), o.data ≠ .seq xs n) → o.data ≠ .fields #[] → H b = none := by
      intro b o e d1 d2
      cases hb : H b with
      | none => rfl
      | some u =>
        have eb := isA (b := b) (by rw [hb]; exact Option.some_ne_none _)
        rcases eb with rfl | eb
        · rw [ha] at e
          cases e
          exact (d1 _ _ rfl).elim
        · rw [inT b eb] at e
          cases e
          exact (d2 rfl).elim
    have dictFree : ∀ {b : Addr} {o : Obj} {es : Array DictEntry} {ep : Nat}, s1.heap.get? b = some o → o.data = .dict es ep → H b = none := by
      intro b o es ep e d
      refine free_ e (fun xs n z => ?_) fun z => ?_
      · rw [d] at z
        cases z
      · rw [d] at z
        cases z
    have nsDown : ∀ {b : Addr} {m : Str → Option Value}, s1.heap.Ns b m → (hidT s1.heap H).Ns b m := by
      rintro b m ⟨o, es, ep, e, d, r⟩
      exact ⟨o, es, ep, down e (dictFree e d), d, r⟩
    have kDown : K.In (hidT s1.heap H) := by
      intro b o e
      refine down (KX b o e) ?_
      cases hb : H b with
      | none => rfl
      | some u =>
        have nb : H b ≠ none := by rw [hb]; exact Option.some_ne_none _
        rcases isA nb with eb | eb
        · subst eb
          rw [notK nb] at e
          cases e
        · obtain ⟨p, hp, ep⟩ := List.mem_map.mp eb
          rw [← ep, tabK p hp] at e
          cases e
    have md : Mod K mg (hidT s1.heap H) := by
      refine ⟨kDown, nsDown nsG, ⟨mb, nsDown nsB, boot⟩, ?_⟩
      obtain ⟨mc, h1, h2⟩ := noLim
      exact ⟨mc, nsDown h1, h2⟩
    have tabs : ∀ p ∈ cs, TabB (hidT s1.heap H) mg p.1 p.2 := by
      intro p hp
      have tp := tab0 p hp
      refine ⟨?_, ?_, ?_⟩
      · obtain ⟨o, vs, file, tf, flags, tg, inF, text, tt, e1, r1, r2, r3, r⟩ := codes p hp
        refine ⟨o, vs, file, tf, flags, tg, inF, text, tt, down e1 (free_ e1 (fun xs n z => ?_) fun z => ?_), r1, r2, r3, r⟩
        · rw [r2] at z
          cases z
        · rw [r2] at z
          cases z
          simp at r3
      · obtain ⟨bm, ob, b1, b2, b3, b4, b5, b6⟩ := bmod
        refine ⟨bm, ob, b1, b2, ?_, ?_, down b3 (free_ b3 (fun xs n z => ?_) fun z => ?_), b4, b5, b6⟩
        · rintro rfl
          obtain ⟨o, es, ep, e, hd, _⟩ := nsG
          rw [b3] at e
          cases e
          rw [b6] at hd
          cases hd
        · rintro rfl
          rw [tp] at b3
          cases b3
          cases b6
        · rw [b6] at z
          cases z
        · rw [b6] at z
          cases z
      · intro z
        obtain ⟨o, es, ep, e, hd, _⟩ := nsG
        rw [z, tp] at e
        cases e
        cases hd
    have e0 : Env0 P w K mg (hidT s1.heap H) callerA [] s1 H :=
      ⟨rfl, md, fun _ _ e => of_hidT e, Nat.le_of_eq (hidT_size _ _), trivial, fun _ hb => absurd hb List.not_mem_nil, hok, .of_eq gens0⟩
    have run := (F _ kDown (nsDown nsG) tabs).run callerA [] s1 H ⟨[.ref a], []⟩ [.ref a] [.ref a] _ _ rfl hr e0 (bnd s1 (.ref a)) (.cons rfl .nil) (hsp H tabH hS)
    refine codeAny_mono run fun r s' h => ?_
    rcases r with e | fl
    · exact h.elim
    · cases fl with
      | next => exact h.elim
      | brk => exact h.elim
      | cont => exact h.elim
      | ret u =>
        obtain ⟨v, H', os, bare, un, hok', ru, q⟩ := h
        cases (show v = .bl true from q)
        cases (show u = Value.bool true from ru)
        have rest_ : ∀ b o, b ∉ cs.map (·.2) → s1.heap.get? b = some o → s'.heap.get? b = some o := by
          intro b o nb e
          cases hb : H b with
          | none => exact un.keep b o e hb (fun z => absurd z List.not_mem_nil) List.not_mem_nil
          | some u =>
            rcases only b with z | z | ⟨ob, xs, z⟩
            · rw [hb] at z
              cases z
            · exact absurd z nb
            · obtain ⟨e1, _⟩ := hok b _ z
              obtain ⟨e2, _⟩ := hok' b _ (un.frzs b ob _ z)
              rw [e] at e1
              cases e1
              exact e2
        have more_ : ∀ p ∈ cs, ∃ more : Array Value, s'.heap.get? p.2 = some { cls := .none, data := .fields more } := by
          intro p hp
          obtain ⟨more, z⟩ := un.tbls p.2 #[] (tabH p hp)
          exact ⟨_, hok' p.2 _ z⟩
        refine ⟨rfl, ⟨fun b o e => ?_, fun b o e => ?_⟩, os, bare⟩
        · by_cases hb : b ∈ cs.map (·.2)
          · obtain ⟨p, hp, rfl⟩ := List.mem_map.mp hb
            obtain ⟨more, hm⟩ := more_ p hp
            rw [tab0 p hp] at e
            cases e
            refine .inr (.inl ⟨((codes p hp).tab (tab0 p hp)).isCodeTable, rfl, #[], more, rfl, ?_⟩)
            rw [Array.empty_append]
            exact hm
          · exact .inl (rest_ b o hb e)
        · by_cases hb : b ∈ cs.map (·.2)
          · obtain ⟨p, hp, rfl⟩ := List.mem_map.mp hb
            obtain ⟨more, hm⟩ := more_ p hp
            exact ⟨_, hm⟩
          · exact ⟨o, rest_ b o hb e⟩
  cases hk : K.lookup a with
  | some o =>
    have e := KX a o hk
    rw [ha] at e
    cases e
    refine body (fun b => if b ∈ cs.map (·.2) then some (.tbl #[]) else none) (fun p hp => if_pos (memT p hp)) ?_ (.inr ⟨_, us.toArray, _, hk, rfl, rfl, rfl, ?_, ?_⟩) (fun b u z => ?_) ?_ ?_
    · intro b
      by_cases hb : b ∈ cs.map (·.2)
      · exact .inr (.inl hb)
      · exact .inl (if_neg hb)
    · rw [List.size_toArray, lenU]
      exact hl
    · simpa using rv
    · by_cases hb : b ∈ cs.map (·.2)
      · have z' := (if_pos hb).symm.trans z
        cases z'
        exact inT b hb
      · have z' := (if_neg hb).symm.trans z
        cases z'
    · intro b z
      by_cases hb : b ∈ cs.map (·.2)
      · exact .inr hb
      · exact absurd (if_neg hb) z
    · intro z
      exact absurd (if_neg notT) z
  | none =>
    have neT : ∀ p ∈ cs, p.2 ≠ a := fun p hp e => notT (e ▸ memT p hp)
    refine body (fun b => if b = a then some (.frz { cls := .type "list", data := .seq us.toArray } (.lst (ns.map V.int))) else if b ∈ cs.map (·.2) then some (.tbl #[]) else none)
      (fun p hp => (if_neg (neT p hp)).trans (if_pos (memT p hp))) ?_ (.inl (.inr ⟨{ cls := .type "list", data := .seq us.toArray }, if_pos rfl⟩)) (fun b u z => ?_) ?_ (fun _ => hk)
    · intro b
      by_cases hb : b = a
      · exact .inr (.inr ⟨_, _, if_pos hb⟩)
      · by_cases h2 : b ∈ cs.map (·.2)
        · exact .inr (.inl h2)
        · exact .inl ((if_neg hb).trans (if_neg h2))
    · by_cases hb : b = a
      · have z' := (if_pos hb).symm.trans z
        cases z'
        subst hb
        refine ⟨ha, ?_, us, _, rv, ha⟩
        rw [List.length_map]
        exact hl
      · have z1 := (if_neg hb).symm.trans z
        by_cases h2 : b ∈ cs.map (·.2)
        · have z' := (if_pos h2).symm.trans z1
          cases z'
          exact inT b h2
        · have z' := (if_neg h2).symm.trans z1
          cases z'
    · intro b z
      by_cases hb : b = a
      · exact .inl hb
      · by_cases h2 : b ∈ cs.map (·.2)
        · exact .inr h2
        · exact absurd ((if_neg hb).trans (if_neg h2)) z

/-- as walk_ofG, where defs make lambdas: Y tells the tables -/
theorem walk_ofT {l : PySem.W.OpenLaw} {n k : Nat} {q : Program} {loose : List Str} {XP : (Str → Option Value) → Heap → Prop} {YP : World → Heap → Prop} {d : DefRec} {K : Params → PySem.W.Frag} {sp : PySem.W.Frag → List (Addr × Addr) → Sp} {x : Str}
    (hn : l.most = some n) (hn2 : n ≤ sizeLine) (hdf : d.params.defaults = []) (hr : Room k callerA) (hY : ∀ (w : World) (h : Heap), YP w h → (K w.params).In h)
    (F : ∀ (w : World) (mg : Str → Option Value) (fa : Addr) (h : Heap), YP w h → (K w.params).In h → h.Ns mainGlobals mg → mg d.name = some (.ref fa) →
      ∃ (fd : FuncData) (cs : List (Addr × Addr)), (∀ p ∈ cs, h.get? p.2 = some { cls := .none, data := .fields #[] }) ∧ (∀ p ∈ cs, (K w.params).lookup p.2 = none) ∧ (∀ p ∈ cs, PySem.W.CodeHd h p.1 p.2) ∧
        (∀ (s : Shared) (u : Value), BindsTo s fd ⟨[u], []⟩ [(x, u)]) ∧
        (∀ base : Heap, (K w.params).In base → base.Ns mainGlobals mg → (∀ p ∈ cs, TabB base mg p.1 p.2) → FnG l.prog w (K w.params) mg base CX0 k fa fd [x] (sp (K w.params) cs)))
    (hsp : ∀ (K : PySem.W.Frag) (cs : List (Addr × Addr)) (H : Hp) (a : Addr) (ns : List Int), ns.length ≤ n → (∀ p ∈ cs, H p.2 = some (.tbl #[])) → SqL K H a (ns.map V.int) → sp K cs [.ref a] H (fun v _ => v = .bl true) fun _ _ _ => False) :
    PySem.W.WalkO q loose XP YP l.row.toRowW d [] (fun f vs => PySem.call f vs) := by
  refine Att.attach_callB hn hdf fun w s0 s1 mg mb fa o pm cd doc a us ns G Y ho hd hcd hmg hobj hints hlen hbits hg => ?_
  have KX := hY w _ Y
  obtain ⟨fd, cs, t0, tK, tC, bnd, hF⟩ := F w mg fa _ Y KX G.T.g hmg
  exact law_callT KX G.T.g G.T.b G.T.builtins G.T.nolimit hg t0 tK tC G.T.bmain hobj hints (Nat.le_trans hlen hn2) hr hF bnd fun H hH hS => hsp _ cs H a ns hlen hH hS
/-! ### short words -/
def lamDB (sc scope : Scope) (N own : List Str) : Bool :=
  decide (scope.kind = .function) && (!scope.isCoroutine && (!scope.isGenerator && ((scope.names.all fun y => !decide (y.2 = .cell) && ((!decide (y.2 = .local) || !decide (y.1 ∈ N)) &&
    (!decide (y.2 = .free) || (decide (sc.names.lookup y.1 = some .cell) || decide (sc.names.lookup y.1 = some .free))))) && own.all fun x => decide (scope.names.lookup x = some .local))))
theorem lamD_by {sc scope : Scope} {N own : List Str} (h : lamDB sc scope N own = true) : LamD sc scope N own := by
  unfold lamDB at h
  simp only [Bool.and_eq_true, Bool.or_eq_true, Bool.not_eq_true', decide_eq_true_eq, decide_eq_false_iff_not, List.all_eq_true] at h
  obtain ⟨h1, h2, h3, h4, h5⟩ := h
  refine ⟨h1, h2, h3, fun y hy => (h4 y hy).1, fun y hy e => ?_, h5, fun y hy e => ?_⟩
  · exact (h4 y hy).2.1.elim (fun z => absurd e z) id
  · exact (h4 y hy).2.2.elim (fun z => absurd e z) id
/-- the def of this code makes lambdas: its table is told by T -/
structure LamT (base : Heap) (mg : Str → Option Value) (T : List (Addr × Str)) (q : Str) (fd : FuncData) (c P : Addr) : Prop where
  code : fd.code = .ref c
  tb : TabB base mg c P
  mem : (P, (q ++ ".<locals>.") ++ "<lambda>") ∈ T
  one : ∀ p ∈ T, p.1 = P → p.2 = (q ++ ".<locals>.") ++ "<lambda>"
theorem LamT.of {X : Cx} {T : List (Addr × Str)} {q : Str} {fd : FuncData} {c P : Addr} {cdv : Value} (l : LamT X.base X.mg T q fd c P) (hc : fd.code = cdv) (e1 : X.env.code = cdv := by rfl) (e2 : X.env.qual = q ++ ".<locals>." := by rfl) : TabOf X T c P := by
  refine ⟨l.tb, e1.trans (hc.symm.trans l.code), ?_, ?_⟩
  · rw [e2]
    exact l.mem
  · rw [e2]
    exact l.one
theorem tabs_nil {H : Hp} {T : List (Addr × Str)} (h : ∀ p ∈ T, H p.1 = some (.tbl #[])) : Tabs T H := fun p hp => LamX.TabS.nil (h p hp)
theorem tabs_same {H H' : Hp} {T : List (Addr × Str)} (h : Tabs T H) (s : Same H H') : Tabs T H' := LamX.Tabs.ext h fun b o e => s b o e
theorem extN_same {H H1 H2 : Hp} (a : ExtN H H1) (s : Same H1 H2) : ExtN H H2 := fun b o e n => s b o (a b o e n)
theorem extN_sq {K : PySem.W.Frag} {H H' : Hp} {a : Addr} {xs : List V} (e : ExtN H H') (s : SqL K H a xs) : SqL K H' a xs := by
  rcases s with (s | ⟨o, s⟩) | s
  · exact .inl (.inl (e _ _ s fun ps z => nomatch z))
  · exact .inl (.inr ⟨o, e _ _ s fun ps z => nomatch z⟩)
  · exact .inr s
theorem extN_sqT {K : PySem.W.Frag} {H H' : Hp} {a : Addr} {xs : List V} (e : ExtN H H') (s : SqT K H a xs) : SqT K H' a xs := by
  rcases s with (s | ⟨o, s⟩) | s
  · exact .inl (.inl (e _ _ s fun ps z => nomatch z))
  · exact .inl (.inr ⟨o, e _ _ s fun ps z => nomatch z⟩)
  · exact .inr s
end EH

set_option Elab.async false
set_option linter.all false
set_option maxRecDepth 100000
set_option maxHeartbeats 4000000
/-! EH13: defs that may raise, by two promises: what they answer, what they refuse. -/
namespace EH
open PySem PySem.Spec PyProof.Rows L2
def spOr (a b : Sp) : Sp := fun vs H Q E => a vs H Q E ∨ b vs H Q E
section
variable {P : Program} {w : World} {K : PySem.W.Frag} {mg : Str → Option Value} {base : Heap} {k : Nat} {f : Addr} {fd : FuncData} {ps : List Str} {a b : Sp} {x : Str}
/-- what never raises may stand where raising is told -/
theorem FnOk.loud (F : FnOk P w K mg base CX0 k f fd ps a) : FnOk P w K mg base (L2.CX P w) k f fd ps a := by
  refine ⟨F.len, fun A outer s H args us vs Q E hr he hb hv hs => ?_⟩
  refine codeAny_mono (F.run A outer s H args us vs Q E hr he hb hv hs) fun r s' z => ?_
  rcases r with er | (v | _ | _ | _)
  · exact (show False from z).elim
  all_goals exact z
theorem FnOk.either (F : FnOk P w K mg base (L2.CX P w) k f fd ps a) (G : FnOk P w K mg base (L2.CX P w) k f fd ps b) : FnOk P w K mg base (L2.CX P w) k f fd ps (spOr a b) := by
  refine ⟨fun vs H Q E h => ?_, fun A outer s H args us vs Q E hr he hb hv hs => ?_⟩
  · rcases h with h | h
    · exact F.len _ _ _ _ h
    · exact G.len _ _ _ _ h
  · rcases hs with h | h
    · exact F.run A outer s H args us vs Q E hr he hb hv h
    · exact G.run A outer s H args us vs Q E hr he hb hv h
end
/-- isinstance of a kept error, or of None, and an own class -/
def rIsHN (K : PySem.W.Frag) : List V → Hp → VK → Prop := fun xs H Q => rIsH K xs H Q ∨ ∃ D : Addr, xs = [.non, .ref D] ∧ PySem.W.kitOne K (.type "NoneType") (.ref D) = some false ∧ Q (.bl false) H
theorem call_isHN {X : Cx} : CallR X (.builtin "isinstance") (rIsHN X.K) := by
  intro pins s σ H xs us Q I r h
  rcases h with h | ⟨D, rfl, e, q⟩
  · exact call_isH pins s σ H xs us Q I r h
  · exact call_isi pins s σ H _ us Q I r ⟨.non, .ref D, .type "NoneType", .ref D, false, rfl, .own D, .base .non, e, q⟩
end EH

set_option Elab.async false
set_option linter.all false
set_option maxRecDepth 100000
set_option maxHeartbeats 4000000
/-! EH14: the begin of a def alone, where what stands behind is never come to. -/
namespace EH
open PySem PySem.Spec PyProof.Rows L2
theorem pss_no {X : Cx} {st : List Stmt} : PSs X st (fun _ _ _ => False) := ⟨fun _ _ _ _ _ _ h => False.elim h⟩
theorem HeldX.mono {P : Program} {w : World} {K : PySem.W.Frag} {mg : Str → Option Value} {base : Heap} {j k : Nat} {f : Addr} {sp : Sp} (h : HeldX P w K mg base j f sp) (jk : j ≤ k) : HeldX P w K mg base k f sp := by
  obtain ⟨fd, ps, F, kp, b⟩ := h.ex
  exact ⟨fd, ps, F.mono jk, kp, b⟩
theorem HeldX.imp {P : Program} {w : World} {K : PySem.W.Frag} {mg : Str → Option Value} {base : Heap} {k : Nat} {f : Addr} {sp sp' : Sp} (h : HeldX P w K mg base k f sp) (i : ∀ vs H Q E, sp' vs H Q E → sp vs H Q E) : HeldX P w K mg base k f sp' := by
  obtain ⟨fd, ps, F, kp, b⟩ := h.ex
  exact ⟨fd, ps, F.imp i, kp, b⟩
end EH

set_option Elab.async false
set_option linter.all false
set_option maxRecDepth 100000
set_option maxHeartbeats 40000000
namespace EH
open PySem PySem.Spec PyProof.Rows L2
def top (i : Nat) : Stmt := PySem.Challenge.pw_everyhalf_k13_what_trees_refuse.main.body.getD i (.Pass ⟨0, 0, 0, 0⟩)

structure Txt (K : PySem.W.Frag) (mg : Str → Option Value) : Prop where
  n_abs : mg "abs" = none
  n_bool : mg "bool" = none
  n_int : mg "int" = none
  n_isinstance : mg "isinstance" = none
  n_len : mg "len" = none
  n_list : mg "list" = none
  n_min : mg "min" = none
  n_range : mg "range" = none
  n_repr : mg "repr" = none
  n_str : mg "str" = none
  n_sum : mg "sum" = none
  n_tuple : mg "tuple" = none
  c_MOST_PAIRS : Cst mg "MOST_PAIRS" (.int 200)
  c_MOST_PAIRS_OF_WORDS : Cst mg "MOST_PAIRS_OF_WORDS" (.int 9)
  m_comb : mg "comb" = some (.builtin "math.comb")
  m_gcd : mg "gcd" = some (.builtin "math.gcd")
abbrev i_BadNumber : Stmt := meth (top 3) 0
abbrev Ni_BadNumber : List Str := ["self", "part"]
theorem sci_BadNumber : FnScope Ni_BadNumber ["self", "part"] (defScope i_BadNumber) := ⟨rfl, rfl, rfl, by decide +kernel, rfl, by decide +kernel, by decide +kernel⟩
theorem oki_BadNumber {P : Program} {w : World} {K : PySem.W.Frag} {mg : Str → Option Value} {base : Heap} {C f : Addr} {fd : FuncData} (F : Fun K "__init__" "BadNumber.__init__" i_BadNumber f fd) (ox : OexC K C) (n0 : PySem.W.findIn K (.ref C) "part" = some none) : FnOk P w K mg base CX0 1 f fd ["self", "part"] (spInit1 C "part") := by
  have nd := sci_BadNumber.nd
  refine F.ok sci_BadNumber (fun vs H Q E h => ?_) (fun cdv A outer s H vs Q E hr h => ?_)
  · obtain ⟨a, v, rfl, _⟩ := h
    rfl
  · obtain ⟨a, v, rfl, ha, q⟩ := h
    refine ⟨_, pss_one (ps_ost (pv 0) (pv 1)), ?_⟩
    exact ⟨_, rfl, _, rfl, a, C, rfl, ox, n0, .inl ⟨ha, fun dx n ne => q dx n ne⟩⟩
abbrev i_BadWord : Stmt := meth (top 4) 0
abbrev Ni_BadWord : List Str := ["self", "part"]
theorem sci_BadWord : FnScope Ni_BadWord ["self", "part"] (defScope i_BadWord) := ⟨rfl, rfl, rfl, by decide +kernel, rfl, by decide +kernel, by decide +kernel⟩
theorem oki_BadWord {P : Program} {w : World} {K : PySem.W.Frag} {mg : Str → Option Value} {base : Heap} {C f : Addr} {fd : FuncData} (F : Fun K "__init__" "BadWord.__init__" i_BadWord f fd) (ox : OexC K C) (n0 : PySem.W.findIn K (.ref C) "part" = some none) : FnOk P w K mg base CX0 1 f fd ["self", "part"] (spInit1 C "part") := by
  have nd := sci_BadWord.nd
  refine F.ok sci_BadWord (fun vs H Q E h => ?_) (fun cdv A outer s H vs Q E hr h => ?_)
  · obtain ⟨a, v, rfl, _⟩ := h
    rfl
  · obtain ⟨a, v, rfl, ha, q⟩ := h
    refine ⟨_, pss_one (ps_ost (pv 0) (pv 1)), ?_⟩
    exact ⟨_, rfl, _, rfl, a, C, rfl, ox, n0, .inl ⟨ha, fun dx n ne => q dx n ne⟩⟩
abbrev i_Misfit : Stmt := meth (top 5) 0
abbrev Ni_Misfit : List Str := ["self", "part"]
theorem sci_Misfit : FnScope Ni_Misfit ["self", "part"] (defScope i_Misfit) := ⟨rfl, rfl, rfl, by decide +kernel, rfl, by decide +kernel, by decide +kernel⟩
theorem oki_Misfit {P : Program} {w : World} {K : PySem.W.Frag} {mg : Str → Option Value} {base : Heap} {C f : Addr} {fd : FuncData} (F : Fun K "__init__" "Misfit.__init__" i_Misfit f fd) (ox : OexC K C) (n0 : PySem.W.findIn K (.ref C) "part" = some none) : FnOk P w K mg base CX0 1 f fd ["self", "part"] (spInit1 C "part") := by
  have nd := sci_Misfit.nd
  refine F.ok sci_Misfit (fun vs H Q E h => ?_) (fun cdv A outer s H vs Q E hr h => ?_)
  · obtain ⟨a, v, rfl, _⟩ := h
    rfl
  · obtain ⟨a, v, rfl, ha, q⟩ := h
    refine ⟨_, pss_one (ps_ost (pv 0) (pv 1)), ?_⟩
    exact ⟨_, rfl, _, rfl, a, C, rfl, ox, n0, .inl ⟨ha, fun dx n ne => q dx n ne⟩⟩
abbrev s_is_integer : Stmt := top 8
abbrev N_is_integer : List Str := ["value"]
theorem sc_is_integer : FnScope N_is_integer ["value"] (defScope s_is_integer) :=
  ⟨rfl, rfl, rfl, by decide +kernel, rfl, by decide +kernel, by decide +kernel⟩
abbrev s_is_within : Stmt := top 9
abbrev N_is_within : List Str := ["value", "least", "most"]
theorem sc_is_within : FnScope N_is_within ["value", "least", "most"] (defScope s_is_within) :=
  ⟨rfl, rfl, rfl, by decide +kernel, rfl, by decide +kernel, by decide +kernel⟩
abbrev s_check_number : Stmt := top 11
abbrev N_check_number : List Str := ["value", "least", "most", "part"]
theorem sc_check_number : FnScope N_check_number ["value", "least", "most", "part"] (defScope s_check_number) :=
  ⟨rfl, rfl, rfl, by decide +kernel, rfl, by decide +kernel, by decide +kernel⟩
abbrev s_check_pairs : Stmt := top 12
abbrev N_check_pairs : List Str := ["pairs"]
theorem sc_check_pairs : FnScope N_check_pairs ["pairs"] (defScope s_check_pairs) :=
  ⟨rfl, rfl, rfl, by decide +kernel, rfl, by decide +kernel, by decide +kernel⟩
abbrev s_is_signs : Stmt := top 10
abbrev N_is_signs : List Str := ["value"]
theorem sc_is_signs : FnScope N_is_signs ["value"] (defScope s_is_signs) :=
  ⟨rfl, rfl, rfl, by decide +kernel, rfl, by decide +kernel, by decide +kernel⟩
abbrev s_is_word : Stmt := top 14
abbrev N_is_word : List Str := ["value", "height", "sign"]
theorem sc_is_word : FnScope N_is_word ["value"] (defScope s_is_word) :=
  ⟨rfl, rfl, rfl, by decide +kernel, rfl, by decide +kernel, by decide +kernel⟩
abbrev s_check_word : Stmt := top 15
abbrev N_check_word : List Str := ["value", "part"]
theorem sc_check_word : FnScope N_check_word ["value", "part"] (defScope s_check_word) :=
  ⟨rfl, rfl, rfl, by decide +kernel, rfl, by decide +kernel, by decide +kernel⟩
abbrev s_period : Stmt := top 16
abbrev N_period : List Str := ["word", "gaps", "many"]
theorem sc_period : FnScope N_period ["word"] (defScope s_period) :=
  ⟨rfl, rfl, rfl, by decide +kernel, rfl, by decide +kernel, by decide +kernel⟩
abbrev s_turns_of : Stmt := top 17
abbrev N_turns_of : List Str := ["word", "many", "gaps", "turns"]
theorem sc_turns_of : FnScope N_turns_of ["word"] (defScope s_turns_of) :=
  ⟨rfl, rfl, rfl, by decide +kernel, rfl, by decide +kernel, by decide +kernel⟩
abbrev s_mirrored_word : Stmt := top 18
abbrev N_mirrored_word : List Str := ["word"]
theorem sc_mirrored_word : FnScope N_mirrored_word ["word"] (defScope s_mirrored_word) :=
  ⟨rfl, rfl, rfl, by decide +kernel, rfl, by decide +kernel, by decide +kernel⟩
abbrev s__ways_on : Stmt := top 27
abbrev N__ways_on : List Str := ["ones", "zeros"]
theorem sc__ways_on : FnScope N__ways_on ["ones", "zeros"] (defScope s__ways_on) :=
  ⟨rfl, rfl, rfl, by decide +kernel, rfl, by decide +kernel, by decide +kernel⟩
abbrev s_how_many_words : Stmt := top 25
abbrev N_how_many_words : List Str := ["pairs"]
theorem sc_how_many_words : FnScope N_how_many_words ["pairs"] (defScope s_how_many_words) :=
  ⟨rfl, rfl, rfl, by decide +kernel, rfl, by decide +kernel, by decide +kernel⟩
abbrev s_all_words : Stmt := top 26
abbrev N_all_words : List Str := ["pairs", "words", "word"]
theorem sc_all_words : FnScope N_all_words ["pairs"] (defScope s_all_words) :=
  ⟨rfl, rfl, rfl, by decide +kernel, rfl, by decide +kernel, by decide +kernel⟩
abbrev s_name_of : Stmt := top 30
abbrev N_name_of : List Str := ["word"]
theorem sc_name_of : FnScope N_name_of ["word"] (defScope s_name_of) :=
  ⟨rfl, rfl, rfl, by decide +kernel, rfl, by decide +kernel, by decide +kernel⟩
abbrev s_mirrored_tree : Stmt := top 31
abbrev N_mirrored_tree : List Str := ["word"]
theorem sc_mirrored_tree : FnScope N_mirrored_tree ["word"] (defScope s_mirrored_tree) :=
  ⟨rfl, rfl, rfl, by decide +kernel, rfl, by decide +kernel, by decide +kernel⟩
abbrev s_are_one_tree : Stmt := top 32
abbrev N_are_one_tree : List Str := ["one", "other"]
theorem sc_are_one_tree : FnScope N_are_one_tree ["one", "other"] (defScope s_are_one_tree) :=
  ⟨rfl, rfl, rfl, by decide +kernel, rfl, by decide +kernel, by decide +kernel⟩
abbrev s_star : Stmt := top 33
abbrev N_star : List Str := ["pairs"]
theorem sc_star : FnScope N_star ["pairs"] (defScope s_star) :=
  ⟨rfl, rfl, rfl, by decide +kernel, rfl, by decide +kernel, by decide +kernel⟩
abbrev s_line : Stmt := top 34
abbrev N_line : List Str := ["pairs"]
theorem sc_line : FnScope N_line ["pairs"] (defScope s_line) :=
  ⟨rfl, rfl, rfl, by decide +kernel, rfl, by decide +kernel, by decide +kernel⟩
abbrev s__coprime : Stmt := top 38
abbrev N__coprime : List Str := ["number", "each"]
theorem sc__coprime : FnScope N__coprime ["number"] (defScope s__coprime) :=
  ⟨rfl, rfl, rfl, by decide +kernel, rfl, by decide +kernel, by decide +kernel⟩
abbrev s__with_place : Stmt := top 37
abbrev N__with_place : List Str := ["pairs", "many", "divisors"]
theorem sc__with_place : FnScope N__with_place ["pairs"] (defScope s__with_place) :=
  ⟨rfl, rfl, rfl, by decide +kernel, rfl, by decide +kernel, by decide +kernel⟩
abbrev s__with_tie : Stmt := top 36
abbrev N__with_tie : List Str := ["pairs", "turned_round"]
theorem sc__with_tie : FnScope N__with_tie ["pairs"] (defScope s__with_tie) :=
  ⟨rfl, rfl, rfl, by decide +kernel, rfl, by decide +kernel, by decide +kernel⟩
abbrev s_how_many_trees : Stmt := top 35
abbrev N_how_many_trees : List Str := ["pairs"]
theorem sc_how_many_trees : FnScope N_how_many_trees ["pairs"] (defScope s_how_many_trees) :=
  ⟨rfl, rfl, rfl, by decide +kernel, rfl, by decide +kernel, by decide +kernel⟩
abbrev s_all_trees : Stmt := top 39
abbrev N_all_trees : List Str := ["pairs", "names", "seen", "word", "each"]
theorem sc_all_trees : FnScope N_all_trees ["pairs"] (defScope s_all_trees) :=
  ⟨rfl, rfl, rfl, by decide +kernel, rfl, by decide +kernel, by decide +kernel⟩
abbrev s_ups_of : Stmt := top 41
abbrev N_ups_of : List Str := ["word", "ups", "path", "sign"]
theorem sc_ups_of : FnScope N_ups_of ["word"] (defScope s_ups_of) :=
  ⟨rfl, rfl, rfl, by decide +kernel, rfl, by decide +kernel, by decide +kernel⟩
abbrev s_ways_from : Stmt := top 42
abbrev N_ways_from : List Str := ["word", "ups", "sizes", "sums", "place", "up"]
theorem sc_ways_from : FnScope N_ways_from ["word"] (defScope s_ways_from) :=
  ⟨rfl, rfl, rfl, by decide +kernel, rfl, by decide +kernel, by decide +kernel⟩
abbrev s_least_sum : Stmt := top 44
abbrev N_least_sum : List Str := ["word"]
theorem sc_least_sum : FnScope N_least_sum ["word"] (defScope s_least_sum) :=
  ⟨rfl, rfl, rfl, by decide +kernel, rfl, by decide +kernel, by decide +kernel⟩
abbrev s_middles : Stmt := top 45
abbrev N_middles : List Str := ["word", "sums", "least", "place", "each"]
theorem sc_middles : FnScope N_middles ["word"] (defScope s_middles) :=
  ⟨rfl, rfl, rfl, by decide +kernel, rfl, by decide +kernel, by decide +kernel⟩
abbrev s_leaves : Stmt := top 46
abbrev N_leaves : List Str := ["word", "ups", "ties", "up", "place", "many"]
theorem sc_leaves : FnScope N_leaves ["word"] (defScope s_leaves) :=
  ⟨rfl, rfl, rfl, by decide +kernel, rfl, by decide +kernel, by decide +kernel⟩
abbrev s__law_gate : Stmt := top 48
abbrev N__law_gate : List Str := ["script", "cell"]
theorem sc__law_gate : FnScope N__law_gate ["script"] (defScope s__law_gate) :=
  ⟨rfl, rfl, rfl, by decide +kernel, rfl, by decide +kernel, by decide +kernel⟩
abbrev s__law_latch : Stmt := top 49
abbrev N__law_latch : List Str := ["gate", "many", "left", "turn", "cell", "mixed"]
theorem sc__law_latch : FnScope N__law_latch ["gate", "many"] (defScope s__law_latch) :=
  ⟨rfl, rfl, rfl, by decide +kernel, rfl, by decide +kernel, by decide +kernel⟩
abbrev s__law_one_of : Stmt := top 50
abbrev N__law_one_of : List Str := ["gate", "some"]
theorem sc__law_one_of : FnScope N__law_one_of ["gate", "some"] (defScope s__law_one_of) :=
  ⟨rfl, rfl, rfl, by decide +kernel, rfl, by decide +kernel, by decide +kernel⟩
abbrev s__law_word : Stmt := top 51
abbrev N__law_word : List Str := ["gate", "pairs", "lean", "signs", "ones", "deep", "place", "is_up"]
theorem sc__law_word : FnScope N__law_word ["gate", "pairs"] (defScope s__law_word) :=
  ⟨rfl, rfl, rfl, by decide +kernel, rfl, by decide +kernel, by decide +kernel⟩
abbrev s__law_no_word : Stmt := top 52
abbrev N__law_no_word : List Str := ["gate", "word", "at", "some"]
theorem sc__law_no_word : FnScope N__law_no_word ["gate", "word"] (defScope s__law_no_word) :=
  ⟨rfl, rfl, rfl, by decide +kernel, rfl, by decide +kernel, by decide +kernel⟩
abbrev s__law_heard : Stmt := top 53
abbrev N__law_heard : List Str := ["ask", "caught", "error", "word", "is_so"]
theorem sc__law_heard : FnScope N__law_heard ["ask"] (defScope s__law_heard) :=
  ⟨rfl, rfl, rfl, by decide +kernel, rfl, by decide +kernel, by decide +kernel⟩
abbrev s_law : Stmt := top 54
abbrev N_law : List Str := ["script", "gate", "turn", "word", "none", "other", "ask", "heard", "odd"]
theorem sc_law : FnScope N_law ["script"] (defScope s_law) :=
  ⟨rfl, rfl, rfl, by decide +kernel, rfl, by decide +kernel, by decide +kernel⟩
/-! ### the drawing object: a list of the cells, how many were begun, what is left -/
/-- at g stands what draws, at most n cells begun -/
def GA (H : Hp) (g : Addr) (n : Nat) : Prop :=
  ∃ (c : Addr) (cs : List Int) (b : Nat) (r : Int), H g = some (.lst [.ref c, .int b, .int r]) ∧ H c = some (.lst (cs.map V.int)) ∧ c ≠ g ∧ b ≤ n ∧ 0 ≤ r
theorem GA.mono {H : Hp} {g : Addr} {n m : Nat} (h : GA H g n) (l : n ≤ m) : GA H g m := by
  obtain ⟨c, cs, b, r, h1, h2, h3, h4, h5⟩ := h
  exact ⟨c, cs, b, r, h1, h2, h3, Nat.le_trans h4 l, h5⟩
/-- g's cells stand at c -/
def Ce (H : Hp) (g c : Addr) : Prop := ∃ b r : Int, H g = some (.lst [.ref c, .int b, .int r])
theorem Ce.upd {H : Hp} {g c : Addr} {x y b r : Int} (h : H g = some (.lst [.ref c, .int x, .int y])) : ∀ d, Ce H g d → Ce (upd H g (.lst [.ref c, .int b, .int r])) g d := fun d ⟨_, _, e⟩ => by
  rw [h] at e
  cases e
  exact ⟨_, _, upd_same⟩
/-- all that was tracked is as it was, but what stands at g -/
structure Fm (g : Addr) (H H' : Hp) : Prop where
  k : ∀ b o, b ≠ g → H b = some o → H' b = some o
  c : ∀ d, Ce H g d → Ce H' g d
instance {g : Addr} {H H' : Hp} : CoeFun (Fm g H H') (fun _ => ∀ b o, b ≠ g → H b = some o → H' b = some o) := ⟨Fm.k⟩
theorem Fm.refl (g : Addr) (H : Hp) : Fm g H H := ⟨fun _ _ _ h => h, fun _ h => h⟩
theorem Fm.trans {g : Addr} {H H1 H2 : Hp} (a : Fm g H H1) (b : Fm g H1 H2) : Fm g H H2 := ⟨fun c o n h => b.k c o n (a.k c o n h), fun d h => b.c d (a.c d h)⟩
theorem Fm.of {g : Addr} {H H' : Hp} (s : Same H H') : Fm g H H' := ⟨fun c o _ h => s c o h, fun d ⟨b, r, e⟩ => ⟨b, r, s _ _ e⟩⟩
theorem Fm.upd {g : Addr} {H : Hp} {o : HO} (k : ∀ d, Ce H g d → Ce (upd H g o) g d) : Fm g H (upd H g o) := ⟨fun c u n h => by
  rw [upd_ne n]
  exact h, k⟩
theorem Fm.new {g : Addr} {H : Hp} {p : Addr} {o : HO} (h : H p = none) : Fm g H (L2.upd H p o) := Fm.of fun b x e => by
  rw [upd_ne (ne_of_none e h)]
  exact e
/-- where the cells stand, apart from what isn't there yet -/
theorem GA.off {H : Hp} {g D : Addr} {n : Nat} (h : GA H g n) (hD : H D = none) : ∃ c, Ce H g c ∧ D ≠ c := by
  obtain ⟨c, cs, b, r, h1, h2, h3, h4, h5⟩ := h
  exact ⟨c, ⟨_, _, h1⟩, fun e => by subst e; rw [hD] at h2; cases h2⟩
theorem GA.put {H : Hp} {g D c : Addr} {n : Nat} {o : HO} (h : GA H g n) (k : Ce H g c) (nc : D ≠ c) (ng : D ≠ g) : GA (L2.upd H D o) g n := by
  obtain ⟨c', cs, b, r, h1, h2, h3, h4, h5⟩ := h
  obtain ⟨b', r', e⟩ := k
  rw [h1] at e
  cases e
  exact ⟨c, cs, b, r, by rw [upd_ne (Ne.symm ng)]; exact h1, by rw [upd_ne (Ne.symm nc)]; exact h2, h3, h4, h5⟩
theorem Ce.put {H : Hp} {g D c : Addr} {o : HO} (k : Ce H g c) (ng : D ≠ g) : Ce (L2.upd H D o) g c := by
  obtain ⟨b', r', e⟩ := k
  exact ⟨b', r', by rw [upd_ne (Ne.symm ng)]; exact e⟩
theorem GA.new {H : Hp} {g p : Addr} {n : Nat} {o : HO} (h : GA H g n) (hp : H p = none) : GA (upd H p o) g n := by
  obtain ⟨c, cs, b, r, h1, h2, h3, h4, h5⟩ := h
  exact ⟨c, cs, b, r, by rw [upd_ne (ne_of_none h1 hp)]; exact h1, by rw [upd_ne (ne_of_none h2 hp)]; exact h2, h3, h4, h5⟩
theorem GA.same {H H' : Hp} {g : Addr} {n : Nat} (h : GA H g n) (s : Same H H') : GA H' g n := by
  obtain ⟨c, cs, b, r, h1, h2, h3, h4, h5⟩ := h
  exact ⟨c, cs, b, r, s _ _ h1, s _ _ h2, h3, h4, h5⟩
theorem same_new {H : Hp} {p : Addr} {o : HO} (h : H p = none) : Same H (upd H p o) := fun b x e => by
  rw [upd_ne (ne_of_none e h)]
  exact e
theorem Fm.none {g : Addr} {H H' : Hp} (h : Fm g H H') (hg : H g ≠ Option.none) {p : Addr} (hp : H' p = Option.none) (hg' : H' g ≠ Option.none) : H p = Option.none := by
  cases e : H p with
  | none => rfl
  | some o =>
    by_cases q : p = g
    · subst q
      exact absurd hp hg'
    · rw [h.k p o q e] at hp
      cases hp
theorem GA.some {H : Hp} {g : Addr} {n : Nat} (h : GA H g n) : H g ≠ Option.none := by
  obtain ⟨c, cs, b, r, h1, _⟩ := h
  rw [h1]
  exact Option.some_ne_none _
theorem Fm.sq {K : PySem.W.Frag} {g : Addr} {H H' : Hp} {a : Addr} {xs : List V} (h : Fm g H H') (n : a ≠ g) (s : SqL K H a xs) : SqL K H' a xs := by
  rcases s with (s | ⟨o, s⟩) | s
  · exact .inl (.inl (h.k _ _ n s))
  · exact .inl (.inr ⟨o, h.k _ _ n s⟩)
  · exact .inr s
theorem Fm.sqT {K : PySem.W.Frag} {g : Addr} {H H' : Hp} {a : Addr} {xs : List V} (h : Fm g H H') (n : a ≠ g) (s : SqT K H a xs) : SqT K H' a xs := by
  rcases s with (s | ⟨o, s⟩) | s
  · exact .inl (.inl (h.k _ _ n s))
  · exact .inl (.inr ⟨o, h.k _ _ n s⟩)
  · exact .inr s
def spGauge (K : PySem.W.Frag) : Sp := fun vs H Q _ => ∃ (a : Addr) (ns : List Int), vs = [.ref a] ∧ SqL K H a (ns.map V.int) ∧ ns.length ≤ 63 ∧
  ∀ (g : Addr) (H' : Hp), Same H H' → H g = none → GA H' g 0 → Q (.ref g) H'
def spTick : Sp := fun vs H Q _ => ∃ (g : Addr) (n : Nat) (m : Int), vs = [.ref g, .int m] ∧ GA H g n ∧ n < 1000000 ∧ 0 < m ∧ m.natAbs < 2 ^ 2000 ∧
  ∀ (H' : Hp) (v : Int), 0 ≤ v → v < m → Fm g H H' → GA H' g (n + 1) → Q (.int v) H'
def spDial (K : PySem.W.Frag) : Sp := fun vs H Q _ => ∃ (g a : Addr) (n : Nat) (xs : List V), vs = [.ref g, .ref a] ∧ GA H g n ∧ n < 1000000 ∧ SqL K H a xs ∧ a ≠ g ∧ 0 < xs.length ∧ xs.length < 1000 ∧
  ∀ (H' : Hp) (v : V), v ∈ xs → Fm g H H' → GA H' g (n + 1) → Q v H'
theorem cut_upto (xs : List V) (k : Nat) : cutV xs none (some (k : Int)) = xs.take k := by
  unfold cutV
  rw [HT.sIx_none, show HT.sIx xs.length xs.length (some (k : Int)) = min k xs.length from HT.sIx_nat xs.length xs.length k, List.drop_zero, Nat.sub_zero]
  rcases Nat.le_total k xs.length with h | h
  · rw [Nat.min_eq_left h]
  · rw [Nat.min_eq_right h, List.take_of_length_le (Nat.le_refl _), List.take_of_length_le h]
theorem natAbs_pow_lt {x : Int} {b : Int} (h0 : 0 ≤ x) (h1 : x < b) : x.natAbs < b.toNat := by omega
section
variable {P : Program} {w : World} {K : PySem.W.Frag} {mg : Str → Option Value} {base : Heap}
theorem ok__law_gate {f : Addr} {fd : FuncData} (F : Fun K "_law_gate" "_law_gate" s__law_gate f fd) (T : Txt K mg) : FnOk P w K mg base CX0 1 f fd ["script"] (spGauge K) := by
  have nd := sc__law_gate.nd
  refine F.ok sc__law_gate (fun vs H Q E h => ?_) (fun cdv A outer s H vs Q E hr h => ?_)
  · obtain ⟨a, ns, rfl, _⟩ := h
    rfl
  · obtain ⟨a, ns, rfl, hS, hl, q⟩ := h
    refine ⟨_, (pss_one (ps_ret (pe_lst (pa_cons (pe_lc (own := [("cell", 1)]) rfl nd (pi_list (pe_slice sl_list (pv 0) po_none (po_some pe_int))) (blkOk_by (N := N__law_gate) (sc := defScope s__law_gate) (by decide +kernel)) (fun _ _ _ _ _ => (pg_name (i := 1) nd rfl (by first | exact Or.inl rfl | exact Or.inr rfl))) (fun _ _ _ _ _ => pts_nil) (fun _ _ _ _ _ => (pe_callTy call_int1 (by rfl) T.n_int (by decide +kernel) (pa_cons (pv 1) pa_nil)))) (pa_cons pe_int (pa_cons pe_int pa_nil)))))), ?_⟩
    refine ⟨_, rfl, _, rfl, a, _, rfl, hS, fun p np => ?_⟩
    have e60 : cutV (ns.map V.int) none (some (60 : Int)) = (ns.take 60).map V.int := by
      rw [List.map_take]
      exact cut_upto (ns.map V.int) 60
    rw [e60]
    have hcl : (ns.take 60).length ≤ 60 := List.length_take_le ..
    generalize ns.take 60 = cs at hcl ⊢
    refine ⟨p, rfl, ⟨_, SqL.of upd_same⟩, fun D nD => ?_⟩
    have s1 : Same H (upd H p (.lst (cs.map V.int))) := same_new np
    have npD : p ≠ D := fun e => by
      rw [← e, upd_same] at nD
      cases nD
    refine lc_list (K := K) (a := p) (xs := cs.map V.int) (fun i H' => Same H H' ∧ H' p = some (.lst (cs.map V.int)) ∧ H' D = some (.lst ((cs.take i).map V.int)))
      ⟨s1.trans (same_new nD), by rw [upd_ne npD]; exact upd_same, upd_same⟩ (fun i H' _ h => SqL.of h.2.1) ?_ ?_
    · rintro i x H' hx ⟨sm, hp, hD⟩
      have hi : i < cs.length := by
        have := (List.getElem?_eq_some_iff.mp hx).1
        rw [List.length_map] at this
        exact this
      have ex : x = .int cs[i] := by
        rw [List.getElem?_map, List.getElem?_eq_getElem hi] at hx
        exact (Option.some.inj hx).symm
      subst ex
      refine ⟨rfl, ?_⟩
      dsimp only [tYes]
      rw [if_pos rfl]
      refine ⟨_, rfl, .inl ⟨_, rfl, _, hD, ?_, ?_⟩⟩
      · rw [List.length_map, List.length_take]
        exact Nat.lt_of_le_of_lt (Nat.min_le_right _ _) (small1000 (by omega))
      · refine ⟨fun b o e => ?_, by rw [upd_ne npD]; exact hp, ?_⟩
        · have nb : b ≠ D := fun z => by
            subst z
            rw [same_new np _ _ e] at nD
            cases nD
          rw [upd_ne nb]
          exact sm _ _ e
        · rw [upd_same, List.take_add_one, List.getElem?_eq_getElem hi, List.map_append]
          rfl
    · rintro H' ⟨sm, hp, hD⟩
      refine ⟨by show 3 ≤ sizeLine; decide, fun g ng => ?_⟩
      have ncg : D ≠ g := ne_of_none hD ng
      have eD : (cs.take (cs.map V.int).length).map V.int = cs.map V.int := by
        rw [List.length_map, List.take_length]
      refine q g _ (sm.trans (same_new ng)) (sm.free ng) ⟨D, cs, 0, 0, upd_same, ?_, ncg, Nat.le_refl _, by decide⟩
      rw [upd_ne ncg, hD, eD]

theorem ok__law_latch {f : Addr} {fd : FuncData} (F : Fun K "_law_latch" "_law_latch" s__law_latch f fd) (T : Txt K mg) : FnOk P w K mg base CX0 1 f fd ["gate", "many"] spTick := by
  have nd := sc__law_latch.nd
  refine F.ok sc__law_latch (fun vs H Q E h => ?_) (fun cdv A outer s H vs Q E hr h => ?_)
  · obtain ⟨g, n, m, rfl, _⟩ := h
    rfl
  · obtain ⟨g, n, m, rfl, ⟨c, cs, b, r, hg, hc, ncg, hb, hr0⟩, hn, hm0, hm1, q⟩ := h
    have hu64 := hr.units
    have nmod : ∀ x : Int, 0 ≤ x % m := fun x => Int.emod_nonneg _ (by omega)
    have lmod : ∀ x : Int, x % m < m := fun x => Int.emod_lt_of_pos _ hm0
    have wd : ∀ x : Int, CDivW x m := fun x => wide_div hm0 hm1 (by decide) (by decide)
    have ix2 : ∀ (b r : Int), atI [V.ref c, V.int b, V.int r] 2 = some (V.int r) := fun _ _ => rfl
    have ix1 : ∀ (b r : Int), atI [V.ref c, V.int b, V.int r] 1 = some (V.int b) := fun _ _ => rfl
    have ix0 : ∀ (b r : Int), atI [V.ref c, V.int b, V.int r] 0 = some (V.ref c) := fun _ _ => rfl
    refine ⟨_, (pss_cons (ps_if (pt_cmpR op_gt (pe_ix (show IxR _ (rIxL K) from ix_list) (pv 0) pe_int (fun _ _ => rfl)) pe_int (nomark _))
 (pss_cons (ps_set (i := 2) nd rfl (by first | exact Or.inl rfl | exact Or.inr rfl) (pe_callTy call_int1 (by rfl) T.n_int (by decide +kernel) (pa_cons (pe_ix (show IxR _ (rIxL K) from ix_list) (pv 0) pe_int (fun _ _ => rfl)) pa_nil)))
 (pss_cons (ps_asg (pe_op op_fdivW (pv 2) (pv 1)) (pg_sub (pv 0) pe_int set_list))
 (pss_one (ps_ret (pe_op op_mod (pe_callTy call_int1 (by rfl) T.n_int (by decide +kernel) (pa_cons (pv 2) pa_nil)) (pv 1))))))
 pss_nil)
 (pss_cons (ps_set (i := 3) nd rfl (by first | exact Or.inl rfl | exact Or.inr rfl) (pe_ix (show IxR _ (rIxL K) from ix_list) (pv 0) pe_int (fun _ _ => rfl)))
 (pss_cons (ps_asg (pe_op op_add (pv 3) pe_int) (pg_sub (pv 0) pe_int set_list))
 (pss_cons (ps_set (i := 4) nd rfl (by first | exact Or.inl rfl | exact Or.inr rfl) (pe_op op_add (pe_op op_mul pe_int (pv 3)) pe_int))
 (pss_cons (ps_if (pt_cmpR (op_neD hu64) (pe_ix (show IxR _ (rIxL K) from ix_list) (pv 0) pe_int (fun _ _ => rfl)) (pe_lst pa_nil) (nomark _))
 (pss_one (ps_set (i := 4) nd rfl (by first | exact Or.inl rfl | exact Or.inr rfl) (pe_ix (show IxR _ (rIxL K) from ix_list) (pe_ix (show IxR _ (rIxL K) from ix_list) (pv 0) pe_int (fun _ _ => rfl)) (pe_op op_mod (pe_callTy call_int1 (by rfl) T.n_int (by decide +kernel) (pa_cons (pv 3) pa_nil)) (pe_callB (show CallR _ (.builtin "len") (rLenSq K) from call_len_seq) (by rfl) T.n_len (by decide +kernel) (pa_cons (pe_ix (show IxR _ (rIxL K) from ix_list) (pv 0) pe_int (fun _ _ => rfl)) pa_nil))) (fun _ _ => rfl))))
 pss_nil)
 (pss_cons (ps_if (PW.pt (pw_and (pt_cmpR op_lt (pv 3) (pe_callB (show CallR _ (.builtin "len") (rLenSq K) from call_len_seq) (by rfl) T.n_len (by decide +kernel) (pa_cons (pe_ix (show IxR _ (rIxL K) from ix_list) (pv 0) pe_int (fun _ _ => rfl)) pa_nil)) (nomark _)) (pw_and1 (pt_cmpR op_ge (pe_callB call_abs (by rfl) T.n_abs (by decide +kernel) (pa_cons (pv 4) pa_nil)) (pe_op op_pow pe_int pe_int) (nomark _)))))
 (pss_cons (ps_set (i := 2) nd rfl (by first | exact Or.inl rfl | exact Or.inr rfl) (pe_op op_add (pe_op op_mul pe_int (pe_op op_sub (pe_callB call_abs (by rfl) T.n_abs (by decide +kernel) (pa_cons (pe_callTy call_int1 (by rfl) T.n_int (by decide +kernel) (pa_cons (pv 4) pa_nil)) pa_nil)) (pe_op op_pow pe_int pe_int))) (pe_callTy call_int1 (by rfl) T.n_int (by decide +kernel) (pa_cons (pe_cmpR op_lt (pv 4) pe_int (nomark _)) pa_nil))))
 (pss_cons (ps_asg (pe_op op_fdivW (pv 2) (pv 1)) (pg_sub (pv 0) pe_int set_list))
 (pss_one (ps_ret (pe_op op_mod (pe_callTy call_int1 (by rfl) T.n_int (by decide +kernel) (pa_cons (pv 2) pa_nil)) (pv 1))))))
 pss_nil)
 (pss_cons (ps_set (i := 5) nd rfl (by first | exact Or.inl rfl | exact Or.inr rfl) (pe_op op_mod (pe_callTy call_int1 (by rfl) T.n_int (by decide +kernel) (pa_cons (pe_op op_pow (pe_op op_add (pe_op op_add (pe_op op_mod (pe_callTy call_int1 (by rfl) T.n_int (by decide +kernel) (pa_cons (pv 4) pa_nil)) pe_int) (pe_op op_mul pe_int (pv 3))) pe_int) pe_int) pa_nil)) pe_int))
 (pss_cons (ps_set (i := 5) nd rfl (by first | exact Or.inl rfl | exact Or.inr rfl) (pe_op op_mod (pe_callTy call_int1 (by rfl) T.n_int (by decide +kernel) (pa_cons (pe_op op_pow (pe_op op_add (pe_op op_add (pe_op op_mul (pv 5) (pe_op op_add (pe_op op_mul pe_int (pv 3)) pe_int)) (pe_op op_mul (pe_op op_mul pe_int (pv 3)) (pv 3))) pe_int) pe_int) pa_nil)) pe_int))
 (pss_one (ps_ret (pe_op op_mod (pe_callTy call_int1 (by rfl) T.n_int (by decide +kernel) (pa_cons (pe_op op_fdiv (pv 5) pe_int) pa_nil)) (pv 1)))))))))))), ?_⟩
    -- what is left of a great cell
    refine ⟨_, rfl, g, _, _, _, rfl, rfl, SqL.of hg, ix2 _ _, _, _, rfl, rfl, _, rfl, ?_⟩
    refine ite2 (fun e => ?_) (fun e => ?_)
    · refine ⟨_, rfl, g, _, _, _, rfl, rfl, SqL.of hg, ix2 _ _, .inl ⟨_, rfl, ?_⟩⟩
      first
        | refine ⟨_, rfl, _, rfl, _, _, rfl, rfl, wd r, _, rfl, g, _, _, 2, rfl, rfl, hg, rfl, ?_⟩
        | refine ⟨_, rfl, .inl ⟨_, rfl, _, rfl, _, _, rfl, rfl, wd r, _, rfl, g, _, _, 2, rfl, rfl, hg, rfl, ?_⟩⟩
      refine ⟨_, rfl, .inl ⟨_, rfl, _, rfl, _, _, rfl, rfl, hm0, ?_⟩⟩
      refine q _ _ (nmod _) (lmod _) (Fm.upd (Ce.upd hg)) ⟨c, cs, b, r / m, upd_same, ?_, ncg, by omega, Int.ediv_nonneg hr0 (by omega)⟩
      rw [upd_ne ncg]
      exact hc
    -- the next cell
    refine ⟨_, rfl, g, _, _, _, rfl, rfl, SqL.of hg, ix1 _ _, ?_⟩
    refine ⟨_, rfl, _, _, rfl, rfl, _, rfl, g, _, _, 1, rfl, rfl, hg, rfl, ?_⟩
    have hg1 : (upd H g (.lst [.ref c, .int ((b : Int) + 1), .int r])) g = some (.lst [.ref c, .int ((b : Int) + 1), .int r]) := upd_same
    have hc1 : (upd H g (.lst [.ref c, .int ((b : Int) + 1), .int r])) c = some (.lst (cs.map V.int)) := by
      rw [upd_ne ncg]
      exact hc
    have fm1 : Fm g H (upd H g (.lst [.ref c, .int ((b : Int) + 1), .int r])) := Fm.upd (Ce.upd hg)
    show tSeq _ _ _ _ (upd H g (.lst [.ref c, .int ((b : Int) + 1), .int r]))
    generalize upd H g (.lst [.ref c, .int ((b : Int) + 1), .int r]) = H1 at hg1 hc1 fm1 ⊢
    -- the cell that the place alone tells
    refine ⟨_, rfl, _, _, rfl, rfl, .inl (by omega), _, _, rfl, rfl, ?_⟩
    -- where there are cells: that one
    refine ⟨_, rfl, g, _, _, _, rfl, rfl, SqL.of hg1, ix0 _ _, Nat.zero_le _, fun l nl => ?_⟩
    have hg2 : (upd H1 l (.lst [])) g = some (.lst [.ref c, .int ((b : Int) + 1), .int r]) := by
      rw [upd_ne (ne_of_none hg1 nl)]
      exact hg1
    have hc2 : (upd H1 l (.lst [])) c = some (.lst (cs.map V.int)) := by
      rw [upd_ne (ne_of_none hc1 nl)]
      exact hc1
    have hl2 : (upd H1 l (.lst [])) l = some (.lst []) := upd_same
    have fm2 : Fm g H (upd H1 l (.lst [])) := fm1.trans (Fm.new nl)
    generalize upd H1 l (.lst []) = H2 at hg2 hc2 hl2 fm2 ⊢
    refine ⟨.list (cs.map .int), .list [], .lst (SqL.of hc2) (dp_ints cs), .lst (SqL.of hl2) .nil, sh_ints cs, rfl, _, rfl, ?_⟩
    refine ite2 (fun e2 => ?_) (fun e2 => ?_)
    · have hcs : 0 < cs.length := by
        cases cs with
        | nil => exact absurd e2 (by decide)
        | cons x y => exact Nat.zero_lt_succ _
      have hbl : (b : Int) % ((cs.map V.int).length : Nat) = ((b % cs.length : Nat) : Int) := by
        rw [List.length_map]
        exact (Int.natCast_emod b cs.length).symm
      have hj : b % cs.length < cs.length := Nat.mod_lt _ hcs
      refine ⟨_, rfl, g, _, _, _, rfl, rfl, SqL.of hg2, ix0 _ _, _, rfl, .inl ⟨_, rfl, _, rfl, g, _, _, _, rfl, rfl, SqL.of hg2, ix0 _ _, c, _, rfl, .inl (SqL.of hc2), _, _, rfl, rfl, ?_, c, _, _, .int cs[b % cs.length], rfl, rfl, SqL.of hc2, ?_, ?_⟩⟩
      · rw [List.length_map]
        omega
      · rw [hbl]
        exact atI_nat (by rw [List.getElem?_map, List.getElem?_eq_getElem hj]; rfl)
      · generalize cs[b % cs.length] = cell
        refine ⟨_, rfl, _, rfl, g, _, _, _, rfl, rfl, SqL.of hg2, ix0 _ _, c, _, rfl, .inl (SqL.of hc2), _, _, rfl, rfl, _, rfl, ?_⟩
        refine ite2 (fun e3 => ?_) (fun e3 => iteF ?_)
        · refine ⟨_, rfl, _, rfl, _, _, rfl, rfl, ⟨by decide, by decide, by decide⟩, _, _, rfl, rfl, _, rfl, ?_⟩
          refine ite2 (fun e4 => ?_) (fun e4 => ?_)
          · have e5 := of_decide_eq_true e4
            first
              | refine ⟨_, rfl, _, rfl, _, _, rfl, rfl, ⟨by decide, by decide, by decide⟩, _, _, rfl, rfl, _, _, rfl, rfl, .inl ⟨by decide, by decide⟩, _, rfl, _, _, rfl, rfl, .inr ⟨_, rfl, _, _, rfl, rfl, ?_⟩⟩
              | refine ⟨_, rfl, .inl ⟨_, rfl, _, rfl, _, _, rfl, rfl, ⟨by decide, by decide, by decide⟩, _, _, rfl, rfl, _, _, rfl, rfl, .inl ⟨by decide, by decide⟩, _, rfl, _, _, rfl, rfl, .inr ⟨_, rfl, _, _, rfl, rfl, ?_⟩⟩⟩
            have r0 : 0 ≤ 2 * ((if cell < 0 then -cell else cell) - 10 ^ (18 : Int).toNat) + (if decide (cell < 0) = true then (1 : Int) else 0) := by
              have e6 : (10 : Int) ^ (18 : Int).toNat ≤ (if cell < 0 then -cell else cell) := e5
              split <;> omega
            dsimp only
            generalize 2 * ((if cell < 0 then -cell else cell) - 10 ^ (18 : Int).toNat) + (if decide (cell < 0) = true then (1 : Int) else 0) = r2 at r0 ⊢
            first
              | refine ⟨_, rfl, _, rfl, _, _, rfl, rfl, wd r2, _, rfl, g, _, _, 2, rfl, rfl, hg2, rfl, ?_⟩
              | refine ⟨_, rfl, .inl ⟨_, rfl, _, rfl, _, _, rfl, rfl, wd r2, _, rfl, g, _, _, 2, rfl, rfl, hg2, rfl, ?_⟩⟩
            refine ⟨_, rfl, .inl ⟨_, rfl, _, rfl, _, _, rfl, rfl, hm0, ?_⟩⟩
            refine q _ _ (nmod _) (lmod _) (fm2.trans (Fm.upd (Ce.upd hg2))) ⟨c, cs, b + 1, r2 / m, upd_same, ?_, ncg, by omega, Int.ediv_nonneg r0 (by omega)⟩
            rw [upd_ne ncg]
            exact hc2
          · refine ⟨_, rfl, .inl ⟨_, rfl, _, _, rfl, rfl, by show (0 : Int) < _; decide, _, rfl, _, _, rfl, rfl, .inl ⟨by decide, by decide⟩, _, _, rfl, rfl, _, _, rfl, rfl, _, _, rfl, rfl, ⟨by decide, by decide, by omega⟩, .inl ⟨_, rfl, _, _, rfl, rfl, by show (0 : Int) < _; decide, ?_⟩⟩⟩
            dsimp only
            have mx0 : 0 ≤ (cell % 2147483549 + 61079 * (b : Int) + 4043) ^ (5 : Int).toNat % 2147483563 := Int.emod_nonneg _ (by decide)
            have mx1 : (cell % 2147483549 + 61079 * (b : Int) + 4043) ^ (5 : Int).toNat % 2147483563 < 2147483563 := Int.emod_lt_of_pos _ (by decide)
            generalize (cell % 2147483549 + 61079 * (b : Int) + 4043) ^ (5 : Int).toNat % 2147483563 = mx at mx0 mx1 ⊢
            have t1 := tick_b1 (x := mx) (b := b) (C := 5155) mx0 (by omega) (by omega) (by omega) (by omega) (by omega)
            have t2 := tick_b2 (D := 90067) (b := b) (by omega) (by omega) (by omega) (by omega)
            refine ⟨_, rfl, _, rfl, _, _, rfl, rfl, .inl ⟨by decide, by decide⟩, _, _, rfl, rfl, _, _, rfl, rfl, .inl ⟨by omega, by omega⟩, _, rfl, _, _, rfl, rfl, .inl ⟨by decide, by decide⟩, _, rfl, _, _, rfl, rfl, .inr ⟨by omega, by omega⟩, _, _, rfl, rfl, _, _, rfl, rfl, _, _, rfl, rfl, ⟨by decide, by decide, by omega⟩, .inl ⟨_, rfl, _, _, rfl, rfl, by show (0 : Int) < _; decide, ?_⟩⟩
            refine ⟨_, rfl, _, _, rfl, rfl, ⟨by decide, by decide⟩, .inl ⟨_, rfl, _, rfl, _, _, rfl, rfl, hm0, ?_⟩⟩
            exact q _ _ (nmod _) (lmod _) fm2 ⟨c, cs, b + 1, r, hg2, hc2, ncg, by omega, hr0⟩
        · refine ⟨_, rfl, .inl ⟨_, rfl, _, _, rfl, rfl, by show (0 : Int) < _; decide, _, rfl, _, _, rfl, rfl, .inl ⟨by decide, by decide⟩, _, _, rfl, rfl, _, _, rfl, rfl, _, _, rfl, rfl, ⟨by decide, by decide, by omega⟩, .inl ⟨_, rfl, _, _, rfl, rfl, by show (0 : Int) < _; decide, ?_⟩⟩⟩
          dsimp only
          have mx0 : 0 ≤ (cell % 2147483549 + 61079 * (b : Int) + 4043) ^ (5 : Int).toNat % 2147483563 := Int.emod_nonneg _ (by decide)
          have mx1 : (cell % 2147483549 + 61079 * (b : Int) + 4043) ^ (5 : Int).toNat % 2147483563 < 2147483563 := Int.emod_lt_of_pos _ (by decide)
          generalize (cell % 2147483549 + 61079 * (b : Int) + 4043) ^ (5 : Int).toNat % 2147483563 = mx at mx0 mx1 ⊢
          have t1 := tick_b1 (x := mx) (b := b) (C := 5155) mx0 (by omega) (by omega) (by omega) (by omega) (by omega)
          have t2 := tick_b2 (D := 90067) (b := b) (by omega) (by omega) (by omega) (by omega)
          refine ⟨_, rfl, _, rfl, _, _, rfl, rfl, .inl ⟨by decide, by decide⟩, _, _, rfl, rfl, _, _, rfl, rfl, .inl ⟨by omega, by omega⟩, _, rfl, _, _, rfl, rfl, .inl ⟨by decide, by decide⟩, _, rfl, _, _, rfl, rfl, .inr ⟨by omega, by omega⟩, _, _, rfl, rfl, _, _, rfl, rfl, _, _, rfl, rfl, ⟨by decide, by decide, by omega⟩, .inl ⟨_, rfl, _, _, rfl, rfl, by show (0 : Int) < _; decide, ?_⟩⟩
          refine ⟨_, rfl, _, _, rfl, rfl, ⟨by decide, by decide⟩, .inl ⟨_, rfl, _, rfl, _, _, rfl, rfl, hm0, ?_⟩⟩
          exact q _ _ (nmod _) (lmod _) fm2 ⟨c, cs, b + 1, r, hg2, hc2, ncg, by omega, hr0⟩
    · dsimp only
      generalize 90067 * (b : Int) + 4043 = cell
      refine ⟨_, rfl, _, rfl, g, _, _, _, rfl, rfl, SqL.of hg2, ix0 _ _, c, _, rfl, .inl (SqL.of hc2), _, _, rfl, rfl, _, rfl, ?_⟩
      refine ite2 (fun e3 => ?_) (fun e3 => iteF ?_)
      · refine ⟨_, rfl, _, rfl, _, _, rfl, rfl, ⟨by decide, by decide, by decide⟩, _, _, rfl, rfl, _, rfl, ?_⟩
        refine ite2 (fun e4 => ?_) (fun e4 => ?_)
        · have e5 := of_decide_eq_true e4
          first
            | refine ⟨_, rfl, _, rfl, _, _, rfl, rfl, ⟨by decide, by decide, by decide⟩, _, _, rfl, rfl, _, _, rfl, rfl, .inl ⟨by decide, by decide⟩, _, rfl, _, _, rfl, rfl, .inr ⟨_, rfl, _, _, rfl, rfl, ?_⟩⟩
            | refine ⟨_, rfl, .inl ⟨_, rfl, _, rfl, _, _, rfl, rfl, ⟨by decide, by decide, by decide⟩, _, _, rfl, rfl, _, _, rfl, rfl, .inl ⟨by decide, by decide⟩, _, rfl, _, _, rfl, rfl, .inr ⟨_, rfl, _, _, rfl, rfl, ?_⟩⟩⟩
          have r0 : 0 ≤ 2 * ((if cell < 0 then -cell else cell) - 10 ^ (18 : Int).toNat) + (if decide (cell < 0) = true then (1 : Int) else 0) := by
            have e6 : (10 : Int) ^ (18 : Int).toNat ≤ (if cell < 0 then -cell else cell) := e5
            split <;> omega
          dsimp only
          generalize 2 * ((if cell < 0 then -cell else cell) - 10 ^ (18 : Int).toNat) + (if decide (cell < 0) = true then (1 : Int) else 0) = r2 at r0 ⊢
          first
            | refine ⟨_, rfl, _, rfl, _, _, rfl, rfl, wd r2, _, rfl, g, _, _, 2, rfl, rfl, hg2, rfl, ?_⟩
            | refine ⟨_, rfl, .inl ⟨_, rfl, _, rfl, _, _, rfl, rfl, wd r2, _, rfl, g, _, _, 2, rfl, rfl, hg2, rfl, ?_⟩⟩
          refine ⟨_, rfl, .inl ⟨_, rfl, _, rfl, _, _, rfl, rfl, hm0, ?_⟩⟩
          refine q _ _ (nmod _) (lmod _) (fm2.trans (Fm.upd (Ce.upd hg2))) ⟨c, cs, b + 1, r2 / m, upd_same, ?_, ncg, by omega, Int.ediv_nonneg r0 (by omega)⟩
          rw [upd_ne ncg]
          exact hc2
        · refine ⟨_, rfl, .inl ⟨_, rfl, _, _, rfl, rfl, by show (0 : Int) < _; decide, _, rfl, _, _, rfl, rfl, .inl ⟨by decide, by decide⟩, _, _, rfl, rfl, _, _, rfl, rfl, _, _, rfl, rfl, ⟨by decide, by decide, by omega⟩, .inl ⟨_, rfl, _, _, rfl, rfl, by show (0 : Int) < _; decide, ?_⟩⟩⟩
          dsimp only
          have mx0 : 0 ≤ (cell % 2147483549 + 61079 * (b : Int) + 4043) ^ (5 : Int).toNat % 2147483563 := Int.emod_nonneg _ (by decide)
          have mx1 : (cell % 2147483549 + 61079 * (b : Int) + 4043) ^ (5 : Int).toNat % 2147483563 < 2147483563 := Int.emod_lt_of_pos _ (by decide)
          generalize (cell % 2147483549 + 61079 * (b : Int) + 4043) ^ (5 : Int).toNat % 2147483563 = mx at mx0 mx1 ⊢
          have t1 := tick_b1 (x := mx) (b := b) (C := 5155) mx0 (by omega) (by omega) (by omega) (by omega) (by omega)
          have t2 := tick_b2 (D := 90067) (b := b) (by omega) (by omega) (by omega) (by omega)
          refine ⟨_, rfl, _, rfl, _, _, rfl, rfl, .inl ⟨by decide, by decide⟩, _, _, rfl, rfl, _, _, rfl, rfl, .inl ⟨by omega, by omega⟩, _, rfl, _, _, rfl, rfl, .inl ⟨by decide, by decide⟩, _, rfl, _, _, rfl, rfl, .inr ⟨by omega, by omega⟩, _, _, rfl, rfl, _, _, rfl, rfl, _, _, rfl, rfl, ⟨by decide, by decide, by omega⟩, .inl ⟨_, rfl, _, _, rfl, rfl, by show (0 : Int) < _; decide, ?_⟩⟩
          refine ⟨_, rfl, _, _, rfl, rfl, ⟨by decide, by decide⟩, .inl ⟨_, rfl, _, rfl, _, _, rfl, rfl, hm0, ?_⟩⟩
          exact q _ _ (nmod _) (lmod _) fm2 ⟨c, cs, b + 1, r, hg2, hc2, ncg, by omega, hr0⟩
      · refine ⟨_, rfl, .inl ⟨_, rfl, _, _, rfl, rfl, by show (0 : Int) < _; decide, _, rfl, _, _, rfl, rfl, .inl ⟨by decide, by decide⟩, _, _, rfl, rfl, _, _, rfl, rfl, _, _, rfl, rfl, ⟨by decide, by decide, by omega⟩, .inl ⟨_, rfl, _, _, rfl, rfl, by show (0 : Int) < _; decide, ?_⟩⟩⟩
        dsimp only
        have mx0 : 0 ≤ (cell % 2147483549 + 61079 * (b : Int) + 4043) ^ (5 : Int).toNat % 2147483563 := Int.emod_nonneg _ (by decide)
        have mx1 : (cell % 2147483549 + 61079 * (b : Int) + 4043) ^ (5 : Int).toNat % 2147483563 < 2147483563 := Int.emod_lt_of_pos _ (by decide)
        generalize (cell % 2147483549 + 61079 * (b : Int) + 4043) ^ (5 : Int).toNat % 2147483563 = mx at mx0 mx1 ⊢
        have t1 := tick_b1 (x := mx) (b := b) (C := 5155) mx0 (by omega) (by omega) (by omega) (by omega) (by omega)
        have t2 := tick_b2 (D := 90067) (b := b) (by omega) (by omega) (by omega) (by omega)
        refine ⟨_, rfl, _, rfl, _, _, rfl, rfl, .inl ⟨by decide, by decide⟩, _, _, rfl, rfl, _, _, rfl, rfl, .inl ⟨by omega, by omega⟩, _, rfl, _, _, rfl, rfl, .inl ⟨by decide, by decide⟩, _, rfl, _, _, rfl, rfl, .inr ⟨by omega, by omega⟩, _, _, rfl, rfl, _, _, rfl, rfl, _, _, rfl, rfl, ⟨by decide, by decide, by omega⟩, .inl ⟨_, rfl, _, _, rfl, rfl, by show (0 : Int) < _; decide, ?_⟩⟩
        refine ⟨_, rfl, _, _, rfl, rfl, ⟨by decide, by decide⟩, .inl ⟨_, rfl, _, rfl, _, _, rfl, rfl, hm0, ?_⟩⟩
        exact q _ _ (nmod _) (lmod _) fm2 ⟨c, cs, b + 1, r, hg2, hc2, ncg, by omega, hr0⟩

theorem ok__law_one_of {f : Addr} {fd : FuncData} (F : Fun K "_law_one_of" "_law_one_of" s__law_one_of f fd) (T : Txt K mg) (c__law_latch : Cl P w K mg base 1 "_law_latch" spTick) : FnOk P w K mg base CX0 2 f fd ["gate", "some"] (spDial K) := by
  have nd := sc__law_one_of.nd
  refine F.ok sc__law_one_of (fun vs H Q E h => ?_) (fun cdv A outer s H vs Q E hr h => ?_)
  · obtain ⟨g, a, n, xs, rfl, _⟩ := h
    rfl
  · obtain ⟨g, a, n, xs, rfl, hG, hn, hS, nag, hl0, hl1, q⟩ := h
    refine ⟨_, (pss_one (ps_ret (pe_ix (show IxR _ (rIxL K) from ix_list) (pv 1) (pe_f c__law_latch hr (by decide) (by rfl) (pa_cons (pv 0) (pa_cons (pe_callB (show CallR _ (.builtin "len") (rLenSq K) from call_len_seq) (by rfl) T.n_len (by decide +kernel) (pa_cons (pv 1) pa_nil)) pa_nil))) (fun _ _ => rfl)))), ?_⟩
    have p2 : 1000 < 2 ^ 2000 := Nat.lt_of_lt_of_le (by decide : 1000 < 2 ^ 10) (Nat.pow_le_pow_right (by decide) (by decide))
    refine ⟨_, rfl, _, rfl, _, rfl, a, xs, rfl, .inl hS, g, n, xs.length, rfl, hG, hn, by omega, ?_, fun H' v hv0 hv1 fm ga => ?_⟩
    · rw [Int.natAbs_natCast]
      exact Nat.lt_trans hl1 p2
    · obtain ⟨j, rfl⟩ : ∃ j : Nat, v = (j : Int) := ⟨v.toNat, by omega⟩
      have hj : j < xs.length := by omega
      exact ⟨a, xs, _, xs[j], rfl, rfl, fm.sq nag hS, atI_nat (List.getElem?_eq_getElem hj), q H' _ (List.getElem_mem hj) fm ga⟩
end

open SX (S S_len S_cat S_inj join_S S_tl)
open LamX (CodeO TabS Tabs ExtN TabB)
/-! ### checks of numbers -/
/-- a bound: none, or an integer -/
def Bd (x : V) : Prop := x = .non ∨ ∃ a, x = .int a
def isW (v lo hi : V) : Bool :=
  match v with
  | .int i => (match lo with | .int a => decide (a ≤ i) | _ => true) && (match hi with | .int b => decide (i ≤ b) | _ => true)
  | _ => false
def spIsInt (K : PySem.W.Frag) : Sp := fun vs H Q _ => ∃ (v : V) (t : String), vs = [v] ∧ TyB K H v t ∧ Q (.bl (t == "int")) H
def spWithin (K : PySem.W.Frag) : Sp := fun vs H Q _ => ∃ (v lo hi : V) (t : String), vs = [v, lo, hi] ∧ TyB K H v t ∧ Bd lo ∧ Bd hi ∧ Q (.bl (isW v lo hi)) H
def spCheck (K : PySem.W.Frag) : Sp := fun vs H Q _ => ∃ (v lo hi p : V) (t : String), vs = [v, lo, hi, p] ∧ TyB K H v t ∧ Bd lo ∧ Bd hi ∧ isW v lo hi = true ∧ Q .non H
theorem ty_only : ∀ t ∈ kinds, (if isSub t "int" = true then !isSub t "bool" else false) = (t == "int") := by decide
theorem tyb_int {K : PySem.W.Frag} {H : Hp} {v : V} {t : String} (h : TyB K H v t) (e : (t == "int") = true) : ∃ i, v = .int i := by
  cases h with
  | int i => exact ⟨i, rfl⟩
  | _ => exact absurd e (by decide)
theorem tyb_noint {K : PySem.W.Frag} {H : Hp} {v : V} {t : String} (h : TyB K H v t) (e : ¬ (t == "int") = true) (lo hi : V) : isW v lo hi = false := by
  cases h with
  | int i => exact absurd (by decide) e
  | _ => rfl
section
variable {P : Program} {w : World} {K : PySem.W.Frag} {mg : Str → Option Value} {base : Heap}
theorem ok_is_integer {f : Addr} {fd : FuncData} (F : Fun K "is_integer" "is_integer" s_is_integer f fd) (T : Txt K mg) : FnOk P w K mg base CX0 1 f fd ["value"] (spIsInt K) := by
  have nd := sc_is_integer.nd
  refine F.ok sc_is_integer (fun vs H Q E h => ?_) (fun cdv A outer s H vs Q E hr h => ?_)
  · obtain ⟨v, t, rfl, _⟩ := h
    rfl
  · obtain ⟨v, t, rfl, ht, q⟩ := h
    refine ⟨_, (pss_one (ps_ret (pe_and (pe_callB call_is (by rfl) T.n_isinstance (by decide +kernel) (pa_cons (pv 0) (pa_cons (pe_bltn (v := .ty "int") (by rfl) T.n_int (by decide +kernel) rfl) pa_nil))) (pe_one (pe_not (pe_callB call_is (by rfl) T.n_isinstance (by decide +kernel) (pa_cons (pv 0) (pa_cons (pe_bltn (v := .ty "bool") (by rfl) T.n_bool (by decide +kernel) rfl) pa_nil)))))))), ?_⟩
    rw [← ty_only t (tyb_kind ht)] at q
    refine ⟨_, rfl, v, t, "int", rfl, ht, by decide, _, rfl, ?_⟩
    refine ite2 (fun e => ?_) (fun e => ?_)
    · rw [if_pos e] at q
      exact ⟨_, rfl, v, t, "bool", rfl, ht, by decide, _, rfl, q⟩
    · rw [if_neg e] at q
      exact q
theorem ok_is_within {f : Addr} {fd : FuncData} (F : Fun K "is_within" "is_within" s_is_within f fd) (T : Txt K mg) (c_is_integer : Cl P w K mg base 1 "is_integer" (spIsInt K)) :
    FnOk P w K mg base CX0 2 f fd ["value", "least", "most"] (spWithin K) := by
  have nd := sc_is_within.nd
  refine F.ok sc_is_within (fun vs H Q E h => ?_) (fun cdv A outer s H vs Q E hr h => ?_)
  · obtain ⟨v, lo, hi, t, rfl, _⟩ := h
    rfl
  · obtain ⟨v, lo, hi, t, rfl, ht, hlo, hhi, q⟩ := h
    refine ⟨_, (pss_cons (ps_if (pt_not (pt_val (pe_f c_is_integer hr (by decide) (by rfl) (pa_cons (pv 0) pa_nil))))
 (pss_one (ps_ret pe_bl))
 pss_nil)
 (pss_cons (ps_if (PW.pt (pw_and (pt_cmpR op_notN (pv 1) pe_non (nomark _)) (pw_and1 (pt_cmpR op_lt (pv 0) (pv 1) (nomark _)))))
 (pss_one (ps_ret pe_bl))
 pss_nil)
 (pss_one (ps_ret (pe_or (pe_cmpR op_isN (pv 2) pe_non (nomark _)) (pe_one (pe_cmpR op_le (pv 0) (pv 2) (nomark _)))))))), ?_⟩
    refine ⟨_, rfl, v, t, rfl, ht, _, rfl, ?_⟩
    by_cases ei : (t == "int") = true
    · obtain ⟨i, rfl⟩ := tyb_int ht ei
      rw [ei]
      refine iteF ?_
      have up : ∀ lo', isW (.int i) lo' hi = isW (.int i) .non hi → Q (.bl (isW (.int i) lo' hi)) H → (tOrV (tOp (fun x y H Q => y = V.non ∧ Q (.bl (decide (x = .non))) H) (tVar 2) (tC .non)) (tOp (rI0 fun i j => .bl (decide (i ≤ j))) (tVar 0) (tVar 2))) [some (.int i), some lo', some hi] H Q := by
        intro lo' e1 q
        rw [e1] at q
        refine ⟨hi, rfl, rfl, _, rfl, ?_⟩
        rcases hhi with rfl | ⟨b, rfl⟩
        · exact q
        · refine (if_neg (by simp)).mpr ?_
          exact ⟨_, rfl, _, rfl, _, _, rfl, rfl, by simpa [isW] using q⟩
      refine ⟨lo, rfl, rfl, _, rfl, ?_⟩
      rcases hlo with rfl | ⟨a, rfl⟩
      · refine (if_neg (by decide)).mpr ?_
        refine iteF ?_
        exact up _ rfl q
      · refine (if_pos (by simp)).mpr ?_
        refine ⟨_, rfl, _, rfl, _, _, rfl, rfl, _, rfl, ?_⟩
        refine ite2 (fun e => ?_) (fun e => ?_)
        · have e2 : i < a := of_decide_eq_true e
          have e3 : isW (.int i) (.int a) hi = false := by
            show (decide (a ≤ i) && _) = false
            rw [decide_eq_false (by omega), Bool.false_and]
          rw [e3] at q
          exact q
        · have e2 : ¬ i < a := fun z => e (decide_eq_true z)
          refine up _ ?_ q
          show (decide (a ≤ i) && _) = (true && _)
          rw [decide_eq_true (by omega)]
          rfl
    · rw [Bool.eq_false_iff.mpr ei]
      refine iteT ?_
      rw [tyb_noint ht ei] at q
      exact q
end
/-- nothing, or an error of the class at C, its part p -/
def Rz (E : XK) (H : Hp) (C : Addr) (p : V) : Prop := ∀ H' d, Same H H' → H' d = none → E (.ref C) (some d) (upd H' d (.xd [("part", p)]))
def spCheckX (K : PySem.W.Frag) (C : Addr) : Sp := fun vs H Q E => ∃ (v lo hi p : V) (t : String), vs = [v, lo, hi, p] ∧ TyB K H v t ∧ Bd lo ∧ Bd hi ∧ (isW v lo hi = true → Q .non H) ∧ (isW v lo hi = false → Rz E H C p)
section
variable {P : Program} {w : World} {K : PySem.W.Frag} {mg : Str → Option Value} {base : Heap}
theorem ok_check_number {f C : Addr} {fd : FuncData} (F : Fun K "check_number" "check_number" s_check_number f fd) (T : Txt K mg) (e_BadNumber : ErrC P w K mg base "BadNumber" C ["self", "part"] (spInit1 C "part")) (c_is_within : Cl P w K mg base 2 "is_within" (spWithin K)) :
    FnOk P w K mg base (L2.CX P w) 3 f fd ["value", "least", "most", "part"] (spCheckX K C) := by
  have nd := sc_check_number.nd
  refine F.okX sc_check_number (fun vs H Q E h => ?_) (fun cdv A outer s H vs Q E hr h => ?_)
  · obtain ⟨v, lo, hi, p, t, rfl, _⟩ := h
    rfl
  · obtain ⟨v, lo, hi, p, t, rfl, ht, hlo, hhi, qT, qF⟩ := h
    refine ⟨_, (pss_one (ps_if (pt_not (pt_val (pe_f c_is_within hr (by decide) (by rfl) (pa_cons (pv 0) (pa_cons (pv 1) (pa_cons (pv 2) pa_nil))))))
 (pss_one (ps_raise (W := wDef E) rfl (takes_of rfl rfl rfl rfl) (pmk_err1 e_BadNumber hr (by decide) (pa_cons (pv 3) pa_nil) (by rfl))))
 pss_nil)), ?_⟩
    refine ⟨_, rfl, _, rfl, _, rfl, v, lo, hi, t, rfl, ht, hlo, hhi, _, rfl, ?_⟩
    cases e : isW v lo hi with
    | true => exact iteF (qT e)
    | false => exact iteT ⟨_, rfl, p, rfl, fun d hd => qF e _ d (fun _ _ e => e) hd⟩
end

/-! ### rows of signs, words -/
/-- all signs are 0 or 1 -/
def sg (a : List Nat) : Bool := a.all fun c => c == 48 || c == 49
/-- how high it stands behind these signs; none, where it went below -/
def hgt : Nat → List Nat → Option Nat
  | h, [] => some h
  | h, c :: r => if c = 49 then hgt (h + 1) r else match h with
    | 0 => none
    | k + 1 => hgt k r
theorem hgt_up (h : Nat) (r : List Nat) : hgt h (49 :: r) = hgt (h + 1) r := rfl
theorem hgt_zero {c : Nat} (e : c ≠ 49) (r : List Nat) : hgt 0 (c :: r) = none := by
  show (if c = 49 then _ else _) = _
  rw [if_neg e]
theorem hgt_down {c : Nat} (e : c ≠ 49) (k : Nat) (r : List Nat) : hgt (k + 1) (c :: r) = hgt k r := by
  show (if c = 49 then _ else _) = _
  rw [if_neg e]
theorem hgt_app : ∀ (a b : List Nat) (h : Nat), hgt h (a ++ b) = (hgt h a).bind fun k => hgt k b
  | [], b, h => rfl
  | c :: a, b, h => by
    rw [List.cons_append]
    by_cases e : c = 49
    · subst e
      rw [hgt_up, hgt_up]
      exact hgt_app a b _
    · cases h with
      | zero => rw [hgt_zero e, hgt_zero e]; rfl
      | succ k => rw [hgt_down e, hgt_down e]; exact hgt_app a b k
theorem hgt_len : ∀ (a : List Nat) (h : Nat), hgt h a = some 0 → h ≤ a.length ∧ (h + a.length) % 2 = 0
  | [], h, e => by
    have : h = 0 := Option.some.inj e
    subst this
    exact ⟨Nat.le_refl _, rfl⟩
  | c :: r, h, e => by
    rw [List.length_cons]
    by_cases ec : c = 49
    · subst ec
      rw [hgt_up] at e
      have := hgt_len r _ e
      omega
    · cases h with
      | zero => rw [hgt_zero ec] at e; cases e
      | succ k =>
        rw [hgt_down ec] at e
        have := hgt_len r _ e
        omega
theorem sg_app (a b : List Nat) : sg (a ++ b) = (sg a && sg b) := List.all_append
def isWd (a : List Nat) : Bool := (sg a && (decide (2 ≤ a.length) && decide (a.length ≤ 400))) && (hgt 0 a == some 0)
theorem isWd_mk {a : List Nat} (h1 : sg a = true) (h2 : 2 ≤ a.length) (h3 : a.length ≤ 400) (h4 : hgt 0 a = some 0) : isWd a = true := by
  unfold isWd
  rw [h1, h4, decide_eq_true h2, decide_eq_true h3]
  rfl
theorem isWd_of {a : List Nat} (h : isWd a = true) : sg a = true ∧ 2 ≤ a.length ∧ a.length ≤ 400 ∧ hgt 0 a = some 0 := by
  unfold isWd at h
  simp only [Bool.and_eq_true, decide_eq_true_eq, beq_iff_eq] at h
  exact ⟨h.1.1, h.1.2.1, h.1.2.2, h.2⟩
def sgV : V → Bool
  | .str z => sg z.cps.toList
  | _ => false
def wdV : V → Bool
  | .str z => isWd z.cps.toList
  | _ => false
/-- a text, if it is one, is no longer than a line -/
def Sht (v : V) : Prop := ∀ z, v = .str z → z.length ≤ sizeLine
theorem sht_S {a : List Nat} (h : a.length ≤ sizeLine) : Sht (.str (S a)) := fun z e => by
  cases e
  rw [S_len]
  exact h
theorem count_two : ∀ a : List Nat, a.count 48 + a.count 49 ≤ a.length ∧ (sg a = decide (a.count 48 + a.count 49 = a.length))
  | [] => ⟨Nat.le_refl _, rfl⟩
  | c :: a => by
    obtain ⟨h1, h2⟩ := count_two a
    have e : sg (c :: a) = ((c == 48 || c == 49) && sg a) := rfl
    rw [e, h2, List.count_cons, List.count_cons, List.length_cons]
    by_cases e0 : c = 48
    · subst e0
      refine ⟨by simp; omega, ?_⟩
      simp
      omega
    · by_cases e1 : c = 49
      · subst e1
        refine ⟨by simp; omega, ?_⟩
        simp
        omega
      · have f0 : (c == 48) = false := beq_false_of_ne e0
        have f1 : (c == 49) = false := beq_false_of_ne e1
        rw [f0, f1]
        refine ⟨by simp; omega, ?_⟩
        simp
        omega
theorem drop_at {α : Type} {a : List α} {i : Nat} {c : α} (h : a[i]? = some c) : a.drop i = c :: a.drop (i + 1) := by
  obtain ⟨hi, e⟩ := List.getElem?_eq_some_iff.mp h
  rw [List.drop_eq_getElem_cons hi, e]
theorem tyb_str {K : PySem.W.Frag} {H : Hp} {v : V} {t : String} (h : TyB K H v t) (e : (t == "str") = true) : ∃ a, v = .str (S a) := by
  cases h with
  | str z => exact ⟨z.cps.toList, by rw [S_tl]⟩
  | _ => exact absurd e (by decide)
theorem tyb_nostr {K : PySem.W.Frag} {H : Hp} {v : V} {t : String} (h : TyB K H v t) (e : ¬ (t == "str") = true) : sgV v = false ∧ wdV v = false := by
  cases h with
  | str z => exact absurd (by decide) e
  | _ => exact ⟨rfl, rfl⟩
theorem sub_str : ∀ t ∈ kinds, isSub t "str" = (t == "str") := by decide
def spSigns (K : PySem.W.Frag) : Sp := fun vs H Q _ => ∃ (v : V) (t : String), vs = [v] ∧ TyB K H v t ∧ Sht v ∧ Q (.bl (sgV v)) H
def spWord (K : PySem.W.Frag) : Sp := fun vs H Q _ => ∃ (v : V) (t : String), vs = [v] ∧ TyB K H v t ∧ Sht v ∧ Q (.bl (wdV v)) H
def spCkWord : Sp := fun vs H Q _ => ∃ (a : List Nat) (p : V), vs = [.str (S a), p] ∧ isWd a = true ∧ Q .non H
def spPairsIn : Sp := fun vs H Q _ => ∃ a : List Nat, vs = [.str (S a)] ∧ isWd a = true ∧ Q (.int (a.length / 2 : Nat)) H
section
variable {P : Program} {w : World} {K : PySem.W.Frag} {mg : Str → Option Value} {base : Heap}
theorem ok_is_signs {f : Addr} {fd : FuncData} (F : Fun K "is_signs" "is_signs" s_is_signs f fd) (T : Txt K mg) : FnOk P w K mg base CX0 1 f fd ["value"] (spSigns K) := by
  have nd := sc_is_signs.nd
  refine F.ok sc_is_signs (fun vs H Q E h => ?_) (fun cdv A outer s H vs Q E hr h => ?_)
  · obtain ⟨v, t, rfl, _⟩ := h
    rfl
  · obtain ⟨v, t, rfl, ht, hz, q⟩ := h
    refine ⟨_, (pss_one (ps_ret (pe_and (pe_callB call_is (by rfl) T.n_isinstance (by decide +kernel) (pa_cons (pv 0) (pa_cons (pe_bltn (v := .ty "str") (by rfl) T.n_str (by decide +kernel) rfl) pa_nil))) (pe_one (pe_cmpR op_eq (pe_op op_add (pe_m1 PySem.F.slot_str_count PySem.F.type_str_count mt_countS (pv 0) (pe_lit (l := [48]) (by decide +kernel))) (pe_m1 PySem.F.slot_str_count PySem.F.type_str_count mt_countS (pv 0) (pe_lit (l := [49]) (by decide +kernel)))) (pe_callB call_len_S (by rfl) T.n_len (by decide +kernel) (pa_cons (pv 0) pa_nil)) (nomark _)))))), ?_⟩
    refine ⟨_, rfl, v, t, "str", rfl, ht, by decide, _, rfl, ?_⟩
    rw [sub_str t (tyb_kind ht)]
    refine ite2 (fun e => ?_) (fun e => ?_)
    · obtain ⟨a, rfl⟩ := tyb_str ht e
      have ha : a.length ≤ sizeLine := by
        have := hz _ rfl
        rwa [S_len] at this
      have e2 : decide (V.int (((a.count 48 : Nat) : Int) + ((a.count 49 : Nat) : Int)) = V.int ((a.length : Nat) : Int)) = sg a := by
        rw [(count_two a).2]
        by_cases e3 : a.count 48 + a.count 49 = a.length
        · rw [decide_eq_true e3, decide_eq_true (by rw [← e3]; rfl)]
        · rw [decide_eq_false e3, decide_eq_false]
          intro z
          have := V.int.inj z
          omega
      refine ⟨_, rfl, ⟨_, rfl⟩, a, 48, rfl, rfl, _, rfl, ⟨_, rfl⟩, a, 49, rfl, rfl, _, _, rfl, rfl, _, rfl, a, rfl, ha, rfl, ?_⟩
      rw [e2]
      exact q
    · rw [(tyb_nostr ht e).1] at q
      exact q
theorem ok_is_word {f : Addr} {fd : FuncData} (F : Fun K "is_word" "is_word" s_is_word f fd) (T : Txt K mg) (c_is_signs : Cl P w K mg base 1 "is_signs" (spSigns K)) : FnOk P w K mg base CX0 2 f fd ["value"] (spWord K) := by
  have nd := sc_is_word.nd
  refine F.ok sc_is_word (fun vs H Q E h => ?_) (fun cdv A outer s H vs Q E hr h => ?_)
  · obtain ⟨v, t, rfl, _⟩ := h
    rfl
  · obtain ⟨v, t, rfl, ht, hz, q⟩ := h
    refine ⟨_, (pss_cons (ps_if (PW.pt (pw_or (pt_not (pt_val (pe_f c_is_signs hr (by decide) (by rfl) (pa_cons (pv 0) pa_nil)))) (pw_or1 (pt_not (pt_chain op_le op_le pe_int (pe_callB call_len_S (by rfl) T.n_len (by decide +kernel) (pa_cons (pv 0) pa_nil)) (pe_op op_mul pe_int (pe_cst T.c_MOST_PAIRS (by rfl))))))))
 (pss_one (ps_ret pe_bl))
 pss_nil)
 (pss_cons (ps_set (i := 1) nd rfl (by first | exact Or.inl rfl | exact Or.inr rfl) pe_int)
 (pss_cons (ps_for PassesOwn.never rfl (pi_str (pv 0)) (pg_name (i := 2) nd rfl (by first | exact Or.inl rfl | exact Or.inr rfl))
 (pss_cons (ps_aug (i := 1) nd rfl (by first | exact Or.inl rfl | exact Or.inr rfl) (pe_ifExp (pt_cmpR op_eq_S (pv 2) (pe_lit (l := [49]) (by decide +kernel)) (nomark _)) pe_int (pe_un un_neg pe_int)) ip_add)
 (pss_one (ps_if (pt_cmpR op_lt (pv 1) pe_int (nomark _))
 (pss_one (ps_ret pe_bl))
 pss_nil))))
 (pss_one (ps_ret (pe_cmpR op_eq (pv 1) pe_int (nomark _))))))), ?_⟩
    refine ⟨_, rfl, v, t, rfl, ht, hz, _, rfl, ?_⟩
    by_cases e0 : (t == "str") = true
    · obtain ⟨a, rfl⟩ := tyb_str ht e0
      have ha : a.length ≤ sizeLine := by
        have := hz _ rfl
        rwa [S_len] at this
      have es : sgV (.str (S a)) = sg a := rfl
      have ew : wdV (.str (S a)) = isWd a := rfl
      rw [ew] at q
      rw [es]
      by_cases e1 : sg a = true
      · rw [e1]
        refine iteF ?_
        have out : ∀ (b : Bool), isWd a = b → Q (.bl b) H := fun b e => by rw [← e]; exact q
        refine ⟨_, rfl, a, rfl, ha, _, _, rfl, rfl, _, rfl, ?_⟩
        refine ite2 (fun e2 => ?_) (fun e2 => ?_)
        · have l2 : 2 ≤ a.length := by have := of_decide_eq_true e2; omega
          refine ⟨_, _, rfl, rfl, .inl ⟨by decide, by decide⟩, _, _, rfl, rfl, _, rfl, ?_⟩
          refine ite2 (fun e3 => ?_) (fun e3 => ?_)
          · refine out false ?_
            have hn : ¬ a.length ≤ 400 := fun z => by
              rw [decide_eq_true (show ((a.length : Nat) : Int) ≤ 2 * 200 by omega)] at e3
              exact absurd e3 (by decide)
            unfold isWd
            rw [decide_eq_false hn, Bool.and_false, Bool.and_false, Bool.false_and]
          · have l3 : a.length ≤ 400 := by
              rcases Nat.lt_or_ge 400 a.length with h | h
              · rw [decide_eq_false (show ¬ ((a.length : Nat) : Int) ≤ 2 * 200 by omega)] at e3
                exact absurd rfl e3
              · exact h
            have out2 : ∀ (b : Bool), (hgt 0 a == some 0) = b → Q (.bl b) H := fun b e => out b (by
              unfold isWd
              rw [e1, decide_eq_true l2, decide_eq_true l3, e]
              rfl)
            refine ⟨_, rfl, S a, rfl, for_S (a := a) (fun i σ H' => H' = H ∧ ∃ (k : Nat) (v2 : Option V), σ = [some (.str (S a)), some (.int k), v2] ∧ hgt 0 a = hgt k (a.drop i)) ⟨rfl, 0, none, rfl, rfl⟩ ?_ ?_⟩
            · rintro i c σ H' hc ⟨rfl, k, v2, rfl, hk⟩
              rw [drop_at hc] at hk
              refine ⟨_, rfl, _, rfl, [c], [49], rfl, rfl, _, rfl, ?_⟩
              by_cases ec : c = 49
              · subst ec
                rw [decide_eq_true rfl]
                refine iteT ?_
                refine ⟨_, _, rfl, rfl, _, rfl, _, _, rfl, rfl, _, rfl, ?_⟩
                rw [decide_eq_false (show ¬ (k : Int) + 1 < 0 by omega)]
                refine iteF ?_
                exact ⟨rfl, k + 1, _, rfl, hk⟩
              · rw [decide_eq_false (show ¬ [c] = [49] from fun z => ec (List.cons.inj z).1)]
                refine iteF ?_
                refine ⟨_, rfl, _, _, rfl, rfl, _, rfl, _, _, rfl, rfl, _, rfl, ?_⟩
                cases k with
                | zero =>
                  refine iteT ?_
                  rw [hgt_zero ec] at hk
                  refine out2 false ?_
                  rw [hk]
                  rfl
                | succ k =>
                  rw [hgt_down ec] at hk
                  rw [decide_eq_false (show ¬ ((k + 1 : Nat) : Int) + -1 < 0 by omega)]
                  refine iteF ?_
                  refine ⟨rfl, k, some (.str (S [c])), ?_, hk⟩
                  have e5 : ((k + 1 : Nat) : Int) + -1 = (k : Int) := by omega
                  show [some (V.str (S a)), some (V.int (((k + 1 : Nat) : Int) + -1)), some (V.str (S [c]))] = _
                  rw [e5]
            · rintro σ H' ⟨rfl, k, v2, rfl, hk⟩
              rw [List.drop_length] at hk
              refine ⟨_, rfl, rfl, ?_⟩
              refine out2 _ ?_
              rw [hk]
              show (some k == some 0) = _
              cases k with
              | zero => rfl
              | succ k =>
                rw [decide_eq_false (show ¬ V.int ((k + 1 : Nat) : Int) = V.int 0 from fun z => by have := V.int.inj z; omega)]
                rfl
        · refine ⟨_, rfl, iteT ?_⟩
          refine out false ?_
          have hn : ¬ 2 ≤ a.length := fun z => e2 (decide_eq_true (by omega))
          unfold isWd
          rw [decide_eq_false hn, Bool.false_and, Bool.and_false, Bool.false_and]
      · rw [Bool.eq_false_iff.mpr e1]
        refine iteT ?_
        have : isWd a = false := by
          unfold isWd
          rw [Bool.eq_false_iff.mpr e1]
          rfl
        rw [this] at q
        exact q
    · rw [(tyb_nostr ht e0).1]
      rw [(tyb_nostr ht e0).2] at q
      refine iteT ?_
      exact q
end
def spCkWordX (K : PySem.W.Frag) (C : Addr) : Sp := fun vs H Q E => ∃ (v p : V) (t : String), vs = [v, p] ∧ TyB K H v t ∧ Sht v ∧ (wdV v = true → Q .non H) ∧ (wdV v = false → Rz E H C p)
section
variable {P : Program} {w : World} {K : PySem.W.Frag} {mg : Str → Option Value} {base : Heap}
theorem ok_check_word {f C : Addr} {fd : FuncData} (F : Fun K "check_word" "check_word" s_check_word f fd) (T : Txt K mg) (e_BadWord : ErrC P w K mg base "BadWord" C ["self", "part"] (spInit1 C "part")) (c_is_word : Cl P w K mg base 2 "is_word" (spWord K)) : FnOk P w K mg base (L2.CX P w) 3 f fd ["value", "part"] (spCkWordX K C) := by
  have nd := sc_check_word.nd
  refine F.okX sc_check_word (fun vs H Q E h => ?_) (fun cdv A outer s H vs Q E hr h => ?_)
  · obtain ⟨v, p, t, rfl, _⟩ := h
    rfl
  · obtain ⟨v, p, t, rfl, ht, hz, qT, qF⟩ := h
    refine ⟨_, (pss_one (ps_if (pt_not (pt_val (pe_f c_is_word hr (by decide) (by rfl) (pa_cons (pv 0) pa_nil))))
 (pss_one (ps_raise (W := wDef E) rfl (takes_of rfl rfl rfl rfl) (pmk_err1 e_BadWord hr (by decide) (pa_cons (pv 1) pa_nil) (by rfl))))
 pss_nil)), ?_⟩
    refine ⟨_, rfl, v, t, rfl, ht, hz, _, rfl, ?_⟩
    cases e : wdV v with
    | true => exact iteF (qT e)
    | false => exact iteT ⟨_, rfl, p, rfl, fun d hd => qF e _ d (fun _ _ e => e) hd⟩
end
theorem ckw_imp {K : PySem.W.Frag} {C : Addr} : ∀ vs H Q E, spCkWord vs H Q E → sp0 (spCkWordX K C) vs H Q E := by
  rintro vs H Q E ⟨a, p, rfl, ha, q⟩
  refine ⟨_, p, "str", rfl, .str _, sht_S (Nat.le_trans (isWd_of ha).2.2.1 (by decide)), fun _ => q, fun z => ?_⟩
  rw [show wdV (.str (S a)) = isWd a from rfl, ha] at z
  cases z
theorem ckn_imp {K : PySem.W.Frag} {C : Addr} : ∀ vs H Q E, spCheck K vs H Q E → sp0 (spCheckX K C) vs H Q E := by
  rintro vs H Q E ⟨v, lo, hi, p, t, rfl, ht, h1, h2, e, q⟩
  refine ⟨v, lo, hi, p, t, rfl, ht, h1, h2, fun _ => q, fun z => ?_⟩
  rw [e] at z
  cases z

def spPairs : Sp := fun vs H Q _ => ∃ n : Nat, vs = [.int n] ∧ 1 ≤ n ∧ n ≤ 200 ∧ Q .non H
/-- in how many ways a word goes on -/
def wayI (o : Nat) (z : Int) : Int := if o = 0 then 1 else (chs (o + z.toNat) o : Int) - (chs (o + z.toNat) (o - 1) : Int)
def catI (n : Nat) : Int := (chs (n + n) n : Int) - (chs (n + n) (n - 1) : Int)
def spWays : Sp := fun vs H Q _ => ∃ (o : Nat) (z : Int), vs = [.int o, .int z] ∧ (o = 0 ∨ (0 ≤ z ∧ z ≤ 1000 ∧ o ≤ 1000)) ∧ Q (.int (wayI o z)) H
def spWords : Sp := fun vs H Q _ => ∃ n : Nat, vs = [.int n] ∧ 1 ≤ n ∧ n ≤ 200 ∧ Q (.int (catI n)) H
section
variable {P : Program} {w : World} {K : PySem.W.Frag} {mg : Str → Option Value} {base : Heap}
theorem ok_check_pairs {f : Addr} {fd : FuncData} (F : Fun K "check_pairs" "check_pairs" s_check_pairs f fd) (T : Txt K mg) (c_check_number : Cl P w K mg base 3 "check_number" (spCheck K)) :
    FnOk P w K mg base CX0 4 f fd ["pairs"] spPairs := by
  have nd := sc_check_pairs.nd
  refine F.ok sc_check_pairs (fun vs H Q E h => ?_) (fun cdv A outer s H vs Q E hr h => ?_)
  · obtain ⟨n, rfl, _⟩ := h
    rfl
  · obtain ⟨n, rfl, h1, h2, q⟩ := h
    refine ⟨_, (pss_one (ps_expr (pe_f c_check_number hr (by decide) (by rfl) (pa_cons (pv 0) (pa_cons pe_int (pa_cons (pe_cst T.c_MOST_PAIRS (by rfl)) (pa_cons (pe_lit (l := [112, 97, 105, 114, 115]) (by decide +kernel)) pa_nil))))))), ?_⟩
    refine ⟨_, rfl, _, _, _, _, "int", rfl, .int _, .inr ⟨_, rfl⟩, .inr ⟨_, rfl⟩, ?_, q⟩
    show (decide ((1 : Int) ≤ n) && decide ((n : Int) ≤ 200)) = true
    rw [decide_eq_true (by omega), decide_eq_true (by omega)]
    rfl
theorem ok__ways_on {f : Addr} {fd : FuncData} (F : Fun K "_ways_on" "_ways_on" s__ways_on f fd) (T : Txt K mg) : FnOk P w K mg base CX0 1 f fd ["ones", "zeros"] spWays := by
  have nd := sc__ways_on.nd
  refine F.ok sc__ways_on (fun vs H Q E h => ?_) (fun cdv A outer s H vs Q E hr h => ?_)
  · obtain ⟨o, z, rfl, _⟩ := h
    rfl
  · obtain ⟨o, z, rfl, hb, q⟩ := h
    refine ⟨_, (pss_cons (ps_if (pt_cmpR op_eq (pv 0) pe_int (nomark _))
 (pss_one (ps_ret pe_int))
 pss_nil)
 (pss_one (ps_ret (pe_op op_sub (pe_callBfun cr_comb (by rfl) T.m_comb (pa_cons (pe_op op_add (pv 0) (pv 1)) (pa_cons (pv 0) pa_nil))) (pe_callBfun cr_comb (by rfl) T.m_comb (pa_cons (pe_op op_add (pv 0) (pv 1)) (pa_cons (pe_op op_sub (pv 0) pe_int) pa_nil))))))), ?_⟩
    refine ⟨_, rfl, rfl, _, rfl, ?_⟩
    by_cases e : o = 0
    · subst e
      refine (if_pos (by rfl)).mpr ?_
      exact q
    · refine (if_neg (by simpa using e)).mpr ?_
      obtain ⟨h0, h1, h2⟩ := hb.resolve_left e
      obtain ⟨zn, rfl⟩ : ∃ zn : Nat, z = (zn : Int) := ⟨z.toNat, by omega⟩
      refine ⟨_, rfl, _, rfl, _, _, rfl, rfl, _, rfl, o + zn, o, ?_, by omega, ?_⟩
      · show [V.int ((o : Int) + (zn : Int)), V.int o] = _
        rw [Int.natCast_add]
      · refine ⟨_, rfl, _, rfl, _, _, rfl, rfl, _, rfl, _, _, rfl, rfl, o + zn, o - 1, ?_, by omega, _, _, rfl, rfl, ?_⟩
        · show [V.int ((o : Int) + (zn : Int)), V.int ((o : Int) - 1)] = _
          rw [Int.natCast_add, Int.natCast_sub (by omega)]
          rfl
        · unfold wayI at q
          rw [if_neg e, Int.toNat_natCast] at q
          exact q
theorem ok_how_many_words {f : Addr} {fd : FuncData} (F : Fun K "how_many_words" "how_many_words" s_how_many_words f fd) (T : Txt K mg) (c_check_pairs : Cl P w K mg base 4 "check_pairs" spPairs)
    (c__ways_on : Cl P w K mg base 1 "_ways_on" spWays) : FnOk P w K mg base CX0 5 f fd ["pairs"] spWords := by
  have nd := sc_how_many_words.nd
  refine F.ok sc_how_many_words (fun vs H Q E h => ?_) (fun cdv A outer s H vs Q E hr h => ?_)
  · obtain ⟨n, rfl, _⟩ := h
    rfl
  · obtain ⟨n, rfl, h1, h2, q⟩ := h
    refine ⟨_, (pss_cons (ps_expr (pe_f c_check_pairs hr (by decide) (by rfl) (pa_cons (pv 0) pa_nil)))
 (pss_one (ps_ret (pe_f c__ways_on hr (by decide) (by rfl) (pa_cons (pv 0) (pa_cons (pv 0) pa_nil)))))), ?_⟩
    refine ⟨_, rfl, n, rfl, h1, h2, ?_⟩
    refine ⟨_, rfl, _, rfl, n, n, rfl, .inr ⟨by omega, by omega, by omega⟩, ?_⟩
    have e : wayI n n = catI n := by
      unfold wayI catI
      rw [if_neg (by omega), Int.toNat_natCast]
    rw [e]
    exact q
end

/-! ### small data -/
theorem gd2b {K : PySem.W.Frag} {H : Hp} {p : Addr} {a b : Bool} (h : SqL K H p [.bl a, .bl b]) : GD K H (.ref p) (.list [.bool a, .bool b]) :=
  GD.of h (.cons (.bl _) (.cons (.bl _) .nil)) (by simp only [okDs, okD, Bool.and_self]) (by simp only [PyData.bulkAll, PyData.bulk]; decide) (by simp only [PyData.depthAll, PyData.depth]; decide)
theorem gd2i {K : PySem.W.Frag} {H : Hp} {p : Addr} {a b : Int} (h : SqL K H p [.int a, .int b]) (ha : a.natAbs.log2 < 900) (hb : b.natAbs.log2 < 900) : GD K H (.ref p) (.list [.int a, .int b]) :=
  GD.of h (.cons (.int _) (.cons (.int _) .nil)) (by simp only [okDs, okD, decide_eq_true ha, decide_eq_true hb, Bool.and_self]) (by simp only [PyData.bulkAll, PyData.bulk]; decide) (by simp only [PyData.depthAll, PyData.depth]; decide)
theorem dp_sgs {K : PySem.W.Frag} {H : Hp} : ∀ a : List Nat, DpAll K H (sgs a) (a.map fun c => PyData.str (S [c]))
  | [] => .nil
  | c :: cs => .cons (.str _) (dp_sgs cs)
theorem sh_sgs (a : List Nat) (ha : a.all (fun c => decide (c < 1114112)) = true) : SeqAt.shaped (.list (a.map fun c => PyData.str (S [c]))) = true := by
  have h : ∀ a : List Nat, a.all (fun c => decide (c < 1114112)) = true → PyData.canLayAll0 (a.map fun c => PyData.str (S [c])) = true ∧ PyData.depthAll (a.map fun c => PyData.str (S [c])) = 0 := by
    intro a
    induction a with
    | nil => exact fun _ => ⟨rfl, rfl⟩
    | cons c cs ih =>
      intro h
      rw [List.all_cons, Bool.and_eq_true] at h
      have e1 : PyData.canLay0 (PyData.str (S [c])) = true := by
        simp only [PyData.canLay0, PyData.strOk]
        rw [← Array.all_toList, List.all_eq_true]
        intro x hx
        have : x = c := by simpa using hx
        subst this
        exact h.1
      simp only [List.map_cons, PyData.canLayAll0, PyData.depthAll, PyData.depth, e1, (ih h.2).1, (ih h.2).2, Bool.and_self, Nat.max_self, and_self]
  unfold SeqAt.shaped
  simp only [PyData.canLay0, PyData.depth, (h a ha).1, (h a ha).2]
  rfl
theorem gdb {K : PySem.W.Frag} {H : Hp} {b : Bool} : GD K H (.bl b) (.bool b) := ⟨.bl _, by simp only [okD], by simp only [PyData.bulk]; decide, by simp only [PyData.depth]; decide⟩
theorem eqv_nil : ∀ ys : List Nat, PyData.eqv (.list (ys.map fun c => PyData.str (S [c]))) (.list []) = decide (ys = [])
  | [] => by rw [List.map_nil, decide_eq_true rfl]; exact SeqAt.eqv_refl _ (by decide)
  | c :: cs => by
    rw [decide_eq_false (List.cons_ne_nil _ _), List.map_cons]
    simp only [PyData.eqv, PyData.eqvAll]
def offs (r : List Nat) : List Nat := r.filter fun c => !decide (c ∈ [48, 49])
theorem offs_sg : ∀ r : List Nat, decide (offs r = []) = sg r
  | [] => rfl
  | c :: r => by
    have ih := offs_sg r
    unfold offs at ih ⊢
    have e : sg (c :: r) = ((c == 48 || c == 49) && sg r) := rfl
    rw [e, List.filter_cons]
    by_cases h : c ∈ [48, 49]
    · rw [decide_eq_true h]
      have h2 : (c == 48 || c == 49) = true := by simpa using h
      rw [h2, Bool.true_and, ← ih]
      rfl
    · rw [decide_eq_false h]
      have h2 : (c == 48 || c == 49) = false := by simpa using h
      rw [h2]
      simp
theorem flat_ones : ∀ ys : List Nat, (ys.map fun c => [c]).flatten = ys
  | [] => rfl
  | c :: r => by rw [List.map_cons, List.flatten_cons, flat_ones r]; rfl
theorem sgs_map (ys : List Nat) : sgs ys = (ys.map fun c => [c]).map fun y => V.str (S y) := by
  unfold sgs
  rw [List.map_map]
  rfl

/-! ### signs said again and again -/
theorem rep_len (a : List Nat) : ∀ n : Nat, (List.replicate n a).flatten.length = a.length * n
  | 0 => rfl
  | n + 1 => by rw [List.replicate_succ, List.flatten_cons, List.length_append, rep_len a n, Nat.mul_succ, Nat.add_comm]
theorem sg_rep (a : List Nat) (h : sg a = true) : ∀ n : Nat, sg (List.replicate n a).flatten = true
  | 0 => rfl
  | n + 1 => by rw [List.replicate_succ, List.flatten_cons, sg_app, h, sg_rep a h n]; rfl
theorem hgt_ones : ∀ (n h : Nat), hgt h (List.replicate n [49]).flatten = some (h + n)
  | 0, h => rfl
  | n + 1, h => by
    rw [List.replicate_succ, List.flatten_cons]
    show hgt h (49 :: (List.replicate n [49]).flatten) = _
    rw [hgt_up, hgt_ones n (h + 1)]
    congr 1
    omega
theorem hgt_zeros : ∀ (n h : Nat), hgt (h + n) (List.replicate n [48]).flatten = some h
  | 0, h => rfl
  | n + 1, h => by
    rw [List.replicate_succ, List.flatten_cons]
    show hgt (h + n + 1) (48 :: (List.replicate n [48]).flatten) = _
    rw [hgt_down (by decide), hgt_zeros n h]
theorem star_w : ∀ n : Nat, sg (List.replicate n [49, 48]).flatten = true ∧ hgt 0 (List.replicate n [49, 48]).flatten = some 0
  | 0 => ⟨rfl, rfl⟩
  | n + 1 => by
    refine ⟨sg_rep _ rfl _, ?_⟩
    rw [List.replicate_succ, List.flatten_cons, hgt_app]
    exact (star_w n).2
theorem line_w (n : Nat) : sg ((List.replicate n [49]).flatten ++ (List.replicate n [48]).flatten) = true ∧ hgt 0 ((List.replicate n [49]).flatten ++ (List.replicate n [48]).flatten) = some 0 := by
  refine ⟨by rw [sg_app, sg_rep _ rfl, sg_rep _ rfl]; rfl, ?_⟩
  rw [hgt_app, hgt_ones]
  exact hgt_zeros n 0

/-! ### a word drawn sign by sign, by how deep it stands -/
def spLword : Sp := fun vs H Q _ => ∃ (g : Addr) (m n : Nat), vs = [.ref g, .int n] ∧ GA H g m ∧ 1 ≤ n ∧ n ≤ 200 ∧ m + 500 < 1000000 ∧
  ∀ (H' : Hp) (a : List Nat), sg a = true → hgt 0 a = some 0 → a.length = 2 * n → Fm g H H' → GA H' g (m + 401) → Q (.str (S a)) H'
section
variable {P : Program} {w : World} {K : PySem.W.Frag} {mg : Str → Option Value} {base : Heap}
theorem ok__law_word {f : Addr} {fd : FuncData} (F : Fun K "_law_word" "_law_word" s__law_word f fd) (T : Txt K mg) (c__law_latch : Cl P w K mg base 1 "_law_latch" spTick) (c__law_one_of : Cl P w K mg base 2 "_law_one_of" (spDial K)) : FnOk P w K mg base CX0 3 f fd ["gate", "pairs"] spLword := by
  have nd := sc__law_word.nd
  refine F.ok sc__law_word (fun vs H Q E h => ?_) (fun cdv A outer s H vs Q E hr h => ?_)
  · obtain ⟨g, m, n, rfl, _⟩ := h
    rfl
  · obtain ⟨g, m, n, rfl, hG, n1, n2, hm, q⟩ := h
    refine ⟨_, (pss_cons (ps_asg (pe_tup (pa_cons (pe_f c__law_one_of hr (by decide) (by rfl) (pa_cons (pv 0) (pa_cons (pe_lst (pa_cons pe_int (pa_cons pe_int (pa_cons pe_int (pa_cons pe_int (pa_cons pe_int (pa_cons pe_int pa_nil))))))) pa_nil))) (pa_cons (pe_lst pa_nil) (pa_cons pe_int (pa_cons pe_int pa_nil))))) (pg_tup rfl (pgs_cons (pg_name (i := 2) nd rfl (by first | exact Or.inl rfl | exact Or.inr rfl)) (pgs_cons (pg_name (i := 3) nd rfl (by first | exact Or.inl rfl | exact Or.inr rfl)) (pgs_cons (pg_name (i := 4) nd rfl (by first | exact Or.inl rfl | exact Or.inr rfl)) (pgs_cons (pg_name (i := 5) nd rfl (by first | exact Or.inl rfl | exact Or.inr rfl)) pgs_nil))))))
 (pss_cons (ps_for PassesOwn.never rfl (pi_range1 (by rfl) T.n_range (pa_cons (pe_op op_mul pe_int (pv 1)) pa_nil)) (pg_name (i := 6) nd rfl (by first | exact Or.inl rfl | exact Or.inr rfl))
 (pss_cons (ps_set (i := 7) nd rfl (by first | exact Or.inl rfl | exact Or.inr rfl) (pe_or (pe_cmpR op_eq (pv 5) pe_int (nomark _)) (pe_one (pe_and (pe_cmpR op_lt (pv 4) (pv 1) (nomark _)) (pe_one (pe_cmpR op_lt (pe_f c__law_latch hr (by decide) (by rfl) (pa_cons (pv 0) (pa_cons pe_int pa_nil))) (pv 2) (nomark _)))))))
 (pss_cons (ps_expr (pe_bm PySem.F.plainAttrs_list PySem.F.slot_list_append PySem.F.type_list_append mt_append (pv 3) (pa_cons (pe_ifExp (pt_val (pv 7)) (pe_lit (l := [49]) (by decide +kernel)) (pe_lit (l := [48]) (by decide +kernel))) pa_nil)))
 (pss_one (ps_par (i := 4) (j := 5) rfl nd rfl rfl (by decide) rfl rfl (pa_cons (pe_op op_add (pv 4) (pe_callTy call_int1 (by rfl) T.n_int (by decide +kernel) (pa_cons (pv 7) pa_nil))) (pa_cons (pe_op op_add (pv 5) (pe_ifExp (pt_val (pv 7)) pe_int (pe_un un_neg pe_int))) pa_nil)) (by rfl))))))
 (pss_one (ps_ret (pe_m1 PySem.F.slot_str_join PySem.F.type_str_join mt_joinS (pe_lit (l := []) (by decide +kernel)) (pv 3)))))), ?_⟩
    refine ⟨_, rfl, by show 6 ≤ sizeLine; decide, fun L nL => ?_⟩
    have nLg : L ≠ g := fun e => by
      subst e
      exact hG.some nL
    refine ⟨g, L, _, _, rfl, hG.new nL, by omega, SqL.of upd_same, nLg, by show 0 < 6; decide, by show 6 < 1000; decide, fun H1 u hu f1 G1 => ?_⟩
    obtain ⟨lean, rfl⟩ : ∃ k : Int, u = .int k := by
      simp only [List.mem_cons, List.not_mem_nil, or_false] at hu
      rcases hu with h | h | h | h | h | h <;> exact ⟨_, h⟩
    refine ⟨by show 0 ≤ sizeLine; decide, fun D nD => ⟨by show 4 ≤ sizeLine; decide, fun p np => ⟨p, _, rfl, SqT.of upd_same, rfl, _, _, rfl, _, _, rfl, _, _, rfl, _, _, rfl, rfl, ?_⟩⟩⟩
    have nDg : D ≠ g := fun e => by
      subst e
      exact G1.some nD
    obtain ⟨ce, ce1, ce2⟩ := G1.off nD
    have f0 : Fm g H H1 := (Fm.new nL).trans f1
    have HD : H D = none := by
      cases e : H D with
      | none => rfl
      | some o =>
        rw [f0.k _ _ nDg e] at nD
        cases nD
    refine ⟨_, rfl, _, _, rfl, rfl, .inl ⟨by decide, by decide⟩, 2 * (n : Int), rfl, by omega, by omega, ?_⟩
    have e2n : (2 * (n : Int)).toNat = 2 * n := by omega
    rw [e2n]
    refine for_range (lo := 0) (n := 2 * n) (fun i σ H' => Ce H' g ce ∧ ∃ (ys : List Nat) (o d : Nat) (v6 v7 : Option V), σ = [some (.ref g), some (.int n), some (.int lean), some (.ref D), some (.int o), some (.int d), v6, v7] ∧
      o ≤ n ∧ ys.length = i ∧ 2 * o = i + d ∧ sg ys = true ∧ hgt 0 ys = some d ∧ H' D = some (.lst (sgs ys)) ∧ Fm g H H' ∧ GA H' g (m + 1 + i)) ?_ ?_ ?_
    · exact ⟨(Fm.new np).c _ (ce1.put nDg), [], 0, 0, none, none, rfl, Nat.zero_le _, rfl, rfl, rfl, rfl, same_new np _ _ upd_same, (f0.trans (Fm.new nD)).trans (Fm.new np), (G1.new nD).new np⟩
    · rintro i σ H' hi ⟨cj, ys, o, d, v6, v7, rfl, on, yl, yd, ysg, yh, hD, fj, GJ⟩
      have yz : (sgs ys).length < sizeLine := by
        unfold sgs
        rw [List.length_map]
        exact small1000 (by omega)
      have fin : ∀ (b : Bool) (v6 v7 : Option V) (H2 : Hp), Ce H2 g ce → H2 D = some (.lst (sgs ys)) → Fm g H H2 → GA H2 g (m + 1 + (i + 1)) → (b = true → o < n) → (b = false → 0 < d) →
          Ce (upd H2 D (.lst (sgs ys ++ [.str (S (if b = true then [49] else [48]))]))) g ce ∧ ∃ (ys' : List Nat) (o' d' : Nat) (u6 u7 : Option V),
            [some (V.ref g), some (V.int n), some (V.int lean), some (V.ref D), some (V.int ((o : Int) + (if b = true then 1 else 0))), some (V.int ((d : Int) + (if b = true then 1 else -1))), v6, v7] =
            [some (.ref g), some (.int n), some (.int lean), some (.ref D), some (.int o'), some (.int d'), u6, u7] ∧ o' ≤ n ∧ ys'.length = i + 1 ∧ 2 * o' = (i + 1) + d' ∧ sg ys' = true ∧ hgt 0 ys' = some d' ∧
            (upd H2 D (.lst (sgs ys ++ [.str (S (if b = true then [49] else [48]))]))) D = some (.lst (sgs ys')) ∧ Fm g H (upd H2 D (.lst (sgs ys ++ [.str (S (if b = true then [49] else [48]))]))) ∧ GA (upd H2 D (.lst (sgs ys ++ [.str (S (if b = true then [49] else [48]))]))) g (m + 1 + (i + 1)) := by
        intro b v6 v7 H2 c2 h2 f2 G2 b1 b0
        have put : ∀ o : HO, Fm g H (upd H2 D o) := fun o => ⟨fun x y nx e => by
          have : x ≠ D := fun z => by
            subst z
            rw [HD] at e
            cases e
          rw [upd_ne this]
          exact f2.k _ _ nx e, fun x hx => (f2.c x hx).put nDg⟩
        have ap : ∀ c : Nat, sgs ys ++ [V.str (S [c])] = sgs (ys ++ [c]) := fun c => by
          unfold sgs
          rw [List.map_append]
          rfl
        cases b with
        | true =>
          have := b1 rfl
          refine ⟨c2.put nDg, ys ++ [49], o + 1, d + 1, v6, v7, rfl, by omega, by rw [List.length_append, yl]; rfl, by omega, by rw [sg_app, ysg]; rfl, ?_, by rw [upd_same]; exact congrArg (fun l => some (HO.lst l)) (ap 49), put _, G2.put c2 ce2 nDg⟩
          rw [hgt_app, yh]
          rfl
        | false =>
          have := b0 rfl
          obtain ⟨j, rfl⟩ : ∃ j, d = j + 1 := ⟨d - 1, by omega⟩
          refine ⟨c2.put nDg, ys ++ [48], o, j, v6, v7, ?_, on, by rw [List.length_append, yl]; rfl, by omega, by rw [sg_app, ysg]; rfl, ?_, by rw [upd_same]; exact congrArg (fun l => some (HO.lst l)) (ap 48), put _, G2.put c2 ce2 nDg⟩
          · have e1 : ((j + 1 : Nat) : Int) + -1 = (j : Int) := by omega
            show [_, _, _, _, some (V.int ((o : Int) + 0)), some (V.int (((j + 1 : Nat) : Int) + -1)), _, _] = _
            rw [e1, Int.add_zero]
          · rw [hgt_app, yh]
            show hgt (j + 1) [48] = _
            rw [hgt_down (by decide)]
            rfl
      refine ⟨_, rfl, rfl, _, rfl, ?_⟩
      refine ite2 (fun e => ?_) (fun e => ?_)
      · have d0 : d = 0 := by
          have := V.int.inj (of_decide_eq_true e)
          omega
        refine ⟨_, rfl, .inl ⟨rfl, _, SqL.of hD⟩, _, rfl, _, rfl, iteT ?_⟩
        refine ⟨D, _, _, rfl, rfl, hD, yz, _, rfl, _, rfl, .inr ⟨_, rfl, _, _, rfl, rfl, _, rfl, _, rfl, _, rfl, iteT ⟨_, _, rfl, rfl, _, _, rfl, ?_⟩⟩⟩
        exact fin true _ _ _ cj hD fj (GJ.mono (by omega)) (fun _ => by omega) (fun z => nomatch z)
      · have dp : 0 < d := by
          rcases Nat.eq_zero_or_pos d with h | h
          · exact absurd (decide_eq_true (by rw [h]; rfl)) e
          · exact h
        refine ⟨_, rfl, _, rfl, _, _, rfl, rfl, _, rfl, ?_⟩
        refine ite2 (fun e2 => ?_) (fun e2 => ?_)
        · have ol : o < n := by have := of_decide_eq_true e2; omega
          refine ⟨_, rfl, g, m + 1 + i, 6, rfl, GJ, by omega, by decide, pow_ok (by decide) (by decide), fun H2 t a0 b0 f2 G2 => ?_⟩
          have hD2 := f2.k _ _ nDg hD
          refine ⟨_, rfl, _, _, rfl, rfl, ?_⟩
          dsimp only
          cases decide (t < lean) with
          | true =>
            refine ⟨_, rfl, .inl ⟨rfl, _, SqL.of hD2⟩, _, rfl, _, rfl, iteT ?_⟩
            refine ⟨D, _, _, rfl, rfl, hD2, yz, _, rfl, _, rfl, .inr ⟨_, rfl, _, _, rfl, rfl, _, rfl, _, rfl, _, rfl, iteT ⟨_, _, rfl, rfl, _, _, rfl, ?_⟩⟩⟩
            exact fin true _ _ _ (f2.c _ cj) hD2 (fj.trans f2) G2 (fun _ => ol) (fun z => nomatch z)
          | false =>
            refine ⟨_, rfl, .inl ⟨rfl, _, SqL.of hD2⟩, _, rfl, _, rfl, iteF ?_⟩
            refine ⟨D, _, _, rfl, rfl, hD2, yz, _, rfl, _, rfl, .inr ⟨_, rfl, _, _, rfl, rfl, _, rfl, _, rfl, _, rfl, iteF ⟨_, rfl, _, _, rfl, rfl, _, _, rfl, ?_⟩⟩⟩
            exact fin false _ _ _ (f2.c _ cj) hD2 (fj.trans f2) G2 (fun z => nomatch z) (fun _ => dp)
        · refine ⟨_, rfl, .inl ⟨rfl, _, SqL.of hD⟩, _, rfl, _, rfl, iteF ?_⟩
          refine ⟨D, _, _, rfl, rfl, hD, yz, _, rfl, _, rfl, .inr ⟨_, rfl, _, _, rfl, rfl, _, rfl, _, rfl, _, rfl, iteF ⟨_, rfl, _, _, rfl, rfl, _, _, rfl, ?_⟩⟩⟩
          exact fin false _ _ _ cj hD fj (GJ.mono (by omega)) (fun z => nomatch z) (fun _ => dp)
    · rintro σ H' ⟨cj, ys, o, d, v6, v7, rfl, on, yl, yd, ysg, yh, hD, fj, GJ⟩
      have d0 : d = 0 := by omega
      subst d0
      rw [sgs_map] at hD
      refine ⟨⟨_, rfl⟩, _, rfl, D, _, rfl, rfl, .inl (SqL.of hD), by rw [flat_ones]; omega, ?_⟩
      rw [flat_ones]
      exact q H' ys ysg yh yl fj (GJ.mono (by omega))
end

/-! ### how many trees -/
def copN (n : Nat) : Nat := ((List.range n).filter fun i => Nat.gcd (i + 1) n == 1).length
def divN (n : Nat) : List Nat := ((List.range n).map (· + 1)).filter fun m => n % m == 0
def placeN (n : Nat) : Nat := ((divN n).map fun m => copN (n / m) * chs (2 * m) m).sum / (2 * n)
def tieI (n : Nat) : Int := (catI n + (if n = 1 then 1 else if n % 2 = 1 then catI (n / 2) else 0)) / 2
def treesI (n : Nat) : Int := (placeN n : Int) + tieI n - catI n
def spCop : Sp := fun vs H Q _ => ∃ n : Nat, vs = [.int n] ∧ n ≤ 1000 ∧ ∀ H', Same H H' → Q (.int (copN n : Nat)) H'
def spPlace : Sp := fun vs H Q _ => ∃ n : Nat, vs = [.int n] ∧ 1 ≤ n ∧ n ≤ 200 ∧ ∀ H', Same H H' → Q (.int (placeN n : Nat)) H'
def spTie : Sp := fun vs H Q _ => ∃ n : Nat, vs = [.int n] ∧ 1 ≤ n ∧ n ≤ 200 ∧ Q (.int (tieI n)) H
def spTrees : Sp := fun vs H Q _ => ∃ n : Nat, vs = [.int n] ∧ 1 ≤ n ∧ n ≤ 200 ∧ ∀ H', Same H H' → Q (.int (treesI n)) H'
theorem filter_take_succ {α : Type} (p : α → Bool) (xs : List α) (i : Nat) (h : i < xs.length) : (xs.take (i + 1)).filter p = (xs.take i).filter p ++ (if p xs[i] = true then [xs[i]] else []) := by
  rw [List.take_add_one, List.getElem?_eq_getElem h, List.filter_append]
  congr 1
  by_cases e : p xs[i] = true
  · rw [if_pos e]
    exact List.filter_cons_of_pos e
  · rw [if_neg e]
    exact List.filter_cons_of_neg e
theorem copN_le (n : Nat) : copN n ≤ n := by
  unfold copN
  exact Nat.le_trans (List.length_filter_le ..) (by rw [List.length_range]; exact Nat.le_refl _)
theorem mem_divN {n m : Nat} (h : m ∈ divN n) : 1 ≤ m ∧ m ≤ n := by
  unfold divN at h
  obtain ⟨h1, _⟩ := List.mem_filter.mp h
  obtain ⟨i, hi, rfl⟩ := List.mem_map.mp h1
  have := List.mem_range.mp hi
  omega
theorem divN_len (n : Nat) : (divN n).length ≤ n := by
  unfold divN
  exact Nat.le_trans (List.length_filter_le ..) (by rw [List.length_map, List.length_range]; exact Nat.le_refl _)
section
variable {P : Program} {w : World} {K : PySem.W.Frag} {mg : Str → Option Value} {base : Heap}
theorem ok__coprime {f : Addr} {fd : FuncData} (F : Fun K "_coprime" "_coprime" s__coprime f fd) (T : Txt K mg) : FnOk P w K mg base CX0 1 f fd ["number"] spCop := by
  have nd := sc__coprime.nd
  refine F.ok sc__coprime (fun vs H Q E h => ?_) (fun cdv A outer s H vs Q E hr h => ?_)
  · obtain ⟨n, rfl, _⟩ := h
    rfl
  · obtain ⟨n, rfl, hn, q⟩ := h
    refine ⟨_, (pss_one (ps_ret (pe_callB (show CallR _ (.builtin "len") (rLenSq K) from call_len_seq) (by rfl) T.n_len (by decide +kernel) (pa_cons (pe_lc (own := [("each", 1)]) rfl nd (pi_range2 (by rfl) T.n_range (pa_cons pe_int (pa_cons (pe_op op_add (pv 0) pe_int) pa_nil))) (blkOk_by (N := N__coprime) (sc := defScope s__coprime) (by decide +kernel)) (fun _ _ _ _ _ => (pg_name (i := 1) nd rfl (by first | exact Or.inl rfl | exact Or.inr rfl))) (fun _ _ _ _ _ => (pts_one (pt_cmpR op_eq (pe_callBfun cr_gcd (by rfl) T.m_gcd (pa_cons (pv 1) (pa_cons (pv 0) pa_nil))) pe_int (nomark _)))) (fun _ _ _ _ _ => (pv 1))) pa_nil)))), ?_⟩
    refine ⟨_, rfl, _, _, rfl, rfl, 1, (n : Int) + 1, rfl, ⟨by omega, by omega, by omega, by omega⟩, fun D nD => ?_⟩
    have en : ((n : Int) + 1 - 1).toNat = n := by omega
    rw [en]
    refine lc_range (lo := 1) (n := n) (fun i H' => Same H H' ∧ H' D = some (.lst ((((List.range n).take i).filter fun i => Nat.gcd (i + 1) n == 1).map fun i : Nat => V.int (1 + (i : Int))))) ⟨same_new nD, upd_same⟩ ?_ ?_
    · rintro i H' hi ⟨sm, hD⟩
      have hl : i < (List.range n).length := by
        rw [List.length_range]
        exact hi
      have fs := filter_take_succ (fun i => Nat.gcd (i + 1) n == 1) (List.range n) i hl
      rw [List.getElem_range] at fs
      refine ⟨rfl, ?_⟩
      refine ⟨_, rfl, _, rfl, _, _, rfl, rfl, _, rfl, ?_⟩
      have eg : Nat.gcd ((1 : Int) + (i : Int)).natAbs ((n : Nat) : Int).natAbs = Nat.gcd (i + 1) n := by
        rw [Int.natAbs_natCast]
        congr 1
        omega
      by_cases e : Nat.gcd (i + 1) n = 1
      · refine (if_pos (decide_eq_true (by rw [eg, e]; rfl))).mpr ?_
        rw [if_pos (by simpa using e)] at fs
        refine ⟨_, rfl, _, hD, ?_, same_put sm nD, ?_⟩
        · rw [List.length_map]
          refine Nat.lt_of_le_of_lt (Nat.le_trans (List.length_filter_le ..) (List.length_take_le ..)) (small1000 (by omega))
        · rw [upd_same, fs, List.map_append]
          rfl
      · refine (if_neg (fun z => e (by have z2 := V.int.inj (of_decide_eq_true z); rw [eg] at z2; omega))).mpr ?_
        rw [if_neg (by simpa using e), List.append_nil] at fs
        exact ⟨sm, by rw [fs]; exact hD⟩
    · rintro H' ⟨sm, hD⟩
      refine ⟨D, _, rfl, .inl (SqL.of hD), ?_⟩
      have el : (((((List.range n).take n).filter fun i => Nat.gcd (i + 1) n == 1).map fun i : Nat => V.int (1 + (i : Int))).length : Nat) = copN n := by
        rw [List.length_map, List.take_of_length_le (by rw [List.length_range]; exact Nat.le_refl _)]
        rfl
      rw [el]
      exact q _ sm
theorem ok__with_place {f : Addr} {fd : FuncData} (F : Fun K "_with_place" "_with_place" s__with_place f fd) (T : Txt K mg) (c__coprime : Cl P w K mg base 1 "_coprime" spCop) : FnOk P w K mg base CX0 2 f fd ["pairs"] spPlace := by
  have nd := sc__with_place.nd
  refine F.ok sc__with_place (fun vs H Q E h => ?_) (fun cdv A outer s H vs Q E hr h => ?_)
  · obtain ⟨n, rfl, _⟩ := h
    rfl
  · obtain ⟨n, rfl, h1, h2, q⟩ := h
    refine ⟨_, (pss_cons (ps_setLc (i := 2) (own := [("many", 1)]) rfl nd rfl rfl (sw_true rfl rfl rfl (by decide +kernel)) (pi_range2 (by rfl) T.n_range (pa_cons pe_int (pa_cons (pe_op op_add (pv 0) pe_int) pa_nil))) (blkOk_by (N := N__with_place) (sc := defScope s__with_place) (by decide +kernel)) (fun _ _ _ _ _ => (pg_name (i := 1) nd rfl (by first | exact Or.inl rfl | exact Or.inr rfl))) (fun _ _ _ _ _ => (pts_one (pt_cmpR op_eq (pe_op op_mod (pv 0) (pv 1)) pe_int (nomark _)))) (fun _ _ _ _ _ => (pv 1)))
 (pss_one (ps_ret (pe_op op_fdiv (pe_callB (cr_sum rfl) (by rfl) T.n_sum (by decide +kernel) (pa_cons (pe_lc (own := [("many", 1)]) rfl nd (pi_list (pv 2)) (blkOk_by (N := N__with_place) (sc := defScope s__with_place) (by decide +kernel)) (fun _ _ _ _ _ => (pg_name (i := 1) nd rfl (by first | exact Or.inl rfl | exact Or.inr rfl))) (fun _ _ _ _ _ => pts_nil) (fun _ _ _ _ _ => (pe_op op_mul (pe_f c__coprime hr (by decide) (by rfl) (pa_cons (pe_op op_fdiv (pv 0) (pv 1)) pa_nil)) (pe_callBfun cr_comb (by rfl) T.m_comb (pa_cons (pe_op op_mul pe_int (pv 1)) (pa_cons (pv 1) pa_nil)))))) pa_nil)) (pe_op op_mul pe_int (pv 0)))))), ?_⟩
    refine ⟨_, rfl, _, _, rfl, rfl, 1, (n : Int) + 1, rfl, ⟨by omega, by omega, by omega, by omega⟩, fun D nD => ?_⟩
    have en : ((n : Int) + 1 - 1).toNat = n := by omega
    rw [en]
    refine lc_range (lo := 1) (n := n) (fun i H' => Same H H' ∧ H' D = some (.lst (((((List.range n).map (· + 1)).take i).filter fun m => n % m == 0).map fun m : Nat => V.int (m : Int)))) ⟨same_new nD, upd_same⟩ ?_ ?_
    · rintro i H' hi ⟨sm, hD⟩
      have hl : i < ((List.range n).map (· + 1)).length := by
        rw [List.length_map, List.length_range]
        exact hi
      have fs := filter_take_succ (fun m => n % m == 0) ((List.range n).map (· + 1)) i hl
      rw [List.getElem_map, List.getElem_range] at fs
      refine ⟨rfl, ?_⟩
      refine ⟨_, rfl, _, rfl, _, _, rfl, rfl, by show (0 : Int) < 1 + (i : Int); omega, rfl, _, rfl, ?_⟩
      have eg : (n : Int) % (1 + (i : Int)) = ((n % (i + 1) : Nat) : Int) := by
        rw [Int.natCast_emod]
        congr 1
        omega
      by_cases e : n % (i + 1) = 0
      · refine (if_pos (decide_eq_true (by dsimp only; rw [eg, e]; rfl))).mpr ?_
        rw [if_pos (by simpa using e)] at fs
        refine ⟨_, rfl, _, hD, ?_, same_put sm nD, ?_⟩
        · rw [List.length_map]
          refine Nat.lt_of_le_of_lt (Nat.le_trans (List.length_filter_le ..) (List.length_take_le ..)) (small1000 (by omega))
        · rw [upd_same, fs, List.map_append]
          have e1 : V.int (1 + (i : Int)) = V.int ((i + 1 : Nat) : Int) := by congr 1; omega
          show some (HO.lst (_ ++ [V.int (1 + (i : Int))])) = _
          rw [e1]
          rfl
      · refine (if_neg (fun z => e (by have z2 := V.int.inj (of_decide_eq_true z); rw [eg] at z2; omega))).mpr ?_
        rw [if_neg (by simpa using e), List.append_nil] at fs
        exact ⟨sm, by rw [fs]; exact hD⟩
    · rintro H1 ⟨sm, hD⟩
      have eD : ((((List.range n).map (· + 1)).take n).filter fun m => n % m == 0) = divN n := by
        rw [List.take_of_length_le (by rw [List.length_map, List.length_range]; exact Nat.le_refl _)]
        rfl
      rw [eD] at hD
      -- the sum
      refine ⟨_, rfl, D, rfl, ⟨_, SqL.of hD⟩, fun L nL => ?_⟩
      have nLD : D ≠ L := ne_of_none hD nL
      refine lc_list (K := K) (a := D) (xs := (divN n).map fun m : Nat => V.int (m : Int)) (fun i H' => Same H1 H' ∧ H' L = some (.lst (((divN n).take i).map fun m => V.int ((copN (n / m) * chs (2 * m) m : Nat) : Int))))
        ⟨same_new nL, upd_same⟩ (fun i H' _ h => SqL.of (h.1 _ _ hD)) ?_ ?_
      · rintro i x H' hx ⟨sm1, hL⟩
        have hi : i < (divN n).length := by
          have := (List.getElem?_eq_some_iff.mp hx).1
          rw [List.length_map] at this
          exact this
        have ex : x = .int ((divN n)[i] : Nat) := by
          rw [List.getElem?_map, List.getElem?_eq_getElem hi] at hx
          exact (Option.some.inj hx).symm
        obtain ⟨m1, m2⟩ := mem_divN (List.getElem_mem hi)
        have eT : (divN n).take (i + 1) = (divN n).take i ++ [(divN n)[i]] := by rw [List.take_add_one, List.getElem?_eq_getElem hi]; rfl
        subst ex
        generalize (divN n)[i] = m at m1 m2 eT
        refine ⟨rfl, ?_⟩
        dsimp only [tYes]
        rw [if_pos rfl]
        refine ⟨_, rfl, _, rfl, _, _, rfl, rfl, ⟨by omega, by omega⟩, n / m, ?_, ?_, fun H2 s2 => ?_⟩
        · show [V.int ((n : Int) / (m : Int))] = _
          rw [Int.natCast_ediv]
        · exact Nat.le_trans (Nat.div_le_self _ _) (by omega)
        · have hc : copN (n / m) ≤ 200 := Nat.le_trans (copN_le _) (Nat.le_trans (Nat.div_le_self _ _) h2)
          refine ⟨_, rfl, _, _, rfl, rfl, .inl ⟨by decide, by decide⟩, _, rfl, 2 * m, m, ?_, by omega, _, _, rfl, rfl, .inl ⟨by omega, by omega⟩, _, s2 _ _ hL, ?_, same_put (sm1.trans s2) nL, ?_⟩
          · show [V.int (2 * (m : Int)), V.int (m : Int)] = _
            rw [Int.natCast_mul]
            rfl
          · rw [List.length_map, List.length_take]
            have := divN_len n
            exact small1000 (by omega)
          · rw [upd_same, eT, List.map_append]
            show some (HO.lst (_ ++ [V.int ((copN (n / m) : Int) * (chs (2 * m) m : Int))])) = _
            rw [← Int.natCast_mul]
            rfl
      · rintro H2 ⟨sm1, hL⟩
        have eL : (((divN n).take ((divN n).map fun m : Nat => V.int (m : Int)).length).map fun m => V.int ((copN (n / m) * chs (2 * m) m : Nat) : Int)) = ((divN n).map fun m => ((copN (n / m) * chs (2 * m) m : Nat) : Int)).map V.int := by
          rw [List.length_map, List.take_length, List.map_map]
          rfl
        rw [eL] at hL
        refine ⟨L, _, rfl, SqL.of hL, _, rfl, _, _, rfl, rfl, .inl ⟨by decide, by decide⟩, _, _, rfl, rfl, ⟨by omega, by omega⟩, ?_⟩
        have es : ∀ l : List Nat, ((l.map fun m => ((copN (n / m) * chs (2 * m) m : Nat) : Int)).sum : Int) = ((l.map fun m => copN (n / m) * chs (2 * m) m).sum : Nat) := by
          intro l
          induction l with
          | nil => rfl
          | cons a l ih => rw [List.map_cons, List.sum_cons, ih, List.map_cons, List.sum_cons, Int.natCast_add]
        have ef : (((divN n).map fun m => ((copN (n / m) * chs (2 * m) m : Nat) : Int)).sum : Int) / (2 * (n : Int)) = ((placeN n : Nat) : Int) := by
          rw [es]
          unfold placeN
          rw [Int.natCast_ediv, Int.natCast_mul]
          rfl
        show Q (.int ((((divN n).map fun m => ((copN (n / m) * chs (2 * m) m : Nat) : Int)).sum : Int) / (2 * (n : Int)))) H2
        rw [ef]
        exact q _ (sm.trans sm1)
theorem ok__with_tie {f : Addr} {fd : FuncData} (F : Fun K "_with_tie" "_with_tie" s__with_tie f fd) (T : Txt K mg) (c_how_many_words : Cl P w K mg base 5 "how_many_words" spWords) : FnOk P w K mg base CX0 6 f fd ["pairs"] spTie := by
  have nd := sc__with_tie.nd
  refine F.ok sc__with_tie (fun vs H Q E h => ?_) (fun cdv A outer s H vs Q E hr h => ?_)
  · obtain ⟨n, rfl, _⟩ := h
    rfl
  · obtain ⟨n, rfl, h1, h2, q⟩ := h
    refine ⟨_, (pss_cons (ps_set (i := 1) nd rfl (by first | exact Or.inl rfl | exact Or.inr rfl) pe_int)
 (pss_cons (ps_if (pt_cmpR op_eq (pv 0) pe_int (nomark _))
 (pss_one (ps_set (i := 1) nd rfl (by first | exact Or.inl rfl | exact Or.inr rfl) pe_int))
 (pss_one (ps_if (pt_cmpR op_eq (pe_op op_mod (pv 0) pe_int) pe_int (nomark _))
 (pss_one (ps_set (i := 1) nd rfl (by first | exact Or.inl rfl | exact Or.inr rfl) (pe_f c_how_many_words hr (by decide) (by rfl) (pa_cons (pe_op op_fdiv (pv 0) pe_int) pa_nil))))
 pss_nil)))
 (pss_one (ps_ret (pe_op op_fdiv (pe_op op_add (pe_f c_how_many_words hr (by decide) (by rfl) (pa_cons (pv 0) pa_nil)) (pv 1)) pe_int))))), ?_⟩
    unfold tieI at q
    refine ⟨_, rfl, rfl, _, rfl, ?_⟩
    by_cases e1 : n = 1
    · subst e1
      refine (if_pos (by decide)).mpr ?_
      exact ⟨_, rfl, 1, rfl, by decide, by decide, _, rfl, _, _, rfl, rfl, _, _, rfl, rfl, ⟨by decide, by decide⟩, q⟩
    · refine (if_neg (by simp; omega)).mpr ?_
      rw [if_neg e1] at q
      have em : (n : Int) % 2 = ((n % 2 : Nat) : Int) := by rw [Int.natCast_emod]; rfl
      refine ⟨_, rfl, _, _, rfl, rfl, by show (0 : Int) < 2; decide, rfl, _, rfl, ?_⟩
      by_cases e2 : n % 2 = 1
      · rw [if_pos e2] at q
        refine (if_pos (decide_eq_true (by show V.int ((n : Int) % 2) = V.int 1; rw [em, e2]; rfl))).mpr ?_
        refine ⟨_, rfl, _, _, rfl, rfl, ⟨by decide, by decide⟩, n / 2, ?_, by omega, by omega, ?_⟩
        · show [V.int ((n : Int) / 2)] = _
          rw [Int.natCast_ediv]
          rfl
        · exact ⟨_, rfl, n, rfl, h1, h2, _, rfl, _, _, rfl, rfl, _, _, rfl, rfl, ⟨by decide, by decide⟩, q⟩
      · rw [if_neg e2] at q
        refine (if_neg (fun z => e2 (by have z2 : (n : Int) % 2 = 1 := V.int.inj (of_decide_eq_true z); rw [em] at z2; omega))).mpr ?_
        exact ⟨_, rfl, n, rfl, h1, h2, _, rfl, _, _, rfl, rfl, _, _, rfl, rfl, ⟨by decide, by decide⟩, q⟩
theorem ok_how_many_trees {f : Addr} {fd : FuncData} (F : Fun K "how_many_trees" "how_many_trees" s_how_many_trees f fd) (T : Txt K mg) (c_check_pairs : Cl P w K mg base 4 "check_pairs" spPairs)
    (c__with_place : Cl P w K mg base 2 "_with_place" spPlace) (c__with_tie : Cl P w K mg base 6 "_with_tie" spTie) (c_how_many_words : Cl P w K mg base 5 "how_many_words" spWords) : FnOk P w K mg base CX0 7 f fd ["pairs"] spTrees := by
  have nd := sc_how_many_trees.nd
  refine F.ok sc_how_many_trees (fun vs H Q E h => ?_) (fun cdv A outer s H vs Q E hr h => ?_)
  · obtain ⟨n, rfl, _⟩ := h
    rfl
  · obtain ⟨n, rfl, h1, h2, q⟩ := h
    refine ⟨_, (pss_cons (ps_expr (pe_f c_check_pairs hr (by decide) (by rfl) (pa_cons (pv 0) pa_nil)))
 (pss_one (ps_ret (pe_op op_sub (pe_op op_add (pe_f c__with_place hr (by decide) (by rfl) (pa_cons (pv 0) pa_nil)) (pe_f c__with_tie hr (by decide) (by rfl) (pa_cons (pv 0) pa_nil))) (pe_f c_how_many_words hr (by decide) (by rfl) (pa_cons (pv 0) pa_nil)))))), ?_⟩
    refine ⟨_, rfl, n, rfl, h1, h2, ?_⟩
    refine ⟨_, rfl, n, rfl, h1, h2, fun H1 s1 => ?_⟩
    refine ⟨_, rfl, n, rfl, h1, h2, _, _, rfl, rfl, _, rfl, n, rfl, h1, h2, _, _, rfl, rfl, ?_⟩
    exact q _ s1
end

theorem at_st {t : L2.TS} {D : Ends} {σ τ : L2.St} {H : Hp} (e : σ = τ) (h : t D τ H) : t D σ H := by
  rw [e]
  exact h
theorem at_hp {t : L2.TS} {D : Ends} {σ : L2.St} {H K : Hp} (e : H = K) (h : t D σ K) : t D σ H := by
  rw [e]
  exact h
theorem nm_st {i : Nat} {v : V} {σ τ : L2.St} {H : Hp} {k : L2.St → Hp → Prop} (e : σ.set i (some v) = τ) (h : k τ H) : gName i v σ H k := by
  unfold gName
  rw [e]
  exact h
theorem ite_app {c : Bool} {A B : Prop} (M : Prop) (h1 : c = true → M → A) (h2 : c = false → M → B) (hm : M) : if c = true then A else B := by
  cases c with
  | true => rw [if_pos rfl]; exact h1 rfl hm
  | false => rw [if_neg Bool.false_ne_true]; exact h2 rfl hm
theorem at_hpE {t : L2.TE} {Q : VK} {σ : L2.St} {H K : Hp} (e : H = K) (h : t σ K Q) : t σ H Q := by
  rw [e]
  exact h
theorem at_hpK {k : V → Hp → Prop} {v : V} {H K : Hp} (e : H = K) (h : k v K) : k v H := by
  rw [e]
  exact h
theorem ite_ne {b : Bool} {A B : Prop} (e : b = true) (h : B) : if (!b) = true then A else B := by
  rw [e]
  exact iteF h

theorem sq_same {K : PySem.W.Frag} {H H' : Hp} {a : Addr} {xs : List V} (h : Same H H') (s : SqL K H a xs) : SqL K H' a xs := by
  rcases s with (s | ⟨o, s⟩) | s
  · exact .inl (.inl (h _ _ s))
  · exact .inl (.inr ⟨o, h _ _ s⟩)
  · exact .inr s

theorem sqT_same {K : PySem.W.Frag} {H H' : Hp} {a : Addr} {xs : List V} (h : Same H H') (s : SqT K H a xs) : SqT K H' a xs := by
  rcases s with (s | ⟨o, s⟩) | s
  · exact .inl (.inl (h _ _ s))
  · exact .inl (.inr ⟨o, h _ _ s⟩)
  · exact .inr s
theorem tyb_same {K : PySem.W.Frag} {H H' : Hp} {v : V} {t : String} (h : TyB K H v t) (s : Same H H') : TyB K H' v t := by
  cases h with
  | non => exact .non
  | bl b => exact .bl b
  | int i => exact .int i
  | str x => exact .str x
  | byt b => exact .byt b
  | lst h => exact .lst (sq_same s h)
  | tup h => exact .tup (sqT_same s h)
  | dK h => exact .dK (s _ _ h)
/-! ### lambdas and what draws -/
theorem ga_extN {H H' : Hp} {g : Addr} {n : Nat} (h : GA H g n) (e : ExtN H H') : GA H' g n := by
  obtain ⟨c, cs, b, r, h1, h2, h3, h4, h5⟩ := h
  exact ⟨c, cs, b, r, e _ _ h1 (fun ps z => nomatch z), e _ _ h2 (fun ps z => nomatch z), h3, h4, h5⟩
theorem tabs_fm {H H' : Hp} {g : Addr} {n : Nat} {T : List (Addr × Str)} (h : Tabs T H) (f : Fm g H H') (G : GA H g n) : Tabs T H' := by
  obtain ⟨c, cs, b, r, h1, _⟩ := G
  intro p hp
  obtain ⟨ps, e1, e2, e3⟩ := h p hp
  refine ⟨ps, f.k _ _ ?_ e1, e2, fun pos cv hc => ?_⟩
  · rintro rfl
    rw [h1] at e1
    cases e1
  · obtain ⟨c', ec, hc'⟩ := e3 pos cv hc
    refine ⟨c', ec, f.k _ _ ?_ hc'⟩
    rintro rfl
    rw [h1] at hc'
    unfold CodeO at hc'
    cases hc'
theorem tyb_fm {K : PySem.W.Frag} {g : Addr} {H H' : Hp} {v : V} {t : String} (h : TyB K H v t) (f : Fm g H H') (nv : v ≠ .ref g) : TyB K H' v t := by
  cases h with
  | non => exact .non
  | bl b => exact .bl b
  | int i => exact .int i
  | str x => exact .str x
  | byt b => exact .byt b
  | lst h => exact .lst (f.sq (fun e => nv (by rw [e])) h)
  | tup h => exact .tup (f.sqT (fun e => nv (by rw [e])) h)
  | dK h => exact .dK (f.k _ _ (fun e => nv (by rw [e])) h)
theorem tyb_ext {K : PySem.W.Frag} {H H' : Hp} {v : V} {t : String} (h : TyB K H v t) (e : ExtN H H') : TyB K H' v t := by
  cases h with
  | non => exact .non
  | bl b => exact .bl b
  | int i => exact .int i
  | str x => exact .str x
  | byt b => exact .byt b
  | lst h => exact .lst (extN_sq e h)
  | tup h => exact .tup (extN_sqT e h)
  | dK h => exact .dK (e _ _ h fun ps z => nomatch z)
theorem tup_ext {H H' : Hp} {p : Addr} {xs : List V} (e : ExtN H H') (h : H p = some (.tup xs)) : H' p = some (.tup xs) := e _ _ h fun ps z => nomatch z
theorem lst_ext {H H' : Hp} {p : Addr} {xs : List V} (e : ExtN H H') (h : H p = some (.lst xs)) : H' p = some (.lst xs) := e _ _ h fun ps z => nomatch z

/-! ### what was heard: pairs of texts, or None -/
def vIt : Option (Addr × List Nat × List Nat) → V
  | none => .non
  | some r => .ref r.1
def dIt : Option (Addr × List Nat × List Nat) → PyData
  | none => .none
  | some r => .tuple [.str (S r.2.1), .str (S r.2.2)]
def okT (a : List Nat) : Prop := (a.all fun c => decide (c < 1114112)) = true ∧ a.length ≤ 20
/-- each pair stands -/
def Prs (H : Hp) (rs : List (Option (Addr × List Nat × List Nat))) : Prop := ∀ r, some r ∈ rs → H r.1 = some (.tup [.str (S r.2.1), .str (S r.2.2)]) ∧ okT r.2.1 ∧ okT r.2.2
theorem prs_nil {H : Hp} : Prs H [] := fun r h => absurd h List.not_mem_nil
theorem prs_ext {H H' : Hp} {rs : List (Option (Addr × List Nat × List Nat))} (h : Prs H rs) (e : ExtN H H') : Prs H' rs := fun r m => ⟨e _ _ (h r m).1 (fun ps z => nomatch z), (h r m).2⟩
theorem prs_same {H H' : Hp} {rs : List (Option (Addr × List Nat × List Nat))} (h : Prs H rs) (s : Same H H') : Prs H' rs := fun r m => ⟨s _ _ (h r m).1, (h r m).2⟩
theorem prs_put {H : Hp} {rs : List (Option (Addr × List Nat × List Nat))} {p : Addr} {u y : List Nat} (h : Prs H rs) (hp : H p = some (.tup [.str (S u), .str (S y)])) (hu : okT u) (hy : okT y) : Prs H (rs ++ [some (p, u, y)]) := fun r m => by
  rcases List.mem_append.mp m with m | m
  · exact h r m
  · cases List.mem_singleton.mp m
    exact ⟨hp, hu, hy⟩
theorem prs_non {H : Hp} {rs : List (Option (Addr × List Nat × List Nat))} (h : Prs H rs) : Prs H (rs ++ [none]) := fun r m => by
  rcases List.mem_append.mp m with m | m
  · exact h r m
  · cases List.mem_singleton.mp m
theorem prs_gds {K : PySem.W.Frag} {H : Hp} : ∀ {rs : List (Option (Addr × List Nat × List Nat))}, Prs H rs → ∃ k, k ≤ 1 ∧ Gds K H (rs.map vIt) (rs.map dIt) (rs.length * 43) k
  | [], _ => ⟨0, by decide, Gds.nil⟩
  | none :: rs, h => by
    obtain ⟨k, hk, g⟩ := prs_gds (rs := rs) fun r m => h r (List.mem_cons_of_mem _ m)
    have z := Gds.cons (Gd.non (K := K) (H := H)) g
    refine ⟨max 0 k, by omega, ?_⟩
    exact ⟨z.at_, z.ok, Nat.le_trans z.bk (by rw [List.length_cons]; omega), z.dp⟩
  | some r :: rs, h => by
    obtain ⟨k, hk, g⟩ := prs_gds (rs := rs) fun r m => h r (List.mem_cons_of_mem _ m)
    obtain ⟨hp, hu, hy⟩ := h r (List.mem_cons_self ..)
    have z := Gds.cons (Gd.tup (SqT.of hp) (Gds.cons (Gd.str hu.1 hu.2) (Gds.cons (Gd.str hy.1 hy.2) Gds.nil)) : Gd K H (.ref r.1) _ _ _) g
    refine ⟨max (max 0 (max 0 0) + 1) k, by omega, ?_⟩
    exact ⟨z.at_, z.ok, Nat.le_trans z.bk (by rw [List.length_cons]; omega), z.dp⟩
theorem prs_gd {K : PySem.W.Frag} {H : Hp} {L : Addr} {rs : List (Option (Addr × List Nat × List Nat))} (h : Prs H rs) (hL : H L = some (.lst (rs.map vIt))) (l : rs.length ≤ 100) : GD K H (.ref L) (.list (rs.map dIt)) := by
  obtain ⟨k, hk, g⟩ := prs_gds (K := K) h
  exact (Gd.lst (SqL.of hL) g).gd (by omega) (by omega)
theorem eqv_gd' {K : PySem.W.Frag} {H : Hp} {x : V} {d : PyData} (g : GD K H x d) : PyData.eqv d d = true := SeqAt.eqv_refl _ (okD_all d g.ok).2.2.2
theorem strS_inj {a b : List Nat} (h : V.str (S a) = V.str (S b)) : a = b := S_inj (V.str.inj h)
theorem isW_out {i lo hi : Int} (h : i < lo ∨ hi < i) : isW (.int i) (.int lo) (.int hi) = false := by
  show (decide (lo ≤ i) && decide (i ≤ hi)) = false
  rcases h with h | h
  · rw [decide_eq_false (by omega), Bool.false_and]
  · rw [decide_eq_false (by omega : ¬ i ≤ hi), Bool.and_false]

/-! ### DEV -/
def wNumber : List Nat := [110, 117, 109, 98, 101, 114]
def wWord : List Nat := [119, 111, 114, 100]
def wMisfit : List Nat := [109, 105, 115, 102, 105, 116]
def pWord : V := .str (S wWord)
def pOne : V := .str (S [111, 110, 101])
def pOther : V := .str (S [111, 116, 104, 101, 114])
/-- the sign pairs -/
def pPairs : V := .str (S [112, 97, 105, 114, 115])
structure RnP (K : PySem.W.Frag) (C : Addr) (lo hi : Int) (vs : List V) (H : Hp) (E : XK) : Prop where
  h : ∃ (v : V) (t : String), vs = [v] ∧ TyB K H v t ∧ isW v (.int lo) (.int hi) = false ∧ Rz E H C pPairs
def spRn (K : PySem.W.Frag) (C : Addr) (lo hi : Int) : Sp := fun vs H _ E => RnP K C lo hi vs H E
structure R1P (K : PySem.W.Frag) (good : V → Bool) (C : Addr) (p : V) (vs : List V) (H : Hp) (E : XK) : Prop where
  h : ∃ (v : V) (t : String), vs = [v] ∧ TyB K H v t ∧ Sht v ∧ good v = false ∧ Rz E H C p
def spR1 (K : PySem.W.Frag) (good : V → Bool) (C : Addr) (p : V) : Sp := fun vs H _ E => R1P K good C p vs H E
def spStar : Sp := fun vs H Q _ => ∃ n : Nat, vs = [.int n] ∧ 1 ≤ n ∧ n ≤ 200 ∧ Q (.str (S (List.replicate n [49, 48]).flatten)) H
def spUps : Sp := fun vs H Q _ => ∃ a : List Nat, vs = [.str (S a)] ∧ isWd a = true ∧ ∀ H' R xs, Same H H' → H' R = some (.tup xs) → xs.length = a.count 49 → Q (.ref R) H'
def spOneT (K : PySem.W.Frag) (CW CM : Addr) : Sp := fun vs H _ E => ∃ (v w : V) (tv tw : String), vs = [v, w] ∧ TyB K H v tv ∧ TyB K H w tw ∧ Sht v ∧ Sht w ∧
  ((wdV v = false ∧ Rz E H CW pOne) ∨ (wdV v = true ∧ wdV w = false ∧ Rz E H CW pOther) ∨ ∃ a b, v = .str (S a) ∧ w = .str (S b) ∧ isWd a = true ∧ isWd b = true ∧ a.length ≠ b.length ∧ Rz E H CM pOther)
section
variable {P : Program} {w : World} {K : PySem.W.Frag} {mg : Str → Option Value} {base : Heap}

theorem okr_check_pairs {f C : Addr} {fd : FuncData} (F : Fun K "check_pairs" "check_pairs" s_check_pairs f fd) (T : Txt K mg) (x_check_number : ClX P w K mg base 3 "check_number" (spCheckX K C)) : FnOk P w K mg base (L2.CX P w) 4 f fd ["pairs"] (spRn K C 1 200) := by
  have nd := sc_check_pairs.nd
  refine F.okX sc_check_pairs (fun vs H Q E h => ?_) (fun cdv A outer s H vs Q E hr h => ?_)
  · obtain ⟨v, t, rfl, _⟩ := h
    rfl
  · obtain ⟨v, t, rfl, ht, bad, r⟩ := h
    refine ⟨_, (pss_cons (ps_expr (pe_fX (W := wDef E) x_check_number hr (by decide) (by rfl) (takes_of rfl rfl rfl rfl) (pa_cons (pv 0) (pa_cons pe_int (pa_cons (pe_cst T.c_MOST_PAIRS (by rfl)) (pa_cons (pe_lit (l := [112, 97, 105, 114, 115]) (by decide +kernel)) pa_nil))))))
 pss_no), ?_⟩
    refine ⟨_, rfl, v, _, _, _, t, rfl, ht, .inr ⟨_, rfl⟩, .inr ⟨_, rfl⟩, fun e => ?_, fun e => r⟩
    rw [bad] at e
    cases e
theorem ok_period {f C : Addr} {fd : FuncData} (F : Fun K "period" "period" s_period f fd) (T : Txt K mg) (x_check_word : ClX P w K mg base 3 "check_word" (spCkWordX K C)) : FnOk P w K mg base (L2.CX P w) 4 f fd ["word"] (spR1 K wdV C pWord) := by
  have nd := sc_period.nd
  refine F.okX sc_period (fun vs H Q E h => ?_) (fun cdv A outer s H vs Q E hr h => ?_)
  · obtain ⟨v, t, rfl, _⟩ := h
    rfl
  · obtain ⟨v, t, rfl, ht, hz, bad, r⟩ := h
    refine ⟨_, (pss_cons (ps_expr (pe_fX (W := wDef E) x_check_word hr (by decide) (by rfl) (takes_of rfl rfl rfl rfl) (pa_cons (pv 0) (pa_cons (pe_lit (l := [119, 111, 114, 100]) (by decide +kernel)) pa_nil))))
 pss_no), ?_⟩
    refine ⟨_, rfl, v, _, t, rfl, ht, hz, fun e => ?_, fun e => r⟩
    rw [bad] at e
    cases e
theorem ok_turns_of {f C : Addr} {fd : FuncData} (F : Fun K "turns_of" "turns_of" s_turns_of f fd) (T : Txt K mg) (x_period : ClX P w K mg base 4 "period" (spR1 K wdV C pWord)) : FnOk P w K mg base (L2.CX P w) 5 f fd ["word"] (spR1 K wdV C pWord) := by
  have nd := sc_turns_of.nd
  refine F.okX sc_turns_of (fun vs H Q E h => ?_) (fun cdv A outer s H vs Q E hr h => ?_)
  · obtain ⟨v, t, rfl, _⟩ := h
    rfl
  · obtain ⟨v, t, rfl, h⟩ := h
    refine ⟨_, (pss_cons (ps_set (i := 1) nd rfl (by first | exact Or.inl rfl | exact Or.inr rfl) (pe_fX (W := wDef E) x_period hr (by decide) (by rfl) (takes_of rfl rfl rfl rfl) (pa_cons (pv 0) pa_nil)))
 pss_no), ?_⟩
    exact ⟨_, rfl, v, t, rfl, h⟩
theorem ok_mirrored_word {f C : Addr} {fd : FuncData} (F : Fun K "mirrored_word" "mirrored_word" s_mirrored_word f fd) (T : Txt K mg) (x_check_word : ClX P w K mg base 3 "check_word" (spCkWordX K C)) : FnOk P w K mg base (L2.CX P w) 4 f fd ["word"] (spR1 K wdV C pWord) := by
  have nd := sc_mirrored_word.nd
  refine F.okX sc_mirrored_word (fun vs H Q E h => ?_) (fun cdv A outer s H vs Q E hr h => ?_)
  · obtain ⟨v, t, rfl, _⟩ := h
    rfl
  · obtain ⟨v, t, rfl, ht, hz, bad, r⟩ := h
    refine ⟨_, (pss_cons (ps_expr (pe_fX (W := wDef E) x_check_word hr (by decide) (by rfl) (takes_of rfl rfl rfl rfl) (pa_cons (pv 0) (pa_cons (pe_lit (l := [119, 111, 114, 100]) (by decide +kernel)) pa_nil))))
 pss_no), ?_⟩
    refine ⟨_, rfl, v, _, t, rfl, ht, hz, fun e => ?_, fun e => r⟩
    rw [bad] at e
    cases e
theorem ok_all_words {f C : Addr} {fd : FuncData} (F : Fun K "all_words" "all_words" s_all_words f fd) (T : Txt K mg) (x_check_number : ClX P w K mg base 3 "check_number" (spCheckX K C)) : FnOk P w K mg base (L2.CX P w) 4 f fd ["pairs"] (spRn K C 1 9) := by
  have nd := sc_all_words.nd
  refine F.okX sc_all_words (fun vs H Q E h => ?_) (fun cdv A outer s H vs Q E hr h => ?_)
  · obtain ⟨v, t, rfl, _⟩ := h
    rfl
  · obtain ⟨v, t, rfl, ht, bad, r⟩ := h
    refine ⟨_, (pss_cons (ps_expr (pe_fX (W := wDef E) x_check_number hr (by decide) (by rfl) (takes_of rfl rfl rfl rfl) (pa_cons (pv 0) (pa_cons pe_int (pa_cons (pe_cst T.c_MOST_PAIRS_OF_WORDS (by rfl)) (pa_cons (pe_lit (l := [112, 97, 105, 114, 115]) (by decide +kernel)) pa_nil))))))
 pss_no), ?_⟩
    refine ⟨_, rfl, v, _, _, _, t, rfl, ht, .inr ⟨_, rfl⟩, .inr ⟨_, rfl⟩, fun e => ?_, fun e => r⟩
    rw [bad] at e
    cases e
theorem ok_name_of {f C : Addr} {fd : FuncData} (F : Fun K "name_of" "name_of" s_name_of f fd) (T : Txt K mg) (x_turns_of : ClX P w K mg base 5 "turns_of" (spR1 K wdV C pWord)) : FnOk P w K mg base (L2.CX P w) 6 f fd ["word"] (spR1 K wdV C pWord) := by
  have nd := sc_name_of.nd
  refine F.okX sc_name_of (fun vs H Q E h => ?_) (fun cdv A outer s H vs Q E hr h => ?_)
  · obtain ⟨v, t, rfl, _⟩ := h
    rfl
  · obtain ⟨v, t, rfl, h⟩ := h
    have hu64 := hr.units
    refine ⟨_, (pss_cons (ps_ret (pe_callB (cr_minS rfl hu64) (by rfl) T.n_min (by decide +kernel) (pa_cons (pe_fX (W := wDef E) x_turns_of hr (by decide) (by rfl) (takes_of rfl rfl rfl rfl) (pa_cons (pv 0) pa_nil)) pa_nil)))
 pss_no), ?_⟩
    exact ⟨_, rfl, v, t, rfl, h⟩
theorem ok_mirrored_tree {f C : Addr} {fd : FuncData} (F : Fun K "mirrored_tree" "mirrored_tree" s_mirrored_tree f fd) (T : Txt K mg) (x_name_of : ClX P w K mg base 6 "name_of" (spR1 K wdV C pWord)) (x_mirrored_word : ClX P w K mg base 4 "mirrored_word" (spR1 K wdV C pWord)) : FnOk P w K mg base (L2.CX P w) 7 f fd ["word"] (spR1 K wdV C pWord) := by
  have nd := sc_mirrored_tree.nd
  refine F.okX sc_mirrored_tree (fun vs H Q E h => ?_) (fun cdv A outer s H vs Q E hr h => ?_)
  · obtain ⟨v, t, rfl, _⟩ := h
    rfl
  · obtain ⟨v, t, rfl, h⟩ := h
    refine ⟨_, (pss_cons (ps_ret (pe_fX (W := wDef E) x_name_of hr (by decide) (by rfl) (takes_of rfl rfl rfl rfl) (pa_cons (pe_fX (W := wDef E) x_mirrored_word hr (by decide) (by rfl) (takes_of rfl rfl rfl rfl) (pa_cons (pv 0) pa_nil)) pa_nil)))
 pss_no), ?_⟩
    exact ⟨_, rfl, v, t, rfl, h⟩
theorem okr_star {f C : Addr} {fd : FuncData} (F : Fun K "star" "star" s_star f fd) (T : Txt K mg) (x_check_pairs : ClX P w K mg base 4 "check_pairs" (spOr spPairs (spRn K C 1 200))) : FnOk P w K mg base (L2.CX P w) 5 f fd ["pairs"] (spRn K C 1 200) := by
  have nd := sc_star.nd
  refine F.okX sc_star (fun vs H Q E h => ?_) (fun cdv A outer s H vs Q E hr h => ?_)
  · obtain ⟨v, t, rfl, _⟩ := h
    rfl
  · obtain ⟨v, t, rfl, h⟩ := h
    refine ⟨_, (pss_cons (ps_expr (pe_fX (W := wDef E) x_check_pairs hr (by decide) (by rfl) (takes_of rfl rfl rfl rfl) (pa_cons (pv 0) pa_nil)))
 pss_no), ?_⟩
    exact ⟨_, rfl, .inr ⟨v, t, rfl, h⟩⟩
theorem ok_line {f C : Addr} {fd : FuncData} (F : Fun K "line" "line" s_line f fd) (T : Txt K mg) (x_check_pairs : ClX P w K mg base 4 "check_pairs" (spOr spPairs (spRn K C 1 200))) : FnOk P w K mg base (L2.CX P w) 5 f fd ["pairs"] (spRn K C 1 200) := by
  have nd := sc_line.nd
  refine F.okX sc_line (fun vs H Q E h => ?_) (fun cdv A outer s H vs Q E hr h => ?_)
  · obtain ⟨v, t, rfl, _⟩ := h
    rfl
  · obtain ⟨v, t, rfl, h⟩ := h
    refine ⟨_, (pss_cons (ps_expr (pe_fX (W := wDef E) x_check_pairs hr (by decide) (by rfl) (takes_of rfl rfl rfl rfl) (pa_cons (pv 0) pa_nil)))
 pss_no), ?_⟩
    exact ⟨_, rfl, .inr ⟨v, t, rfl, h⟩⟩
theorem okr_how_many_trees {f C : Addr} {fd : FuncData} (F : Fun K "how_many_trees" "how_many_trees" s_how_many_trees f fd) (T : Txt K mg) (x_check_pairs : ClX P w K mg base 4 "check_pairs" (spOr spPairs (spRn K C 1 200))) : FnOk P w K mg base (L2.CX P w) 7 f fd ["pairs"] (spRn K C 1 200) := by
  have nd := sc_how_many_trees.nd
  refine F.okX sc_how_many_trees (fun vs H Q E h => ?_) (fun cdv A outer s H vs Q E hr h => ?_)
  · obtain ⟨v, t, rfl, _⟩ := h
    rfl
  · obtain ⟨v, t, rfl, h⟩ := h
    refine ⟨_, (pss_cons (ps_expr (pe_fX (W := wDef E) x_check_pairs hr (by decide) (by rfl) (takes_of rfl rfl rfl rfl) (pa_cons (pv 0) pa_nil)))
 pss_no), ?_⟩
    exact ⟨_, rfl, .inr ⟨v, t, rfl, h⟩⟩
theorem ok_all_trees {f C : Addr} {fd : FuncData} (F : Fun K "all_trees" "all_trees" s_all_trees f fd) (T : Txt K mg) (x_all_words : ClX P w K mg base 4 "all_words" (spRn K C 1 9)) : FnOk P w K mg base (L2.CX P w) 5 f fd ["pairs"] (spRn K C 1 9) := by
  have nd := sc_all_trees.nd
  refine F.okX sc_all_trees (fun vs H Q E h => ?_) (fun cdv A outer s H vs Q E hr h => ?_)
  · obtain ⟨v, t, rfl, _⟩ := h
    rfl
  · obtain ⟨v, t, rfl, ht, bad, r⟩ := h
    refine ⟨_, (pss_cons (ps_set (i := 1) nd rfl (by first | exact Or.inl rfl | exact Or.inr rfl) (pe_lst pa_nil))
 (pss_cons (ps_set (i := 2) nd rfl (by first | exact Or.inl rfl | exact Or.inr rfl) pe_dnewK)
 (pss_cons (ps_for (passes_of rfl) rfl (pi_tup (pe_fX (W := wDef E) x_all_words hr (by decide) (by rfl) (takes_of rfl rfl rfl rfl) (pa_cons (pv 0) pa_nil))) (pg_name (i := 3) nd rfl (by first | exact Or.inl rfl | exact Or.inr rfl))
 pss_no)
 pss_no))), ?_⟩
    refine ⟨by show 0 ≤ sizeLine; decide, fun a na => fun d nd => ⟨_, rfl, v, t, rfl, tyb_same ht ((same_new na).trans (same_new nd)), bad, fun H1 e s1 ne => r H1 e (((same_new na).trans (same_new nd)).trans s1) ne⟩⟩
theorem okr_ups_of {f C : Addr} {fd : FuncData} (F : Fun K "ups_of" "ups_of" s_ups_of f fd) (T : Txt K mg) (x_check_word : ClX P w K mg base 3 "check_word" (spCkWordX K C)) : FnOk P w K mg base (L2.CX P w) 4 f fd ["word"] (spR1 K wdV C pWord) := by
  have nd := sc_ups_of.nd
  refine F.okX sc_ups_of (fun vs H Q E h => ?_) (fun cdv A outer s H vs Q E hr h => ?_)
  · obtain ⟨v, t, rfl, _⟩ := h
    rfl
  · obtain ⟨v, t, rfl, ht, hz, bad, r⟩ := h
    refine ⟨_, (pss_cons (ps_expr (pe_fX (W := wDef E) x_check_word hr (by decide) (by rfl) (takes_of rfl rfl rfl rfl) (pa_cons (pv 0) (pa_cons (pe_lit (l := [119, 111, 114, 100]) (by decide +kernel)) pa_nil))))
 pss_no), ?_⟩
    refine ⟨_, rfl, v, _, t, rfl, ht, hz, fun e => ?_, fun e => r⟩
    rw [bad] at e
    cases e
theorem ok_ways_from {f C : Addr} {fd : FuncData} (F : Fun K "ways_from" "ways_from" s_ways_from f fd) (T : Txt K mg) (x_ups_of : ClX P w K mg base 4 "ups_of" (spOr spUps (spR1 K wdV C pWord))) : FnOk P w K mg base (L2.CX P w) 5 f fd ["word"] (spR1 K wdV C pWord) := by
  have nd := sc_ways_from.nd
  refine F.okX sc_ways_from (fun vs H Q E h => ?_) (fun cdv A outer s H vs Q E hr h => ?_)
  · obtain ⟨v, t, rfl, _⟩ := h
    rfl
  · obtain ⟨v, t, rfl, h⟩ := h
    refine ⟨_, (pss_cons (ps_set (i := 1) nd rfl (by first | exact Or.inl rfl | exact Or.inr rfl) (pe_fX (W := wDef E) x_ups_of hr (by decide) (by rfl) (takes_of rfl rfl rfl rfl) (pa_cons (pv 0) pa_nil)))
 pss_no), ?_⟩
    exact ⟨_, rfl, .inr ⟨v, t, rfl, h⟩⟩
theorem ok_least_sum {f C : Addr} {fd : FuncData} (F : Fun K "least_sum" "least_sum" s_least_sum f fd) (T : Txt K mg) (x_ways_from : ClX P w K mg base 5 "ways_from" (spR1 K wdV C pWord)) : FnOk P w K mg base (L2.CX P w) 6 f fd ["word"] (spR1 K wdV C pWord) := by
  have nd := sc_least_sum.nd
  refine F.okX sc_least_sum (fun vs H Q E h => ?_) (fun cdv A outer s H vs Q E hr h => ?_)
  · obtain ⟨v, t, rfl, _⟩ := h
    rfl
  · obtain ⟨v, t, rfl, h⟩ := h
    refine ⟨_, (pss_cons (ps_ret (pe_callB (cr_min rfl) (by rfl) T.n_min (by decide +kernel) (pa_cons (pe_fX (W := wDef E) x_ways_from hr (by decide) (by rfl) (takes_of rfl rfl rfl rfl) (pa_cons (pv 0) pa_nil)) pa_nil)))
 pss_no), ?_⟩
    exact ⟨_, rfl, v, t, rfl, h⟩
theorem ok_middles {f C : Addr} {fd : FuncData} (F : Fun K "middles" "middles" s_middles f fd) (T : Txt K mg) (x_ways_from : ClX P w K mg base 5 "ways_from" (spR1 K wdV C pWord)) : FnOk P w K mg base (L2.CX P w) 6 f fd ["word"] (spR1 K wdV C pWord) := by
  have nd := sc_middles.nd
  refine F.okX sc_middles (fun vs H Q E h => ?_) (fun cdv A outer s H vs Q E hr h => ?_)
  · obtain ⟨v, t, rfl, _⟩ := h
    rfl
  · obtain ⟨v, t, rfl, h⟩ := h
    refine ⟨_, (pss_cons (ps_set (i := 1) nd rfl (by first | exact Or.inl rfl | exact Or.inr rfl) (pe_fX (W := wDef E) x_ways_from hr (by decide) (by rfl) (takes_of rfl rfl rfl rfl) (pa_cons (pv 0) pa_nil)))
 pss_no), ?_⟩
    exact ⟨_, rfl, v, t, rfl, h⟩
theorem ok_leaves {f C : Addr} {fd : FuncData} (F : Fun K "leaves" "leaves" s_leaves f fd) (T : Txt K mg) (x_ups_of : ClX P w K mg base 4 "ups_of" (spOr spUps (spR1 K wdV C pWord))) : FnOk P w K mg base (L2.CX P w) 5 f fd ["word"] (spR1 K wdV C pWord) := by
  have nd := sc_leaves.nd
  refine F.okX sc_leaves (fun vs H Q E h => ?_) (fun cdv A outer s H vs Q E hr h => ?_)
  · obtain ⟨v, t, rfl, _⟩ := h
    rfl
  · obtain ⟨v, t, rfl, h⟩ := h
    refine ⟨_, (pss_cons (ps_set (i := 1) nd rfl (by first | exact Or.inl rfl | exact Or.inr rfl) (pe_fX (W := wDef E) x_ups_of hr (by decide) (by rfl) (takes_of rfl rfl rfl rfl) (pa_cons (pv 0) pa_nil)))
 pss_no), ?_⟩
    exact ⟨_, rfl, .inr ⟨v, t, rfl, h⟩⟩
end
section
variable {P : Program} {w : World} {K : PySem.W.Frag} {mg : Str → Option Value} {base : Heap}
theorem ok_star {f : Addr} {fd : FuncData} (F : Fun K "star" "star" s_star f fd) (T : Txt K mg) (c_check_pairs : Cl P w K mg base 4 "check_pairs" spPairs) : FnOk P w K mg base CX0 5 f fd ["pairs"] spStar := by
  have nd := sc_star.nd
  refine F.ok sc_star (fun vs H Q E h => ?_) (fun cdv A outer s H vs Q E hr h => ?_)
  · obtain ⟨n, rfl, _⟩ := h
    rfl
  · obtain ⟨n, rfl, n1, n2, q⟩ := h
    refine ⟨_, (pss_cons (ps_expr (pe_f c_check_pairs hr (by decide) (by rfl) (pa_cons (pv 0) pa_nil)))
 (pss_one (ps_ret (pe_op op_rep_S (pe_lit (l := [49, 48]) (by decide +kernel)) (pv 0))))), ?_⟩
    exact ⟨_, rfl, n, rfl, n1, n2, _, rfl, [49, 48], n, rfl, rfl, by omega, by show 2 * n ≤ sizeLine; exact Nat.le_trans (by omega : 2 * n ≤ 400) (by decide), by decide, q⟩
theorem ok_are_one_tree {f CW CM : Addr} {fd : FuncData} (F : Fun K "are_one_tree" "are_one_tree" s_are_one_tree f fd) (T : Txt K mg) (e_Misfit : ErrC P w K mg base "Misfit" CM ["self", "part"] (spInit1 CM "part")) (x_check_word : ClX P w K mg base 3 "check_word" (spCkWordX K CW)) :
    FnOk P w K mg base (L2.CX P w) 4 f fd ["one", "other"] (spOneT K CW CM) := by
  have nd := sc_are_one_tree.nd
  refine F.okX sc_are_one_tree (fun vs H Q E h => ?_) (fun cdv A outer s H vs Q E hr h => ?_)
  · obtain ⟨v, w, tv, tw, rfl, _⟩ := h
    rfl
  · obtain ⟨v, w, tv, tw, rfl, hv, hw, zv, zw, h⟩ := h
    refine ⟨_, (pss_cons (ps_expr (pe_fX (W := wDef E) x_check_word hr (by decide) (by rfl) (takes_of rfl rfl rfl rfl) (pa_cons (pv 0) (pa_cons (pe_lit (l := [111, 110, 101]) (by decide +kernel)) pa_nil))))
 (pss_cons (ps_expr (pe_fX (W := wDef E) x_check_word hr (by decide) (by rfl) (takes_of rfl rfl rfl rfl) (pa_cons (pv 1) (pa_cons (pe_lit (l := [111, 116, 104, 101, 114]) (by decide +kernel)) pa_nil))))
 (pss_cons (ps_if (pt_cmpR op_ne (pe_callB call_len_S (by rfl) T.n_len (by decide +kernel) (pa_cons (pv 0) pa_nil)) (pe_callB call_len_S (by rfl) T.n_len (by decide +kernel) (pa_cons (pv 1) pa_nil)) (nomark _))
 (pss_one (ps_raise (W := wDef E) rfl (takes_of rfl rfl rfl rfl) (pmk_err1 e_Misfit hr (by decide) (pa_cons (pe_lit (l := [111, 116, 104, 101, 114]) (by decide +kernel)) pa_nil) (by rfl))))
 pss_nil)
 pss_no))), ?_⟩
    rcases h with ⟨bad, r⟩ | ⟨good, bad, r⟩ | ⟨a, b, rfl, rfl, ha, hb, ne, r⟩
    · refine ⟨_, rfl, v, _, tv, rfl, hv, zv, fun e => ?_, fun _ => r⟩
      rw [bad] at e
      cases e
    · refine ⟨_, rfl, v, _, tv, rfl, hv, zv, fun _ => ?_, fun e => ?_⟩
      · refine ⟨_, rfl, w, _, tw, rfl, hw, zw, fun e => ?_, fun _ => r⟩
        rw [bad] at e
        cases e
      · rw [good] at e
        cases e
    · have la := (isWd_of ha).2.2.1
      have lb := (isWd_of hb).2.2.1
      refine ⟨_, rfl, _, _, tv, rfl, hv, zv, fun _ => ?_, fun e => ?_⟩
      · refine ⟨_, rfl, _, _, tw, rfl, hw, zw, fun _ => ?_, fun e => ?_⟩
        · refine ⟨_, rfl, a, rfl, Nat.le_trans la (by decide), _, rfl, b, rfl, Nat.le_trans lb (by decide), rfl, _, rfl, ?_⟩
          rw [decide_eq_false (show ¬ V.int ((a.length : Nat) : Int) = V.int ((b.length : Nat) : Int) from fun z => ne (by have := V.int.inj z; omega))]
          refine iteT ?_
          exact ⟨pOther, rfl, fun d hd => r _ d (fun _ _ e => e) hd⟩
        · rw [show wdV (.str (S b)) = isWd b from rfl, hb] at e
          cases e
      · rw [show wdV (.str (S a)) = isWd a from rfl, ha] at e
        cases e
theorem ok_ups_of {f : Addr} {fd : FuncData} (F : Fun K "ups_of" "ups_of" s_ups_of f fd) (T : Txt K mg) (c_check_word : Cl P w K mg base 3 "check_word" spCkWord) : FnOk P w K mg base CX0 4 f fd ["word"] spUps := by
  have nd := sc_ups_of.nd
  refine F.ok sc_ups_of (fun vs H Q E h => ?_) (fun cdv A outer s H vs Q E hr h => ?_)
  · obtain ⟨a, rfl, _⟩ := h
    rfl
  · obtain ⟨a, rfl, ha, q⟩ := h
    have ha2 := isWd_of ha
    refine ⟨_, (pss_cons (ps_expr (pe_f c_check_word hr (by decide) (by rfl) (pa_cons (pv 0) (pa_cons (pe_lit (l := [119, 111, 114, 100]) (by decide +kernel)) pa_nil))))
 (pss_cons (ps_set (i := 1) nd rfl (by first | exact Or.inl rfl | exact Or.inr rfl) (pe_lst pa_nil))
 (pss_cons (ps_set (i := 2) nd rfl (by first | exact Or.inl rfl | exact Or.inr rfl) (pe_lst (pa_cons pe_int pa_nil)))
 (pss_cons (ps_for PassesOwn.never rfl (pi_str (pv 0)) (pg_name (i := 3) nd rfl (by first | exact Or.inl rfl | exact Or.inr rfl))
 (pss_one (ps_if (pt_cmpR op_eq_S (pv 3) (pe_lit (l := [49]) (by decide +kernel)) (nomark _))
 (pss_cons (ps_expr (pe_bm PySem.F.plainAttrs_list PySem.F.slot_list_append PySem.F.type_list_append mt_append (pv 1) (pa_cons (pe_ix (show IxR _ (rIxL K) from ix_list) (pv 2) (pe_un un_neg pe_int) (fun _ _ => rfl)) pa_nil)))
 (pss_one (ps_expr (pe_bm PySem.F.plainAttrs_list PySem.F.slot_list_append PySem.F.type_list_append mt_append (pv 2) (pa_cons (pe_callB (show CallR _ (.builtin "len") (rLenSq K) from call_len_seq) (by rfl) T.n_len (by decide +kernel) (pa_cons (pv 1) pa_nil)) pa_nil)))))
 (pss_one (ps_expr (pe_bm0 PySem.F.plainAttrs_list PySem.F.slot_list_pop PySem.F.type_list_pop mt_pop (pv 2)))))))
 (pss_one (ps_ret (pe_callTy call_tuple_of (by rfl) T.n_tuple (by decide +kernel) (pa_cons (pv 1) pa_nil)))))))), ?_⟩
    refine ⟨_, rfl, a, _, rfl, ha, ?_⟩
    refine ⟨by show 0 ≤ sizeLine; decide, fun U nU => ⟨by show 1 ≤ sizeLine; decide, fun Pt nP => ?_⟩⟩
    have HU := nU
    have UP : U ≠ Pt := fun e => by
      subst e
      rw [upd_same] at nP
      cases nP
    have nPH : H Pt = none := by
      cases e : H Pt with
      | none => rfl
      | some o =>
        rw [same_new nU (o := .lst []) _ _ e] at nP
        cases nP
    have lz : ∀ n : Nat, n ≤ 2000 → n ≤ sizeLine := fun n h => Nat.le_trans h (by decide)
    refine ⟨_, rfl, S a, rfl, for_S (a := a) (fun i σ H' => ∃ (v3 : Option V) (xs ys : List V) (y : V) (k : Nat), σ = [some (.str (S a)), some (.ref U), some (.ref Pt), v3] ∧ Same H H' ∧ H' U = some (.lst xs) ∧ H' Pt = some (.lst (ys ++ [y])) ∧
      xs.length = (a.take i).count 49 ∧ xs.length ≤ i ∧ ys.length = k ∧ k ≤ i ∧ hgt k (a.drop i) = some 0)
      ⟨none, [], [], .int 0, 0, rfl, (same_new nU).trans (same_new nP), same_new nP _ _ upd_same, upd_same, rfl, Nat.le_refl _, rfl, Nat.le_refl _, ha2.2.2.2⟩ ?_ ?_⟩
    · rintro i c σ H' hc ⟨v3, xs, ys, y, k, rfl, sm, hU, hP, x1, x2, y1, y2, hk⟩
      have il : i < a.length := (List.getElem?_eq_some_iff.mp hc).1
      rw [drop_at hc] at hk
      have ct : (a.take (i + 1)).count 49 = (a.take i).count 49 + [c].count 49 := by
        rw [List.take_add_one, hc, List.count_append]
        rfl
      refine ⟨_, rfl, [c], [49], rfl, rfl, _, rfl, ?_⟩
      by_cases ec : c = 49
      · subst ec
        rw [decide_eq_true rfl]
        refine iteT ?_
        rw [hgt_up] at hk
        refine ⟨_, rfl, .inl ⟨rfl, _, SqL.of hU⟩, _, rfl, _, rfl, Pt, _, _, y, rfl, rfl, SqL.of hP, atI_last ys y, U, xs, y, rfl, rfl, hU, small1000 (by omega), ?_⟩
        have hP1 : upd H' U (.lst (xs ++ [y])) Pt = some (.lst (ys ++ [y])) := by rw [upd_ne (Ne.symm UP)]; exact hP
        refine ⟨_, rfl, .inl ⟨rfl, _, SqL.of hP1⟩, _, rfl, U, _, rfl, .inl (SqL.of upd_same), Pt, _, _, rfl, rfl, hP1, small1000 (by rw [List.length_append]; show ys.length + 1 ≤ 1000; omega), ?_⟩
        refine ⟨_, xs ++ [y], ys ++ [y], _, k + 1, rfl, same_put (same_put sm HU) nPH, by rw [upd_ne UP]; exact upd_same, upd_same, ?_, ?_, ?_, by omega, hk⟩
        · rw [ct, List.length_append, x1]
          rfl
        · rw [List.length_append]
          show xs.length + 1 ≤ i + 1
          omega
        · rw [List.length_append, y1]
          rfl
      · rw [decide_eq_false (show ¬ [c] = [49] from fun z => ec (List.cons.inj z).1)]
        refine iteF ?_
        cases k with
        | zero =>
          rw [hgt_zero ec] at hk
          cases hk
        | succ k =>
          rw [hgt_down ec] at hk
          refine ⟨_, rfl, .inl ⟨rfl, _, SqL.of hP⟩, Pt, _, y, rfl, rfl, hP, by rw [List.length_append]; show (ys ++ [y])[ys.length + 1 - 1]? = _; rw [Nat.add_sub_cancel, List.getElem?_append_right (Nat.le_refl _), Nat.sub_self]; rfl, ?_⟩
          rw [List.dropLast_concat]
          obtain ⟨zs, z, rfl⟩ : ∃ zs z, ys = zs ++ [z] := by
            refine ⟨ys.dropLast, ys.getLast (fun e => ?_), (List.dropLast_concat_getLast _).symm⟩
            rw [e] at y1
            cases y1
          rw [List.length_append] at y1
          have y1 : zs.length + 1 = k + 1 := y1
          refine ⟨_, xs, zs, z, k, rfl, same_put sm nPH, by rw [upd_ne UP]; exact hU, upd_same, ?_, by omega, by omega, by omega, hk⟩
          rw [ct, x1, List.count_cons, if_neg (by simp [ec])]
          rfl
    · rintro σ H' ⟨v3, xs, ys, y, k, rfl, sm, hU, hP, x1, x2, y1, y2, hk⟩
      rw [List.take_length] at x1
      exact ⟨_, rfl, U, xs, rfl, .inl ⟨SqL.of hU, fun l nl => q _ l xs (sm.trans (same_new nl)) upd_same x1⟩⟩
end
/-! ### what is no word -/
theorem noWd_odd {a : List Nat} (h : a.length % 2 = 1) : wdV (.str (S a)) = false := by
  show isWd a = false
  cases e : isWd a with
  | false => rfl
  | true =>
    obtain ⟨_, _, _, h4⟩ := isWd_of e
    have := (hgt_len a 0 h4).2
    omega
theorem noWd_long {a : List Nat} (h : 400 < a.length) : wdV (.str (S a)) = false := by
  show isWd a = false
  cases e : isWd a with
  | false => rfl
  | true =>
    obtain ⟨_, _, h3, _⟩ := isWd_of e
    omega
theorem noWd_hgt {a : List Nat} (h : hgt 0 a = none) : wdV (.str (S a)) = false := by
  show isWd a = false
  cases e : isWd a with
  | false => rfl
  | true =>
    obtain ⟨_, _, _, h4⟩ := isWd_of e
    rw [h] at h4
    cases h4
theorem noWd_rev {a : List Nat} (h : isWd a = true) : wdV (.str (S a.reverse)) = false := by
  obtain ⟨h1, h2, h3, h4⟩ := isWd_of h
  have h0 : a ≠ [] := fun e => by
    rw [e] at h2
    exact absurd h2 (by decide)
  obtain ⟨y, c, rfl⟩ : ∃ y c, a = y ++ [c] := ⟨a.dropLast, a.getLast h0, (List.dropLast_concat_getLast h0).symm⟩
  rw [hgt_app] at h4
  cases e : hgt 0 y with
  | none =>
    rw [e] at h4
    cases h4
  | some k =>
    rw [e] at h4
    have h4 : hgt k [c] = some 0 := h4
    have ec : c ≠ 49 := fun z => by
      rw [z, hgt_up] at h4
      cases h4
    refine noWd_hgt ?_
    rw [List.reverse_append]
    exact hgt_zero ec _
theorem noWd_sg {a : List Nat} (h : sg a = false) : wdV (.str (S a)) = false := by
  show isWd a = false
  unfold isWd
  rw [h]
  rfl
def spNoW (K : PySem.W.Frag) : Sp := fun vs H Q _ => ∃ (g : Addr) (m : Nat) (a : List Nat), vs = [.ref g, .str (S a)] ∧ GA H g m ∧ m + 10 < 1000000 ∧ isWd a = true ∧
  ∀ (H' : Hp) (v : V) (t : String), TyB K H' v t → Sht v → wdV v = false → v ≠ .ref g → Fm g H H' → GA H' g (m + 2) → Q v H'
section
variable {P : Program} {w : World} {K : PySem.W.Frag} {mg : Str → Option Value} {base : Heap}
theorem ok__law_no_word {f : Addr} {fd : FuncData} (F : Fun K "_law_no_word" "_law_no_word" s__law_no_word f fd) (T : Txt K mg) (c__law_latch : Cl P w K mg base 1 "_law_latch" spTick) (c__law_one_of : Cl P w K mg base 2 "_law_one_of" (spDial K)) : FnOk P w K mg base CX0 3 f fd ["gate", "word"] (spNoW K) := by
  have nd := sc__law_no_word.nd
  refine F.ok sc__law_no_word (fun vs H Q E h => ?_) (fun cdv A outer s H vs Q E hr h => ?_)
  · obtain ⟨g, m, a, rfl, _⟩ := h
    rfl
  · obtain ⟨g, m, a, rfl, G0, hm, ha, q⟩ := h
    obtain ⟨a1, a2, a3, a4⟩ := isWd_of ha
    have az : a.length ≤ sizeLine := Nat.le_trans a3 (by decide)
    refine ⟨_, (pss_cons (ps_set (i := 2) nd rfl (by first | exact Or.inl rfl | exact Or.inr rfl) (pe_f c__law_latch hr (by decide) (by rfl) (pa_cons (pv 0) (pa_cons (pe_callB call_len_S (by rfl) T.n_len (by decide +kernel) (pa_cons (pv 1) pa_nil)) pa_nil))))
 (pss_cons (ps_set (i := 3) nd rfl (by first | exact Or.inl rfl | exact Or.inr rfl) (pe_lst (pa_cons (pe_op op_add_S (pe_slice sl_S (pv 1) po_none (po_some (pv 2))) (pe_slice sl_S (pv 1) (po_some (pe_op op_add (pv 2) pe_int)) po_none)) (pa_cons (pe_op op_add_S (pe_op op_add_S (pe_slice sl_S (pv 1) po_none (po_some (pv 2))) (pe_lit (l := [49]) (by decide +kernel))) (pe_slice sl_S (pv 1) (po_some (pv 2)) po_none)) (pa_cons (pe_op op_add_S (pe_lit (l := [48]) (by decide +kernel)) (pv 1)) (pa_cons (pe_op op_add_S (pv 1) (pe_lit (l := [48]) (by decide +kernel))) (pa_cons (pe_revS (pv 1)) (pa_cons (pe_lit (l := []) (by decide +kernel)) (pa_cons (pe_lit (l := [48, 49]) (by decide +kernel)) (pa_cons (pe_op op_add_S (pe_lit (l := [50]) (by decide +kernel)) (pv 1)) (pa_cons (pe_op op_add_S (pv 1) (pe_lit (l := [32]) (by decide +kernel))) (pa_cons (pe_op op_add_S (pe_op op_add_S (pe_slice sl_S (pv 1) po_none (po_some (pv 2))) (pe_lit (l := [120]) (by decide +kernel))) (pe_slice sl_S (pv 1) (po_some (pe_op op_add (pv 2) pe_int)) po_none)) pa_nil))))))))))))
 (pss_one (ps_ret (pe_f c__law_one_of hr (by decide) (by rfl) (pa_cons (pv 0) (pa_cons (pe_op op_cat (pv 3) (pe_lst (pa_cons pe_non (pa_cons pe_int (pa_cons pe_int (pa_cons pe_bl (pa_cons (pe_lst (pa_cons (pv 1) pa_nil)) (pa_cons (pe_tup (pa_cons (pv 1) pa_nil)) (pa_cons (pe_callTy (call_list_S rfl) (by rfl) T.n_list (by decide +kernel) (pa_cons (pv 1) pa_nil)) (pa_cons (pe_disp (pps_cons (pv 1) pe_int pps_nil) (by rfl) (by rfl) (by decide) (by decide)) (pa_cons (pe_op op_rep_S (pe_lit (l := [49, 48]) (by decide +kernel)) pe_int) (pa_cons (pe_op op_add_S (pe_op op_rep_S (pe_lit (l := [49]) (by decide +kernel)) pe_int) (pe_op op_rep_S (pe_lit (l := [48]) (by decide +kernel)) pe_int)) (pa_cons (pe_lit (l := [49, 48, 48, 49]) (by decide +kernel)) pa_nil))))))))))))) pa_nil))))))), ?_⟩
    refine ⟨_, rfl, _, rfl, a, rfl, az, g, _, (a.length : Nat), rfl, G0, by omega, by omega, pow_ok (by omega) (by omega), fun H1 t t0 t1 f1 G1 => ?_⟩
    obtain ⟨i, rfl, il⟩ : ∃ i : Nat, t = (i : Int) ∧ i < a.length := ⟨t.toNat, by omega, by omega⟩
    refine nm_st (τ := [some (.ref g), some (.str (S a)), some (.int i), none]) rfl ?_
    have lz : ∀ n : Nat, n ≤ 2000 → n ≤ sizeLine := fun n h => Nat.le_trans h (by decide)
    have cl : ∀ lo hi, (cutN a lo hi).length ≤ 400 := fun lo hi => Nat.le_trans (cutN_len a lo hi) a3
    have cA := cl none (some (i : Int))
    have cB := cl (some ((i : Int) + 1)) none
    have cC := cl (some (i : Int)) none
    refine ⟨_, rfl, _, rfl, i, rfl, a, rfl, az, _, rfl, _, rfl, _, _, rfl, rfl, _, rfl, a, rfl, az, _, _, rfl, rfl, lz _ (by omega), ?_⟩
    refine ⟨_, rfl, _, rfl, i, rfl, a, rfl, az, _, _, rfl, rfl, lz _ (by show _ + 1 ≤ 2000; omega), _, rfl, _, rfl, i, rfl, a, rfl, az, _, _, rfl, rfl, lz _ (by rw [List.length_append]; show _ + 1 + _ ≤ 2000; omega), ?_⟩
    refine ⟨_, rfl, _, _, rfl, rfl, lz _ (by show 1 + a.length ≤ 2000; omega), _, rfl, _, _, rfl, rfl, lz _ (by show a.length + 1 ≤ 2000; omega), _, rfl, a, rfl, az, ?_⟩
    refine ⟨_, rfl, _, _, rfl, rfl, lz _ (by show 1 + a.length ≤ 2000; omega), _, rfl, _, _, rfl, rfl, lz _ (by show a.length + 1 ≤ 2000; omega), ?_⟩
    refine ⟨_, rfl, _, rfl, i, rfl, a, rfl, az, _, _, rfl, rfl, lz _ (by show _ + 1 ≤ 2000; omega), _, rfl, _, rfl, _, _, rfl, rfl, _, rfl, a, rfl, az, _, _, rfl, rfl, lz _ (by rw [List.length_append]; show _ + 1 + _ ≤ 2000; omega), ?_⟩
    refine ⟨by show 10 ≤ sizeLine; decide, fun L nL => ?_⟩
    refine nm_st (τ := [some (.ref g), some (.str (S a)), some (.int i), some (.ref L)]) rfl ?_
    refine ⟨_, rfl, _, rfl, ?_⟩
    refine ⟨_, rfl, by show 1 ≤ sizeLine; decide, fun A1 nA1 => ?_⟩
    refine ⟨_, rfl, by show 1 ≤ sizeLine; decide, fun A2 nA2 => ?_⟩
    refine ⟨_, rfl, a, rfl, az, fun A3 nA3 => ?_⟩
    refine fun A4 nA4 => ⟨_, rfl, upd_same, [(.inr (S a), .int 1)], rfl, by show 1 ≤ 15; decide, ?_⟩
    rw [upd_upd]
    refine ⟨[49, 48], 201, rfl, rfl, by decide, by show 2 * 201 ≤ sizeLine; decide, by decide, ?_⟩
    refine ⟨[49], 201, rfl, rfl, by decide, by show 1 * 201 ≤ sizeLine; decide, by decide, ?_⟩
    refine ⟨[48], 201, rfl, rfl, by decide, by show 1 * 201 ≤ sizeLine; decide, by decide, _, _, rfl, rfl, by show _ ≤ sizeLine; rw [rep_len, rep_len]; decide, ?_⟩
    refine ⟨by show 11 ≤ sizeLine; decide, fun L2 nL2 => ?_⟩
    have key : ∀ (M O : List V) (HB : Hp), M.length = 10 → O.length = 11 → HB L = some (.lst M) → HB L2 = some (.lst O) → Same H1 HB → (∀ v ∈ M ++ O, ∃ t, TyB K HB v t ∧ Sht v ∧ wdV v = false ∧ v ≠ .ref g) →
        rCat (V.ref L) (V.ref L2) HB fun x H1 => tNil [some (V.ref g), some (V.str (S a)), some (V.int (i : Nat)), some (V.ref L)] H1 fun xs H2 => (fun xs H2 => (fun vs H1 => spDial K vs H1 Q E0) (V.ref g :: xs) H2) (x :: xs) H2 := by
      intro M O HB l1 l2 hM hO sB facts
      refine ⟨L, L2, M, O, rfl, rfl, hM, hO, by rw [l1, l2]; decide, fun C nC => ?_⟩
      have GB := G1.same sB
      have nCg : C ≠ g := fun e => by
        subst e
        exact GB.some nC
      refine ⟨g, C, _, _, rfl, GB.new nC, by omega, SqL.of upd_same, nCg, by rw [List.length_append, l1, l2]; decide, by rw [List.length_append, l1, l2]; decide, fun H2 v hv f2 G2 => ?_⟩
      obtain ⟨t, ht, hz, hw, ng⟩ := facts v hv
      exact q H2 v t (tyb_fm (tyb_same ht (same_new nC)) f2 ng) hz hw ng ((f1.trans (Fm.of (sB.trans (same_new nC)))).trans f2) G2
    have kA1 : ∀ {X : Hp} {z : Addr} {o : HO}, Same H1 X → X z = none → z ≠ g := fun s n e => by
      subst e
      exact (G1.same s).some n
    have sL := same_new (o := .lst [V.str (S (cutN a none (some (i : Int)) ++ cutN a (some ((i : Int) + 1)) none)), V.str (S (cutN a none (some (i : Int)) ++ [49] ++ cutN a (some (i : Int)) none)), V.str (S ([48] ++ a)), V.str (S (a ++ [48])), V.str (S a.reverse), V.str (S []), V.str (S [48, 49]), V.str (S ([50] ++ a)), V.str (S (a ++ [32])), V.str (S (cutN a none (some (i : Int)) ++ [120] ++ cutN a (some ((i : Int) + 1)) none))]) nL
    have s1 := same_new (o := .lst [V.str (S a)]) nA1
    have s2 := same_new (o := .tup [V.str (S a)]) nA2
    have s3 := same_new (o := .lst (sgs a)) nA3
    have s4 := same_new (o := .dK (mergeK [] [(Sum.inr (S a), V.int 1)])) nA4
    have s5 := same_new (o := .lst [V.non, V.int 10, V.int 1, V.bl true, V.ref A1, V.ref A2, V.ref A3, V.ref A4, V.str (S (List.replicate 201 [49, 48]).flatten), V.str (S ((List.replicate 201 [49]).flatten ++ (List.replicate 201 [48]).flatten)), V.str (S [49, 48, 48, 49])]) nL2
    have par := (hgt_len a 0 a4).2
    refine key _ _ _ rfl rfl (s5 _ _ (s4 _ _ (s3 _ _ (s2 _ _ (s1 _ _ upd_same))))) upd_same ((((sL.trans s1).trans s2).trans s3).trans (s4.trans s5)) ?_
    intro v hv
    simp only [List.cons_append, List.nil_append, List.mem_cons, List.not_mem_nil, or_false] at hv
    have eA := cutN_to a i
    have eB : cutN a (some ((i : Int) + 1)) none = a.drop (i + 1) := cutN_from a (i + 1)
    have eC := cutN_from a i
    have shS : ∀ y : List Nat, y.length ≤ 2000 → Sht (.str (S y)) := fun y h => sht_S (lz _ h)
    have lT : (a.take i).length = i := by rw [List.length_take]; omega
    have odd : ∀ {HX : Hp} (y : List Nat), y.length ≤ 2000 → y.length % 2 = 1 → ∃ t, TyB K HX (V.str (S y)) t ∧ Sht (V.str (S y)) ∧ wdV (V.str (S y)) = false ∧ V.str (S y) ≠ .ref g := fun {HX} y h1 h2 => ⟨_, .str _, shS y h1, noWd_odd h2, fun z => nomatch z⟩
    rcases hv with rfl | rfl | rfl | rfl | rfl | rfl | rfl | rfl | rfl | rfl | rfl | rfl | rfl | rfl | rfl | rfl | rfl | rfl | rfl | rfl | rfl
    · refine odd _ ?_ ?_ <;> rw [eA, eB, List.length_append, lT, List.length_drop] <;> omega
    · refine odd _ ?_ ?_ <;> rw [eA, eC, List.length_append, List.length_append, lT, List.length_drop] <;> (try show i + 1 + (a.length - i) ≤ _) <;> (try show (i + 1 + (a.length - i)) % 2 = _) <;> omega
    · refine odd _ ?_ ?_ <;> (try show a.length + 1 ≤ _) <;> (try show (a.length + 1) % 2 = _) <;> omega
    · refine odd _ ?_ ?_ <;> rw [List.length_append] <;> (try show a.length + 1 ≤ _) <;> (try show (a.length + 1) % 2 = _) <;> omega
    · exact ⟨_, .str _, shS _ (by rw [List.length_reverse]; omega), noWd_rev ha, fun z => nomatch z⟩
    · exact ⟨_, .str _, shS _ (by decide), by decide, fun z => nomatch z⟩
    · exact ⟨_, .str _, shS _ (by decide), by decide, fun z => nomatch z⟩
    · refine odd _ ?_ ?_ <;> (try show a.length + 1 ≤ _) <;> (try show (a.length + 1) % 2 = _) <;> omega
    · refine odd _ ?_ ?_ <;> rw [List.length_append] <;> (try show a.length + 1 ≤ _) <;> (try show (a.length + 1) % 2 = _) <;> omega
    · refine ⟨_, .str _, shS _ (by rw [eA, eB, List.length_append, List.length_append, lT, List.length_drop]; show i + 1 + _ ≤ _; omega), noWd_sg ?_, fun z => nomatch z⟩
      rw [eA, sg_app, sg_app]
      simp [sg]
    · exact ⟨_, .non, (fun _ z => nomatch z), rfl, (fun z => nomatch z)⟩
    · exact ⟨_, .int _, (fun _ z => nomatch z), rfl, (fun z => nomatch z)⟩
    · exact ⟨_, .int _, (fun _ z => nomatch z), rfl, (fun z => nomatch z)⟩
    · exact ⟨_, .bl _, (fun _ z => nomatch z), rfl, (fun z => nomatch z)⟩
    · exact ⟨_, .lst (SqL.of (s5 _ _ (s4 _ _ (s3 _ _ (s2 _ _ upd_same))))), (fun _ z => nomatch z), rfl, (fun z => kA1 (o := .lst []) sL nA1 (V.ref.inj z))⟩
    · exact ⟨_, .tup (SqT.of (s5 _ _ (s4 _ _ (s3 _ _ upd_same)))), (fun _ z => nomatch z), rfl, (fun z => kA1 (o := .lst []) (sL.trans s1) nA2 (V.ref.inj z))⟩
    · exact ⟨_, .lst (SqL.of (s5 _ _ (s4 _ _ upd_same))), (fun _ z => nomatch z), rfl, (fun z => kA1 (o := .lst []) ((sL.trans s1).trans s2) nA3 (V.ref.inj z))⟩
    · exact ⟨_, .dK (s5 _ _ upd_same), (fun _ z => nomatch z), rfl, (fun z => kA1 (o := .lst []) (((sL.trans s1).trans s2).trans s3) nA4 (V.ref.inj z))⟩
    · exact ⟨_, .str _, shS _ (by rw [rep_len]; decide), noWd_long (by rw [rep_len]; decide), fun z => nomatch z⟩
    · exact ⟨_, .str _, shS _ (by rw [List.length_append, rep_len, rep_len]; decide), noWd_long (by rw [List.length_append, rep_len, rep_len]; decide), fun z => nomatch z⟩
    · exact ⟨_, .str _, shS _ (by decide), by decide, fun z => nomatch z⟩
end
/-! ### what a lambda that raises is heard of: three classes -/
/-- the class at C is told by wd -/
def Told3 (CS CN CM C : Addr) (wd : List Nat) : Prop := (C = CS ∧ wd = wNumber) ∨ (C = CN ∧ wd = wWord) ∨ (C = CM ∧ wd = wMisfit)
def TH3 (CS CN CM : Addr) : (XK → Hp → VK → Prop) → Hp → VK → Prop := fun tl H Q => ∀ (E : XK) (Qx : VK),
  (∀ (C dd : Addr) (y : V) (wd : List Nat) (H2 : Hp), H2 dd = some (.xd [("part", y)]) → Told3 CS CN CM C wd → (∀ H3 p, Same H2 H3 → H3 p = some (.tup [.str (S wd), y]) → Q (.ref p) H3) → E (.ref C) (some dd) H2) → (∀ v H2, (∀ H3, Same H2 H3 → Q .non H3) → Qx v H2) → tl E H Qx
section
variable {P : Program} {w : World} {K : PySem.W.Frag} {mg : Str → Option Value} {base : Heap}
theorem ok__law_heard {lev : Nat} {g CS CN CM B : Addr} {fd : FuncData} (F : Fun K "_law_heard" "_law_heard" s__law_heard g fd) (T : Txt K mg) (hm : mg "_law_heard" = some (.ref g)) (hb : Binds K fd ["ask"] []) (b_HalfError : mg "HalfError" = some (.ref B))
    (m1 : PySem.W.exmOne K (.ref CS) (.ref B) = some true) (m2 : PySem.W.exmOne K (.ref CN) (.ref B) = some true) (m3 : PySem.W.exmOne K (.ref CM) (.ref B) = some true)
    (e_BadNumber : ErrC P w K mg base "BadNumber" CS ["self", "part"] (spInit1 CS "part")) (e_BadWord : ErrC P w K mg base "BadWord" CN ["self", "part"] (spInit1 CN "part")) (e_Misfit : ErrC P w K mg base "Misfit" CM ["self", "part"] (spInit1 CM "part"))
    (n1 : PySem.W.findIn K (.ref CS) "part" = some none) (n2 : PySem.W.findIn K (.ref CN) "part" = some none) (n3 : PySem.W.findIn K (.ref CM) "part" = some none)
    (o11 : PySem.W.kitOne K (.ref CS) (.ref CS) = some true) (o12 : PySem.W.kitOne K (.ref CS) (.ref CN) = some false) (o13 : PySem.W.kitOne K (.ref CS) (.ref CM) = some false)
    (o21 : PySem.W.kitOne K (.ref CN) (.ref CS) = some false) (o22 : PySem.W.kitOne K (.ref CN) (.ref CN) = some true) (o23 : PySem.W.kitOne K (.ref CN) (.ref CM) = some false)
    (o31 : PySem.W.kitOne K (.ref CM) (.ref CS) = some false) (o32 : PySem.W.kitOne K (.ref CM) (.ref CN) = some false) (o33 : PySem.W.kitOne K (.ref CM) (.ref CM) = some true) (oN1 : PySem.W.kitOne K (.type "NoneType") (.ref CS) = some false) (oN2 : PySem.W.kitOne K (.type "NoneType") (.ref CN) = some false) (oN3 : PySem.W.kitOne K (.type "NoneType") (.ref CM) = some false) : ClL P w K mg base lev "_law_heard" (TH3 CS CN CM) := by
  have nd := sc__law_heard.nd
  refine ⟨g, fd, s__law_heard, N__law_heard, "ask", hm, F, hb, sc__law_heard, rfl, by first | exact Or.inl rfl | exact Or.inr (Or.inl rfl), rfl, rfl, ?_⟩
  intro A outer s H Q cdv q f c' tl hr act hco wish
  refine ⟨_, (pss_cons (ps_set (i := 1) nd rfl (by first | exact Or.inl rfl | exact Or.inr rfl) pe_non)
 (pss_cons (ps_try_hold (i := 2) (tb := fun W => tDrop (tAct f c' q tl W)) (ts := fun _ _ _ => tAsg (tVar 2) (gName 1)) rfl rfl rfl nd rfl rfl ⟨by rfl, by decide, Or.inl b_HalfError⟩ (fun W pn xe tk _ => pss_one (ps_expr (pe_ask act tk))) (fun a ob cls d pn hz hf => (pss_one (ps_set (i := 1) nd rfl (by first | exact Or.inl rfl | exact Or.inr rfl) (pv 2)))))
 (pss_cons (ps_for PassesOwn.never rfl (pi_list (pe_lst (pa_cons (pe_tup (pa_cons (pe_lit (l := [110, 117, 109, 98, 101, 114]) (by decide +kernel)) (pa_cons (pe_callB (show CallR _ _ (rIsHN K) from call_isHN) (by rfl) T.n_isinstance (by decide +kernel) (pa_cons (pv 1) (pa_cons (pe_cls (by rfl) e_BadNumber.g) pa_nil))) pa_nil))) (pa_cons (pe_tup (pa_cons (pe_lit (l := [119, 111, 114, 100]) (by decide +kernel)) (pa_cons (pe_callB (show CallR _ _ (rIsHN K) from call_isHN) (by rfl) T.n_isinstance (by decide +kernel) (pa_cons (pv 1) (pa_cons (pe_cls (by rfl) e_BadWord.g) pa_nil))) pa_nil))) (pa_cons (pe_tup (pa_cons (pe_lit (l := [109, 105, 115, 102, 105, 116]) (by decide +kernel)) (pa_cons (pe_callB (show CallR _ _ (rIsHN K) from call_isHN) (by rfl) T.n_isinstance (by decide +kernel) (pa_cons (pv 1) (pa_cons (pe_cls (by rfl) e_Misfit.g) pa_nil))) pa_nil))) pa_nil))))) (pg_tup rfl (pgs_cons (pg_name (i := 3) nd rfl (by first | exact Or.inl rfl | exact Or.inr rfl)) (pgs_cons (pg_name (i := 4) nd rfl (by first | exact Or.inl rfl | exact Or.inr rfl)) pgs_nil)))
 (pss_one (ps_if (pt_val (pv 4))
 (pss_one (ps_ret (pe_tup (pa_cons (pv 3) (pa_cons (show PE _ _ (tXh K "part" _) from pe_xh (pv 1)) pa_nil)))))
 pss_nil)))
 (pss_one (ps_ret (pe_ifExp (pt_cmpR op_isN (pv 1) pe_non (nomark _)) pe_non (pe_tup (pa_cons (pe_lit (l := [111, 116, 104, 101, 114]) (by decide +kernel)) (pa_cons (pe_lit (l := []) (by decide +kernel)) pa_nil))))))))), ?_⟩
  refine ⟨rfl, hco, wish _ _ ?_ ?_⟩
  rotate_left
  · intro v H2 q2
    refine at_st (τ := [some (.ref f), some .non, none, none, none]) rfl ?_
    refine ⟨_, rfl, .inr ⟨CS, rfl, oN1, by show 2 ≤ sizeLine; decide, fun p1 np1 => ?_⟩⟩
    refine ⟨_, rfl, .inr ⟨CN, rfl, oN2, by show 2 ≤ sizeLine; decide, fun p2 np2 => ?_⟩⟩
    refine ⟨_, rfl, .inr ⟨CM, rfl, oN3, by show 2 ≤ sizeLine; decide, fun p3 np3 => ⟨by show 3 ≤ sizeLine; decide, fun L nL => ?_⟩⟩⟩
    obtain ⟨HL, eL, hL, h1, h2, h3, sT⟩ : ∃ HL, HL = upd (upd (upd (upd H2 p1 (.tup [.str (S wNumber), .bl false])) p2 (.tup [.str (S wWord), .bl false])) p3 (.tup [.str (S wMisfit), .bl false])) L (.lst [.ref p1, .ref p2, .ref p3]) ∧
        HL L = some (.lst [.ref p1, .ref p2, .ref p3]) ∧ HL p1 = some (.tup [.str (S wNumber), .bl false]) ∧ HL p2 = some (.tup [.str (S wWord), .bl false]) ∧ HL p3 = some (.tup [.str (S wMisfit), .bl false]) ∧ Same H2 HL :=
      ⟨_, rfl, upd_same, same_new nL _ _ (same_new np3 _ _ (same_new np2 _ _ upd_same)), same_new nL _ _ (same_new np3 _ _ upd_same), same_new nL _ _ upd_same, ((same_new np1).trans (same_new np2)).trans ((same_new np3).trans (same_new nL))⟩
    refine ⟨L, rfl, ⟨_, SqL.of upd_same⟩, ?_⟩
    refine for_list (K := K) (a := L) (xs := [.ref p1, .ref p2, .ref p3]) (fun i σ H' => ∃ v3 v4, σ = [some (.ref f), some .non, none, v3, v4] ∧ Same HL H')
      ⟨none, none, rfl, fun x o e => (congrFun eL x).symm.trans e⟩ (fun i σ H' _ h => ?_) ?_ ?_
    · obtain ⟨_, _, _, h⟩ := h
      exact SqL.of (h _ _ hL)
    · rintro i x σ H' hx ⟨v3, v4, rfl, sm⟩
      obtain ⟨p, wd0, rfl, hp⟩ : ∃ (p : Addr) (wd0 : List Nat), x = .ref p ∧ HL p = some (.tup [.str (S wd0), .bl false]) := by
        rcases i with _ | _ | _ | i
        · cases hx
          exact ⟨p1, _, rfl, h1⟩
        · cases hx
          exact ⟨p2, _, rfl, h2⟩
        · cases hx
          exact ⟨p3, _, rfl, h3⟩
        · cases hx
      refine ⟨p, _, rfl, SqT.of (sm _ _ hp), rfl, _, _, rfl, _, _, rfl, rfl, ?_⟩
      exact ⟨_, rfl, _, rfl, iteF ⟨_, _, rfl, sm⟩⟩
    · rintro σ H' ⟨v3, v4, rfl, sm⟩
      refine ⟨_, rfl, rfl, _, rfl, ?_⟩
      exact iteT (q2 _ (sT.trans sm))
  intro C dd y wd H2 hdd told q2
  have mC : PySem.W.exmOne K (.ref C) (.ref B) = some true := by
    rcases told with ⟨rfl, _⟩ | ⟨rfl, _⟩ | ⟨rfl, _⟩ <;> assumption
  refine ⟨mC, fun a na => ⟨_, rfl, ?_⟩⟩
  have hda : dd ≠ a := fun e => by
    subst e
    rw [na] at hdd
    cases hdd
  obtain ⟨HA, eA⟩ : ∃ HA, HA = upd H2 a (exH (.ref C) (some dd) a) := ⟨_, rfl⟩
  have sA : Same H2 HA := by rw [eA]; exact same_new na
  have ha : HA a = some (exH (.ref C) (some dd) a) := by rw [eA]; exact upd_same
  have hdA := sA _ _ hdd
  have kit : KitE K C := by
    rcases told with ⟨rfl, _⟩ | ⟨rfl, _⟩ | ⟨rfl, _⟩
    · exact e_BadNumber.kt
    · exact e_BadWord.kt
    · exact e_Misfit.kt
  have noC : PySem.W.findIn K (.ref C) "part" = some none := by
    rcases told with ⟨rfl, _⟩ | ⟨rfl, _⟩ | ⟨rfl, _⟩ <;> assumption
  obtain ⟨b1, b2, b3, k1, k2, k3, wds⟩ : ∃ b1 b2 b3 : Bool, PySem.W.kitOne K (.ref C) (.ref CS) = some b1 ∧ PySem.W.kitOne K (.ref C) (.ref CN) = some b2 ∧ PySem.W.kitOne K (.ref C) (.ref CM) = some b3 ∧
      (([(wNumber, b1), (wWord, b2), (wMisfit, b3)].filter (·.2)).map (·.1)) = [wd] := by
    rcases told with ⟨rfl, rfl⟩ | ⟨rfl, rfl⟩ | ⟨rfl, rfl⟩
    · exact ⟨true, false, false, o11, o12, o13, rfl⟩
    · exact ⟨false, true, false, o21, o22, o23, rfl⟩
    · exact ⟨false, false, true, o31, o32, o33, rfl⟩
  refine nm_st (τ := [some (.ref f), some (.ref a), some (.ref a), none, none]) rfl ?_
  dsimp only
  refine at_st (τ := [some (.ref f), some (.ref a), none, none, none]) rfl ?_
  refine at_hp eA.symm ?_
  refine ⟨_, rfl, .inl ⟨a, C, CS, dd, _, b1, rfl, ha, hdA, kit, k1, by show 2 ≤ sizeLine; decide, fun p1 np1 => ?_⟩⟩
  have s1 := same_new (o := .tup [.str (S wNumber), .bl b1]) np1
  refine ⟨_, rfl, .inl ⟨a, C, CN, dd, _, b2, rfl, s1 _ _ ha, s1 _ _ hdA, kit, k2, by show 2 ≤ sizeLine; decide, fun p2 np2 => ?_⟩⟩
  have s2 := same_new (o := .tup [.str (S wWord), .bl b2]) np2
  refine ⟨_, rfl, .inl ⟨a, C, CM, dd, _, b3, rfl, s2 _ _ (s1 _ _ ha), s2 _ _ (s1 _ _ hdA), kit, k3, by show 2 ≤ sizeLine; decide, fun p3 np3 => ?_⟩⟩
  have s3 := same_new (o := .tup [.str (S wMisfit), .bl b3]) np3
  refine ⟨by show 3 ≤ sizeLine; decide, fun L nL => ?_⟩
  have s4 := same_new (o := .lst [.ref p1, .ref p2, .ref p3]) nL
  obtain ⟨HL, eL, hL, h1, h2, h3⟩ : ∃ HL, HL = upd (upd (upd (upd HA p1 (.tup [.str (S wNumber), .bl b1])) p2 (.tup [.str (S wWord), .bl b2])) p3 (.tup [.str (S wMisfit), .bl b3])) L (.lst [.ref p1, .ref p2, .ref p3]) ∧
      HL L = some (.lst [.ref p1, .ref p2, .ref p3]) ∧ HL p1 = some (.tup [.str (S wNumber), .bl b1]) ∧ HL p2 = some (.tup [.str (S wWord), .bl b2]) ∧ HL p3 = some (.tup [.str (S wMisfit), .bl b3]) :=
    ⟨_, rfl, upd_same, s4 _ _ (s3 _ _ (s2 _ _ upd_same)), s4 _ _ (s3 _ _ upd_same), s4 _ _ upd_same⟩
  have sT : Same HA HL := by rw [eL]; exact s1.trans (s2.trans (s3.trans s4))
  refine ⟨L, rfl, ⟨_, SqL.of upd_same⟩, ?_⟩
  have nth : ∀ (i : Nat) (x : V), ([.ref p1, .ref p2, .ref p3] : List V)[i]? = some x → ∃ (p : Addr) (wd0 : List Nat) (b : Bool), x = .ref p ∧ HL p = some (.tup [.str (S wd0), .bl b]) ∧ ([(wNumber, b1), (wWord, b2), (wMisfit, b3)] : List (List Nat × Bool))[i]? = some (wd0, b) := by
    intro i x hx
    rcases i with _ | _ | _ | i
    · cases hx
      exact ⟨p1, _, _, rfl, h1, rfl⟩
    · cases hx
      exact ⟨p2, _, _, rfl, h2, rfl⟩
    · cases hx
      exact ⟨p3, _, _, rfl, h3, rfl⟩
    · cases hx
  refine for_list (K := K) (a := L) (xs := [.ref p1, .ref p2, .ref p3]) (fun i σ H' => ∃ v3 v4, σ = [some (.ref f), some (.ref a), none, v3, v4] ∧ Same HL H' ∧ (([(wNumber, b1), (wWord, b2), (wMisfit, b3)] : List (List Nat × Bool)).take i).filter (·.2) = [])
    ⟨none, none, rfl, fun x o e => (congrFun eL x).symm.trans e, rfl⟩ (fun i σ H' _ h => ?_) ?_ ?_
  · obtain ⟨_, _, _, h, _⟩ := h
    exact SqL.of (h _ _ hL)
  · rintro i x σ H' hx ⟨v3, v4, rfl, sm, non⟩
    obtain ⟨p, wd0, b, rfl, hp, hi⟩ := nth i x hx
    refine ⟨p, _, rfl, SqT.of (sm _ _ hp), rfl, _, _, rfl, _, _, rfl, rfl, ?_⟩
    cases b with
    | true =>
      obtain rfl : wd0 = wd := by
        have m : (wd0, true) ∈ ([(wNumber, b1), (wWord, b2), (wMisfit, b3)] : List (List Nat × Bool)).filter (·.2) := List.mem_filter.mpr ⟨List.mem_of_getElem? hi, rfl⟩
        have m2 : wd0 ∈ [wd] := by
          rw [← wds]
          exact List.mem_map.mpr ⟨_, m, rfl⟩
        exact List.mem_singleton.mp m2
      refine ⟨_, rfl, _, rfl, iteT ?_⟩
      refine ⟨_, rfl, _, rfl, a, C, dd, _, y, rfl, sm _ _ (sT _ _ ha), sm _ _ (sT _ _ hdA), rfl, kit, noC, by show 2 ≤ sizeLine; decide, fun R nR => ?_⟩
      exact q2 _ R (sA.trans (sT.trans (sm.trans (same_new nR)))) upd_same
    | false =>
      refine ⟨_, rfl, _, rfl, iteF ⟨_, _, rfl, sm, ?_⟩⟩
      rw [List.take_add_one, hi, List.filter_append, non]
      rfl
  · rintro σ H' ⟨v3, v4, rfl, sm, non⟩
    have e3 : (([(wNumber, b1), (wWord, b2), (wMisfit, b3)] : List (List Nat × Bool)).take ([.ref p1, .ref p2, .ref p3] : List V).length) = [(wNumber, b1), (wWord, b2), (wMisfit, b3)] := rfl
    rw [e3] at non
    rw [non] at wds
    cases wds
end
/-! ### the law -/
def spLaw (K : PySem.W.Frag) (cs : List (Addr × Addr)) : Sp := fun vs H Q _ => ∃ (a : Addr) (ns : List Int), vs = [.ref a] ∧ SqL K H a (ns.map V.int) ∧ ns.length ≤ 63 ∧ (∀ p ∈ cs, H p.2 = some (.tbl #[])) ∧ ∀ H', Q (.bl true) H'
theorem law_end : ∀ (K : PySem.W.Frag) (cs : List (Addr × Addr)) (H : Hp) (a : Addr) (ns : List Int), ns.length ≤ 63 → (∀ p ∈ cs, H p.2 = some (.tbl #[])) → SqL K H a (ns.map V.int) → spLaw K cs [.ref a] H (fun v _ => v = .bl true) fun _ _ _ => False :=
  fun _ _ _ a ns hl ht hS => ⟨a, ns, rfl, hS, hl, ht, fun _ => rfl⟩
structure RoP (K : PySem.W.Frag) (C : Addr) (vs : List V) (H : Hp) (E : XK) : Prop where
  h : ∃ (v : V) (t : String), vs = [v] ∧ TyB K H v t ∧ isW v (.int 1) (.int 200) = false ∧ isW v (.int 1) (.int 9) = false ∧ Rz E H C pPairs
def spRo (K : PySem.W.Frag) (C : Addr) : Sp := fun vs H _ E => RoP K C vs H E
theorem line200 : isWd ((List.replicate 200 [49]).flatten ++ (List.replicate 200 [48]).flatten) = true :=
  isWd_mk (line_w 200).1 (by rw [List.length_append, rep_len, rep_len]; decide) (by rw [List.length_append, rep_len, rep_len]; decide) (line_w 200).2
theorem line200c : ((List.replicate 200 [49]).flatten ++ (List.replicate 200 [48]).flatten).count 49 = 200 := by decide +kernel
theorem trees200 : ((10 : Int) ^ (60 : Int).toNat) * ((10 : Int) ^ (40 : Int).toNat) < treesI 200 := by
  have e1 : placeN 200 = ((divN 200).map fun m => copN (200 / m) * (fll (2 * m) m / fct m)).sum / (2 * 200) := by
    have e2 : ((divN 200).map fun m => copN (200 / m) * chs (2 * m) m) = (divN 200).map fun m => copN (200 / m) * (fll (2 * m) m / fct m) := List.map_congr_left fun m hm => by rw [chs_div (by omega)]
    unfold placeN
    rw [e2]
  unfold treesI tieI catI
  rw [e1, ← chs_div (show 200 ≤ 200 + 200 by decide), ← chs_div (show 200 - 1 ≤ 200 + 200 by decide)]
  decide +kernel
theorem okT_W : okT wWord := ⟨by decide, by decide⟩
theorem okT_N : okT wNumber := ⟨by decide, by decide⟩
theorem okT_M : okT wMisfit := ⟨by decide, by decide⟩
theorem okT_one : okT [111, 110, 101] := ⟨by decide, by decide⟩
theorem okT_other : okT [111, 116, 104, 101, 114] := ⟨by decide, by decide⟩
theorem okT_pairs : okT [112, 97, 105, 114, 115] := ⟨by decide, by decide⟩
theorem ga_refs {H : Hp} {g L r1 : Addr} {n : Nat} {rs : List V} {o : HO} (h : GA H g n) (hL : H L = some (.lst (.ref r1 :: rs))) (h2 : ∀ b r, rs ≠ [.int b, .int r]) : GA (upd H L o) g n := by
  obtain ⟨c, cs, b, r, e1, e2, e3, e4, e5⟩ := h
  have n1 : g ≠ L := by
    rintro rfl
    rw [e1] at hL
    injection hL with hL
    injection hL with hL
    injection hL with _ hL
    exact h2 b r hL.symm
  have n2 : c ≠ L := by
    rintro rfl
    rw [e2] at hL
    injection hL with hL
    injection hL with hL
    cases cs with
    | nil => cases hL
    | cons k cs => cases hL
  exact ⟨c, cs, b, r, by rw [upd_ne n1]; exact e1, by rw [upd_ne n2]; exact e2, e3, e4, e5⟩
theorem tabs_put {H : Hp} {L : Addr} {xs : List V} {o : HO} {T : List (Addr × Str)} (h : Tabs T H) (hL : H L = some (.lst xs)) : Tabs T (upd H L o) := by
  intro p hp
  obtain ⟨ps, e1, e2, e3⟩ := h p hp
  refine ⟨ps, ?_, e2, fun pos cv hc => ?_⟩
  · rw [upd_ne (fun z => by rw [z, hL] at e1; cases e1)]
    exact e1
  · obtain ⟨c', ec, hc'⟩ := e3 pos cv hc
    refine ⟨c', ec, ?_⟩
    rw [upd_ne (fun z => by rw [z, hL] at hc'; unfold CodeO at hc'; cases hc')]
    exact hc'
theorem prs_upd {H : Hp} {L : Addr} {xs : List V} {o : HO} {rs : List (Option (Addr × List Nat × List Nat))} (h : Prs H rs) (hL : H L = some (.lst xs)) : Prs (upd H L o) rs := fun r m => by
  obtain ⟨h1, h2⟩ := h r m
  refine ⟨?_, h2⟩
  rw [upd_ne (fun z => by rw [z, hL] at h1; cases h1)]
  exact h1
theorem gd_two {K : PySem.W.Frag} {H : Hp} {p : Addr} {u y : List Nat} (hp : H p = some (.tup [.str (S u), .str (S y)])) (hu : okT u) (hy : okT y) : GD K H (.ref p) (.tuple [.str (S u), .str (S y)]) :=
  (Gd.tup (SqT.of hp) (Gds.cons (Gd.str hu.1 hu.2) (Gds.cons (Gd.str hy.1 hy.2) Gds.nil))).gd (by decide) (by decide)
section
variable {P : Program} {w : World} {K : PySem.W.Frag} {mg : Str → Option Value} {base : Heap}
theorem ok_law {f CN CW CM cB PB : Addr} {fd : FuncData} (F : Fun K "law" "law" s_law f fd) (T : Txt K mg) (lt : LamT base mg [(PB, (("law" : Str) ++ ".<locals>.") ++ "<lambda>")] "law" fd cB PB)
    (c__law_gate : Cl P w K mg base 1 "_law_gate" (spGauge K)) (c__law_latch : Cl P w K mg base 1 "_law_latch" spTick) (c__law_one_of : Cl P w K mg base 2 "_law_one_of" (spDial K)) (c__law_word : Cl P w K mg base 3 "_law_word" spLword) (c__law_no_word : Cl P w K mg base 3 "_law_no_word" (spNoW K))
    (c__law_heard : ClL P w K mg base 9 "_law_heard" (TH3 CN CW CM)) (x_ups_of : ClX P w K mg base 4 "ups_of" (spOr spUps (spR1 K wdV CW pWord))) (x_ways_from : ClX P w K mg base 5 "ways_from" (spR1 K wdV CW pWord)) (x_least_sum : ClX P w K mg base 6 "least_sum" (spR1 K wdV CW pWord))
    (x_middles : ClX P w K mg base 6 "middles" (spR1 K wdV CW pWord)) (x_leaves : ClX P w K mg base 5 "leaves" (spR1 K wdV CW pWord)) (x_name_of : ClX P w K mg base 6 "name_of" (spR1 K wdV CW pWord)) (x_mirrored_tree : ClX P w K mg base 7 "mirrored_tree" (spR1 K wdV CW pWord))
    (x_are_one_tree : ClX P w K mg base 4 "are_one_tree" (spOneT K CW CM)) (x_star : ClX P w K mg base 5 "star" (spOr spStar (spRn K CN 1 200))) (x_line : ClX P w K mg base 5 "line" (spRn K CN 1 200)) (x_how_many_trees : ClX P w K mg base 7 "how_many_trees" (spOr spTrees (spRn K CN 1 200)))
    (x_all_trees : ClX P w K mg base 5 "all_trees" (spRn K CN 1 9)) (c_star : Cl P w K mg base 5 "star" spStar) (c_ups_of : Cl P w K mg base 4 "ups_of" spUps) (ck_how_many_trees_pairs : ClK P w K mg base 7 "how_many_trees" ["pairs"] (pick [0]) spTrees) : FnG P w K mg base CX0 14 f fd ["script"] (spLaw K [(cB, PB)]) := by
  have nd := sc_law.nd
  refine okGC F sc_law (fun vs H Q E h => ?_) (fun cdv A outer s H vs Q E hcd gd hr h => ?_)
  · obtain ⟨a, ns, rfl, _⟩ := h
    rfl
  · obtain ⟨a, ns, rfl, hS, hl, tabs, q⟩ := h
    have hu64 := hr.units
    obtain ⟨TT, eTT⟩ : ∃ TT, TT = [(PB, (("law" : Str) ++ ".<locals>.") ++ "<lambda>")] := ⟨_, rfl⟩
    have hT : Tabs TT H := by
      rw [eTT]
      refine tabs_nil fun p hp => ?_
      simp only [List.mem_cons, List.not_mem_nil, or_false] at hp
      rcases hp with rfl
      exact tabs (cB, PB) (by simp)
    rw [← eTT] at lt
    clear eTT tabs
    refine ⟨_, (pss_cons (ps_set (i := 1) nd rfl (by first | exact Or.inl rfl | exact Or.inr rfl) (pe_f c__law_gate hr (by decide) (by rfl) (pa_cons (pv 0) pa_nil)))
 (pss_cons (ps_for PassesOwn.never rfl (pi_range1 (by rfl) T.n_range (pa_cons pe_int pa_nil)) (pg_name (i := 2) nd rfl (by first | exact Or.inl rfl | exact Or.inr rfl))
 (pss_cons (ps_set (i := 3) nd rfl (by first | exact Or.inl rfl | exact Or.inr rfl) (pe_f c__law_word hr (by decide) (by rfl) (pa_cons (pv 1) (pa_cons (pe_op op_add pe_int (pe_f c__law_latch hr (by decide) (by rfl) (pa_cons (pv 1) (pa_cons pe_int pa_nil)))) pa_nil))))
 (pss_cons (ps_asg (pe_tup (pa_cons (pe_f c__law_no_word hr (by decide) (by rfl) (pa_cons (pv 1) (pa_cons (pv 3) pa_nil))) (pa_cons (pe_f c__law_no_word hr (by decide) (by rfl) (pa_cons (pv 1) (pa_cons (pv 3) pa_nil))) pa_nil))) (pg_tup rfl (pgs_cons (pg_name (i := 4) nd rfl (by first | exact Or.inl rfl | exact Or.inr rfl)) (pgs_cons (pg_name (i := 5) nd rfl (by first | exact Or.inl rfl | exact Or.inr rfl)) pgs_nil))))
 (pss_cons (ps_for PassesOwn.never rfl (pi_tup (pe_tup (pa_cons (pe_fnX x_ups_of (by rfl)) (pa_cons (pe_fnX x_ways_from (by rfl)) (pa_cons (pe_fnX x_least_sum (by rfl)) (pa_cons (pe_fnX x_middles (by rfl)) (pa_cons (pe_fnX x_leaves (by rfl)) (pa_cons (pe_fnX x_name_of (by rfl)) (pa_cons (pe_fnX x_mirrored_tree (by rfl)) pa_nil))))))))) (pg_name (i := 6) nd rfl (by first | exact Or.inl rfl | exact Or.inr rfl))
 (pss_one (ps_if (pt_cmpR (op_neG hu64) (pe_lamH c__law_heard (maker0 (lamD_by (sc := defScope s_law) (N := N_law) (own := []) (by decide +kernel)) (LamT.of lt hcd) rfl (fun _ _ _ _ _ => rfl)) (lamD_by (sc := defScope s_law) (N := N_law) (own := []) (by decide +kernel)) hr (by decide) (by rfl) (fun _ _ _ _ E _ _ hr => (show PE _ _ (tHeld P w K mg base 6 8 (wDef E) _) from pe_heldX hr (by decide) rfl (by first | exact Or.inl rfl | exact Or.inr (Or.inl rfl) | exact Or.inr (Or.inr rfl)) (takes_of rfl rfl rfl rfl) (pa_cons (pv 4) pa_nil)))) (pe_tup (pa_cons (pe_lit (l := [119, 111, 114, 100]) (by decide +kernel)) (pa_cons (pe_lit (l := [119, 111, 114, 100]) (by decide +kernel)) pa_nil))) (nomark _))
 (pss_one (ps_ret pe_bl))
 pss_nil)))
 (pss_cons (ps_set (i := 7) nd rfl (by first | exact Or.inl rfl | exact Or.inr rfl) (pe_lst (pa_cons (pe_lamH c__law_heard (maker0 (lamD_by (sc := defScope s_law) (N := N_law) (own := []) (by decide +kernel)) (LamT.of lt hcd) rfl (fun _ _ _ _ _ => rfl)) (lamD_by (sc := defScope s_law) (N := N_law) (own := []) (by decide +kernel)) hr (by decide) (by rfl) (fun _ _ _ _ E _ _ hr => (pe_fX (W := wDef E) x_are_one_tree hr (by decide) (by rfl) (takes_of rfl rfl rfl rfl) (pa_cons (pv 4) (pa_cons (pv 5) pa_nil))))) (pa_cons (pe_lamH c__law_heard (maker1 (lamD_by (sc := defScope s_law) (N := N_law) (own := ["a1"]) (by decide +kernel)) (LamT.of lt hcd) rfl rfl (fun _ _ _ _ _ _ _ _ _ e => .of_defaults rfl e rfl rfl rfl)) (lamD_by (sc := defScope s_law) (N := N_law) (own := ["a1"]) (by decide +kernel)) hr (by decide) (by rfl) (fun _ _ _ _ E _ _ hr => (pe_fX (W := wDef E) x_are_one_tree hr (by decide) (by rfl) (takes_of rfl rfl rfl rfl) (pa_cons (pv 3) (pa_cons (pv 5) pa_nil))))) (pa_cons (pe_lamH c__law_heard (maker1 (lamD_by (sc := defScope s_law) (N := N_law) (own := ["a2"]) (by decide +kernel)) (LamT.of lt hcd) rfl rfl (fun _ _ _ _ _ _ _ _ _ e => .of_defaults rfl e rfl rfl rfl)) (lamD_by (sc := defScope s_law) (N := N_law) (own := ["a2"]) (by decide +kernel)) hr (by decide) (by rfl) (fun _ _ _ _ E _ _ hr => (pe_fX (W := wDef E) x_are_one_tree hr (by decide) (by rfl) (takes_of rfl rfl rfl rfl) (pa_cons (pv 4) (pa_cons (pv 3) pa_nil))))) pa_nil)))))
 (pss_cons (ps_expr (pe_bm PySem.F.plainAttrs_list PySem.F.slot_list_append PySem.F.type_list_append mt_append (pv 7) (pa_cons (pe_lamH c__law_heard (maker0 (lamD_by (sc := defScope s_law) (N := N_law) (own := []) (by decide +kernel)) (LamT.of lt hcd) rfl (fun _ _ _ _ _ => rfl)) (lamD_by (sc := defScope s_law) (N := N_law) (own := []) (by decide +kernel)) hr (by decide) (by rfl) (fun _ _ _ _ E _ _ hr => (pe_fX (W := wDef E) x_are_one_tree hr (by decide) (by rfl) (takes_of rfl rfl rfl rfl) (pa_cons (pv 3) (pa_cons (pe_op op_add_S (pv 3) (pe_lit (l := [49, 48]) (by decide +kernel))) pa_nil))))) pa_nil)))
 (pss_cons (ps_if (pt_cmpR (op_neG hu64) (pv 7) (pe_lst (pa_cons (pe_tup (pa_cons (pe_lit (l := [119, 111, 114, 100]) (by decide +kernel)) (pa_cons (pe_lit (l := [111, 110, 101]) (by decide +kernel)) pa_nil))) (pa_cons (pe_tup (pa_cons (pe_lit (l := [119, 111, 114, 100]) (by decide +kernel)) (pa_cons (pe_lit (l := [111, 116, 104, 101, 114]) (by decide +kernel)) pa_nil))) (pa_cons (pe_tup (pa_cons (pe_lit (l := [119, 111, 114, 100]) (by decide +kernel)) (pa_cons (pe_lit (l := [111, 110, 101]) (by decide +kernel)) pa_nil))) (pa_cons (pe_tup (pa_cons (pe_lit (l := [109, 105, 115, 102, 105, 116]) (by decide +kernel)) (pa_cons (pe_lit (l := [111, 116, 104, 101, 114]) (by decide +kernel)) pa_nil))) pa_nil))))) (nomark _))
 (pss_one (ps_ret pe_bl))
 pss_nil)
 (pss_cons (ps_set (i := 8) nd rfl (by first | exact Or.inl rfl | exact Or.inr rfl) (pe_f c__law_one_of hr (by decide) (by rfl) (pa_cons (pv 1) (pa_cons (pe_lst (pa_cons pe_int (pa_cons pe_int (pa_cons (pe_un un_neg pe_int) (pa_cons pe_non (pa_cons pe_bl (pa_cons pe_bl (pa_cons (pe_lit (l := [51]) (by decide +kernel)) (pa_cons (pe_tup (pa_cons pe_int pa_nil)) (pa_cons (pe_lst (pa_cons pe_int pa_nil)) (pa_cons (pe_op op_pow pe_int pe_int) pa_nil))))))))))) pa_nil))))
 (pss_one (ps_for PassesOwn.never rfl (pi_tup (pe_tup (pa_cons (pe_fnX x_star (by rfl)) (pa_cons (pe_fnX x_line (by rfl)) (pa_cons (pe_fnX x_how_many_trees (by rfl)) (pa_cons (pe_fnX x_all_trees (by rfl)) pa_nil)))))) (pg_name (i := 6) nd rfl (by first | exact Or.inl rfl | exact Or.inr rfl))
 (pss_one (ps_if (pt_cmpR (op_neG hu64) (pe_lamH c__law_heard (maker0 (lamD_by (sc := defScope s_law) (N := N_law) (own := []) (by decide +kernel)) (LamT.of lt hcd) rfl (fun _ _ _ _ _ => rfl)) (lamD_by (sc := defScope s_law) (N := N_law) (own := []) (by decide +kernel)) hr (by decide) (by rfl) (fun _ _ _ _ E _ _ hr => (show PE _ _ (tHeld P w K mg base 6 8 (wDef E) _) from pe_heldX hr (by decide) rfl (by first | exact Or.inl rfl | exact Or.inr (Or.inl rfl) | exact Or.inr (Or.inr rfl)) (takes_of rfl rfl rfl rfl) (pa_cons (pv 8) pa_nil)))) (pe_tup (pa_cons (pe_lit (l := [110, 117, 109, 98, 101, 114]) (by decide +kernel)) (pa_cons (pe_lit (l := [112, 97, 105, 114, 115]) (by decide +kernel)) pa_nil))) (nomark _))
 (pss_one (ps_ret pe_bl))
 pss_nil))))))))))))
 (pss_cons (ps_if (pt_cmpR (op_neG hu64) (pe_lamH c__law_heard (maker0 (lamD_by (sc := defScope s_law) (N := N_law) (own := []) (by decide +kernel)) (LamT.of lt hcd) rfl (fun _ _ _ _ _ => rfl)) (lamD_by (sc := defScope s_law) (N := N_law) (own := []) (by decide +kernel)) hr (by decide) (by rfl) (fun _ _ _ _ E _ _ hr => (pe_fX (W := wDef E) x_all_trees hr (by decide) (by rfl) (takes_of rfl rfl rfl rfl) (pa_cons pe_int pa_nil)))) (pe_tup (pa_cons (pe_lit (l := [110, 117, 109, 98, 101, 114]) (by decide +kernel)) (pa_cons (pe_lit (l := [112, 97, 105, 114, 115]) (by decide +kernel)) pa_nil))) (nomark _))
 (pss_one (ps_ret pe_bl))
 pss_nil)
 (pss_one (ps_ret (pe_and (pe_cmpR op_eq_S (pe_f c_star hr (by decide) (by rfl) (pa_cons pe_int pa_nil)) (pe_op op_rep_S (pe_lit (l := [49, 48]) (by decide +kernel)) pe_int) (nomark _)) (pe_and (pe_cmpR op_eq (pe_callB (show CallR _ (.builtin "len") (rLenSq K) from call_len_seq) (by rfl) T.n_len (by decide +kernel) (pa_cons (pe_f c_ups_of hr (by decide) (by rfl) (pa_cons (pe_op op_add_S (pe_op op_rep_S (pe_lit (l := [49]) (by decide +kernel)) pe_int) (pe_op op_rep_S (pe_lit (l := [48]) (by decide +kernel)) pe_int)) pa_nil)) pa_nil)) pe_int (nomark _)) (pe_one (pe_cmpR op_gt (pe_fk ck_how_many_trees_pairs hr (by decide) (by rfl) (pk_cons pe_int pk_nil)) (pe_op op_mulW (pe_op op_pow pe_int pe_int) (pe_op op_pow pe_int pe_int)) (nomark _)))))))))), ?_⟩
    refine ⟨_, rfl, a, ns, rfl, hS, hl, fun g H1 s1 ng hG => ?_⟩
    have T1 := tabs_same hT s1
    clear hT hS hl ng s1
    refine nm_st (τ := [some (.ref a), some (.ref g), none, none, none, none, none, none, none]) rfl ?_
    refine ⟨3, rfl, by decide, by decide, for_range (lo := 0) (n := 3) (fun i σ H' => ∃ v2 v3 v4 v5 v6 v7 v8, σ = [some (.ref a), some (.ref g), v2, v3, v4, v5, v6, v7, v8] ∧ GA H' g (1000 * i) ∧ Tabs TT H')
      ⟨none, none, none, none, none, none, none, rfl, hG, T1⟩ ?_ ?_⟩
    · rintro i σ H2 hi ⟨v2, v3, v4, v5, v6, v7, v8, rfl, G2, T2⟩
      refine nm_st (τ := [some (.ref a), some (.ref g), some (.int (0 + i)), v3, v4, v5, v6, v7, v8]) rfl ?_
      refine ⟨_, rfl, _, rfl, g, _, 7, rfl, G2, by omega, by decide, pow_ok (by decide) (by decide), fun H3 t t0 t1 f3 G3 => ?_⟩
      obtain ⟨n, en, n1, n2⟩ : ∃ n : Nat, 1 + t = (n : Int) ∧ 1 ≤ n ∧ n ≤ 7 := ⟨(1 + t).toNat, by omega, by omega, by omega⟩
      refine ⟨_, _, rfl, rfl, g, _, n, by rw [← en], G3, n1, by omega, by omega, fun H4 x x1 x2 x3 f4 G4 => ?_⟩
      have T4 := tabs_fm (tabs_fm T2 f3 G2) f4 G3
      have hx : isWd x = true := isWd_mk x1 (by omega) (by omega) x2
      clear f3 f4 G3 G2 T2 t0 t1 en
      refine nm_st (τ := [some (.ref a), some (.ref g), some (.int (0 + i)), some (.str (S x)), v4, v5, v6, v7, v8]) rfl ?_
      refine ⟨_, rfl, _, rfl, g, _, x, rfl, G4, by omega, hx, fun H5 nv tn hn zn wn nng f5 G5 => ⟨_, rfl, _, rfl, g, _, x, rfl, G5, by omega, hx, fun H6 ov to ho zo wo nog f6 G6 => ?_⟩⟩
      replace hn := tyb_fm hn f6 nng
      have T6 := tabs_fm (tabs_fm T4 f5 G4) f6 G5
      clear f5 f6 G4 G5 T4
      refine ⟨by show 2 ≤ sizeLine; decide, fun p np => ⟨p, _, rfl, SqT.of upd_same, rfl, _, _, rfl, _, _, rfl, rfl, ?_⟩⟩
      obtain ⟨H7, e7, s7⟩ : ∃ H7, upd H6 p (.tup [nv, ov]) = H7 ∧ Same H6 H7 := ⟨_, rfl, same_new np⟩
      refine at_st (τ := [some (.ref a), some (.ref g), some (.int (0 + i)), some (.str (S x)), some nv, some ov, v6, v7, v8]) rfl ?_
      refine at_hp e7 ?_
      have G7 := G6.same s7
      have T7 := tabs_same T6 s7
      replace hn := tyb_same hn s7
      replace ho := tyb_same ho s7
      clear e7 s7 np G6 T6
      refine fun f1 h1 f2 h2 f3 h3 f4 h4 f5 h5 f6 h6 f7 h7 => ⟨by show 7 ≤ sizeLine; decide, fun A nA => ⟨A, rfl, ⟨_, SqT.of upd_same⟩, ?_⟩⟩
      have sA := same_new (o := .tup [.ref f1, .ref f2, .ref f3, .ref f4, .ref f5, .ref f6, .ref f7]) nA
      have each : ∀ (i : Nat) (x : V), ([.ref f1, .ref f2, .ref f3, .ref f4, .ref f5, .ref f6, .ref f7] : List V)[i]? = some x → ∃ ff, x = .ref ff ∧ HeldX P w K mg base 8 ff (spR1 K wdV CW pWord) := by
        intro i x hx
        rcases i with _ | _ | _ | _ | _ | _ | _ | i
        · exact ⟨f1, (Option.some.inj hx).symm, (h1.imp fun _ _ _ _ h => .inr h).mono (by decide)⟩
        · exact ⟨f2, (Option.some.inj hx).symm, h2.mono (by decide)⟩
        · exact ⟨f3, (Option.some.inj hx).symm, h3.mono (by decide)⟩
        · exact ⟨f4, (Option.some.inj hx).symm, h4.mono (by decide)⟩
        · exact ⟨f5, (Option.some.inj hx).symm, h5.mono (by decide)⟩
        · exact ⟨f6, (Option.some.inj hx).symm, h6.mono (by decide)⟩
        · exact ⟨f7, (Option.some.inj hx).symm, h7.mono (by decide)⟩
        · cases hx
      refine for_tup (a := A) (xs := [.ref f1, .ref f2, .ref f3, .ref f4, .ref f5, .ref f6, .ref f7]) (fun j σ H' => ∃ v6, σ = [some (.ref a), some (.ref g), some (.int (0 + i)), some (.str (S x)), some nv, some ov, v6, v7, v8] ∧ GA H' g (1000 * i + 500) ∧ Tabs TT H' ∧ TyB K H' nv tn ∧ TyB K H' ov to ∧ H' A = some (.tup [.ref f1, .ref f2, .ref f3, .ref f4, .ref f5, .ref f6, .ref f7]))
        ⟨_, rfl, (G7.same sA).mono (by omega), tabs_same T7 sA, tyb_same hn sA, tyb_same ho sA, upd_same⟩ (fun j σ H' _ h => ?_) ?_ ?_
      · obtain ⟨_, _, _, _, _, _, h⟩ := h
        exact SqT.of h
      · rintro j y σ H8 hy ⟨v6, rfl, G8, T8, hn8, ho8, hA8⟩
        obtain ⟨ff, rfl, held⟩ := each j y hy
        refine nm_st (τ := [some (.ref a), some (.ref g), some (.int (0 + i)), some (.str (S x)), some nv, some ov, some (.ref ff), v7, v8]) rfl ?_
        refine ⟨T8, fun H9 e9 T9 E1 Q1 k1 k2 => ⟨ff, _, rfl, held, _, rfl, nv, tn, rfl, tyb_ext hn8 e9, zn, wn, fun Ha d s1 nd => k1 CW d pWord wWord _ upd_same (.inr (.inl ⟨rfl, rfl⟩)) fun Hb p s2 hp => ?_⟩⟩
        have sb : Same H9 Hb := fun x o e => s2 _ _ (same_new nd _ _ (s1 _ _ e))
        refine ⟨by show 2 ≤ sizeLine; decide, fun B nB => ?_⟩
        have sB := same_new (o := .tup [.str (S wWord), .str (S wWord)]) nB
        have gA := gd_two (K := K) (sB _ _ hp) okT_W okT_W
        have gB := gd_two (K := K) (H := upd Hb B (.tup [.str (S wWord), .str (S wWord)])) (p := B) upd_same okT_W okT_W
        refine ⟨_, _, gA, gB, _, rfl, ite_ne (eqv_gd' gB) ?_⟩
        have sc := sb.trans sB
        exact ⟨_, rfl, (ga_extN G8 e9).same sc, tabs_same T9 sc, tyb_same (tyb_ext hn8 e9) sc, tyb_same (tyb_ext ho8 e9) sc, sc _ _ (tup_ext e9 hA8)⟩
      · rintro σ H8 ⟨v6, rfl, G8, T8, hn8, ho8, hA8⟩
        have xz : Sht (.str (S x)) := sht_S (Nat.le_trans (by omega : x.length ≤ 100) (by decide))
        clear hA8 each sA
        have G20 := G8
        have T20 := T8
        have hn20 := hn8
        have ho20 := ho8
        have PR20 : Prs H8 [] := prs_nil
        clear G8 T8 hn8 ho8
        refine ⟨T20, fun Hx21 e21 Tx21 E21 Q21 ka21 kb21 => ?_⟩
        refine ⟨_, rfl, _, rfl, nv, ov, tn, to, rfl, tyb_ext hn20 e21, tyb_ext ho20 e21, zn, zo, .inl ⟨wn, fun Ha21 d21 sc21 nd21 => ka21 CW d21 pOne wWord _ upd_same (.inr (.inl ⟨rfl, rfl⟩)) fun H21 RR21 sd21 hp21 => ?_⟩⟩
        have sb21 : Same Hx21 H21 := fun x o e => sd21 _ _ (same_new nd21 _ _ (sc21 _ _ e))
        have G21 := (ga_extN G20 e21).same sb21
        have T21 := tabs_same Tx21 sb21
        have hn21 := tyb_same (tyb_ext hn20 e21) sb21
        have ho21 := tyb_same (tyb_ext ho20 e21) sb21
        have PR21 := prs_put (prs_same (prs_ext PR20 e21) sb21) hp21 okT_W okT_one
        clear ka21 kb21 G20 T20 hn20 ho20 PR20 Tx21
        refine ⟨T21, fun Hx22 e22 Tx22 E22 Q22 ka22 kb22 => ?_⟩
        refine ⟨_, rfl, _, rfl, .str (S x), ov, "str", to, rfl, .str _, tyb_ext ho21 e22, xz, zo, .inr (.inl ⟨hx, wo, fun Ha22 d22 sc22 nd22 => ka22 CW d22 pOther wWord _ upd_same (.inr (.inl ⟨rfl, rfl⟩)) fun H22 RR22 sd22 hp22 => ?_⟩)⟩
        have sb22 : Same Hx22 H22 := fun x o e => sd22 _ _ (same_new nd22 _ _ (sc22 _ _ e))
        have G22 := (ga_extN G21 e22).same sb22
        have T22 := tabs_same Tx22 sb22
        have hn22 := tyb_same (tyb_ext hn21 e22) sb22
        have ho22 := tyb_same (tyb_ext ho21 e22) sb22
        have PR22 := prs_put (prs_same (prs_ext PR21 e22) sb22) hp22 okT_W okT_other
        clear ka22 kb22 G21 T21 hn21 ho21 PR21 Tx22
        refine ⟨T22, fun Hx23 e23 Tx23 E23 Q23 ka23 kb23 => ?_⟩
        refine ⟨_, rfl, _, rfl, nv, .str (S x), tn, "str", rfl, tyb_ext hn22 e23, .str _, zn, xz, .inl ⟨wn, fun Ha23 d23 sc23 nd23 => ka23 CW d23 pOne wWord _ upd_same (.inr (.inl ⟨rfl, rfl⟩)) fun H23 RR23 sd23 hp23 => ?_⟩⟩
        have sb23 : Same Hx23 H23 := fun x o e => sd23 _ _ (same_new nd23 _ _ (sc23 _ _ e))
        have G23 := (ga_extN G22 e23).same sb23
        have T23 := tabs_same Tx23 sb23
        have hn23 := tyb_same (tyb_ext hn22 e23) sb23
        have ho23 := tyb_same (tyb_ext ho22 e23) sb23
        have PR23 := prs_put (prs_same (prs_ext PR22 e23) sb23) hp23 okT_W okT_one
        clear ka23 kb23 G22 T22 hn22 ho22 PR22 Tx23
        refine ⟨by show 3 ≤ sizeLine; decide, fun L nL => ?_⟩
        have sL := same_new (o := .lst [.ref RR21, .ref RR22, .ref RR23]) nL
        have T24 := tabs_same T23 sL
        have G24 := G23.same sL
        have hn24 := tyb_same hn23 sL
        have ho24 := tyb_same ho23 sL
        have PR24 := prs_same PR23 sL
        have hL24 : (upd H23 L (.lst [.ref RR21, .ref RR22, .ref RR23])) L = some (.lst [.ref RR21, .ref RR22, .ref RR23]) := upd_same
        refine nm_st (τ := [some (.ref a), some (.ref g), some (.int (0 + i)), some (.str (S x)), some nv, some ov, v6, some (.ref L), v8]) rfl ?_
        have nL24 : ∀ {z : Addr}, H23 z = none → True := fun _ => trivial
        obtain ⟨HX, eX⟩ : ∃ HX, HX = upd H23 L (.lst [.ref RR21, .ref RR22, .ref RR23]) := ⟨_, rfl⟩
        refine at_hp eX.symm ?_
        rw [← eX] at T24 G24 hn24 ho24 PR24 hL24
        clear eX sL nL T23 G23 hn23 ho23 PR23 nL24
        have x25 : isWd (x ++ [49, 48]) = true := isWd_mk (by rw [sg_app, x1]; rfl) (by rw [List.length_append]; show 2 ≤ x.length + 2; omega) (by rw [List.length_append]; show x.length + 2 ≤ 400; omega) (by rw [hgt_app, x2]; rfl)
        refine ⟨_, rfl, .inl ⟨rfl, _, SqL.of hL24⟩, T24, fun Hx25 e25 Tx25 E25 Q25 ka25 kb25 => ?_⟩
        refine ⟨_, rfl, _, rfl, _, _, rfl, rfl, Nat.le_trans (by show x.length + 2 ≤ 100; omega) (by decide), .str (S x), .str (S (x ++ [49, 48])), "str", "str", rfl, .str _, .str _, xz, sht_S (Nat.le_trans (by rw [List.length_append]; show x.length + 2 ≤ 100; omega) (by decide)), .inr (.inr ⟨x, x ++ [49, 48], rfl, rfl, hx, x25, (by rw [List.length_append]; show x.length ≠ x.length + 2; omega), fun Ha25 d25 sc25 nd25 => ka25 CM d25 pOther wMisfit _ upd_same (.inr (.inr ⟨rfl, rfl⟩)) fun H25 RR25 sd25 hp25 => ?_⟩)⟩
        have sb25 : Same Hx25 H25 := fun x o e => sd25 _ _ (same_new nd25 _ _ (sc25 _ _ e))
        have G25 := (ga_extN G24 e25).same sb25
        have T25 := tabs_same Tx25 sb25
        have hn25 := tyb_same (tyb_ext hn24 e25) sb25
        have ho25 := tyb_same (tyb_ext ho24 e25) sb25
        have PR25 := prs_put (prs_same (prs_ext PR24 e25) sb25) hp25 okT_M okT_other
        clear ka25 kb25 G24 T24 hn24 ho24 PR24 Tx25
        have hL25 := sb25 _ _ (lst_ext e25 hL24)
        refine ⟨L, _, _, rfl, rfl, hL25, by show 3 < _; decide, ?_⟩
        have G26 := ga_refs (o := .lst ([.ref RR21, .ref RR22, .ref RR23] ++ [.ref RR25])) G25 hL25 (fun b r z => by cases z)
        have T26 := tabs_put (o := .lst ([.ref RR21, .ref RR22, .ref RR23] ++ [.ref RR25])) T25 hL25
        have PR26 := prs_upd (o := .lst ([.ref RR21, .ref RR22, .ref RR23] ++ [.ref RR25])) PR25 hL25
        obtain ⟨H26, e26, hL26⟩ : ∃ H26, upd H25 L (.lst ([.ref RR21, .ref RR22, .ref RR23] ++ [.ref RR25])) = H26 ∧ H26 L = some (.lst [.ref RR21, .ref RR22, .ref RR23, .ref RR25]) := ⟨_, rfl, upd_same⟩
        rw [e26] at G26 T26 PR26
        rw [e26]
        clear e26 hL25 hL24 hn25 ho25 PR25 T25 G25
        refine ⟨_, rfl, by show 2 ≤ sizeLine; decide, fun p1 np1 => ⟨by show 2 ≤ sizeLine; decide, fun p2 np2 => ⟨by show 2 ≤ sizeLine; decide, fun p3 np3 => ⟨by show 2 ≤ sizeLine; decide, fun p4 np4 => ⟨by show 4 ≤ sizeLine; decide, fun L5 nL5 => ?_⟩⟩⟩⟩⟩
        obtain ⟨HG, eG, hL5, hp1, hp2, hp3, hp4, sG⟩ : ∃ HG, HG = upd (upd (upd (upd (upd H26 p1 (.tup [.str (S wWord), pOne])) p2 (.tup [.str (S wWord), pOther])) p3 (.tup [.str (S wWord), pOne])) p4 (.tup [.str (S wMisfit), pOther])) L5 (.lst [.ref p1, .ref p2, .ref p3, .ref p4]) ∧
            HG L5 = some (.lst [.ref p1, .ref p2, .ref p3, .ref p4]) ∧ HG p1 = some (.tup [.str (S wWord), pOne]) ∧ HG p2 = some (.tup [.str (S wWord), pOther]) ∧ HG p3 = some (.tup [.str (S wWord), pOne]) ∧ HG p4 = some (.tup [.str (S wMisfit), pOther]) ∧ Same H26 HG :=
          ⟨_, rfl, upd_same, same_new nL5 _ _ (same_new np4 _ _ (same_new np3 _ _ (same_new np2 _ _ upd_same))), same_new nL5 _ _ (same_new np4 _ _ (same_new np3 _ _ upd_same)), same_new nL5 _ _ (same_new np4 _ _ upd_same), same_new nL5 _ _ upd_same, ((same_new np1).trans (same_new np2)).trans (((same_new np3).trans (same_new np4)).trans (same_new nL5))⟩
        have PD : Prs HG [some (p1, wWord, [111, 110, 101]), some (p2, wWord, [111, 116, 104, 101, 114]), some (p3, wWord, [111, 110, 101]), some (p4, wMisfit, [111, 116, 104, 101, 114])] := by
          intro r hr
          simp only [List.mem_cons, List.not_mem_nil, or_false, Option.some.injEq, reduceCtorEq] at hr
          rcases hr with rfl | rfl | rfl | rfl
          · exact ⟨hp1, okT_W, okT_one⟩
          · exact ⟨hp2, okT_W, okT_other⟩
          · exact ⟨hp3, okT_W, okT_one⟩
          · exact ⟨hp4, okT_M, okT_other⟩
        have gA := prs_gd (K := K) (prs_same PR26 sG) (sG _ _ hL26) (by show 4 ≤ 100; decide)
        have gB := prs_gd (K := K) PD hL5 (by show 4 ≤ 100; decide)
        rw [eG] at gA gB
        refine ⟨_, _, gA, gB, _, rfl, ite_ne (eqv_gd' gB) ?_⟩
        refine at_hp eG.symm ?_
        have G27 := G26.same sG
        have T27 := tabs_same T26 sG
        clear gA gB PD eG hL5 hp1 hp2 hp3 hp4 sG G26 T26 PR26 hL26 np1 np2 np3 np4 nL5
        refine ⟨_, rfl, _, rfl, by show 1 ≤ sizeLine; decide, fun A1 nA1 => ⟨by show 1 ≤ sizeLine; decide, fun A2 nA2 => ⟨_, _, rfl, rfl, ⟨by decide, by decide, by decide⟩, by show 10 ≤ sizeLine; decide, fun L6 nL6 => ?_⟩⟩⟩
        have nA1g : A1 ≠ g := fun e => by
          subst e
          exact G27.some nA1
        have nA2g : A2 ≠ g := fun e => by
          subst e
          exact (G27.new nA1).some nA2
        have nLg : L6 ≠ g := fun e => by
          subst e
          exact ((G27.new nA1).new nA2).some nL6
        obtain ⟨HD, eD, h1', h2', sD⟩ : ∃ HD, HD = upd (upd (upd HG A1 (.tup [.int 3])) A2 (.lst [.int 2])) L6 (.lst [.int 0, .int 201, .int (-1), .non, .bl true, .bl false, .str (S [51]), .ref A1, .ref A2, .int (10 ^ (30 : Int).toNat)]) ∧ HD A1 = some (.tup [.int 3]) ∧ HD A2 = some (.lst [.int 2]) ∧ Same HG HD :=
          ⟨_, rfl, same_new nL6 _ _ (same_new nA2 _ _ upd_same), same_new nL6 _ _ upd_same, ((same_new nA1).trans (same_new nA2)).trans (same_new nL6)⟩
        refine ⟨g, L6, _, _, rfl, ((G27.new nA1).new nA2).new nL6, by omega, SqL.of upd_same, nLg, by show 0 < 10; decide, by show 10 < 1000; decide, fun HE bv hu fE GE => ?_⟩
        have fE : Fm g HD HE := by rw [eD]; exact fE
        have TE := tabs_fm (tabs_same T27 sD) fE (G27.same sD)
        have h1E := fE.k _ _ nA1g h1'
        have h2E := fE.k _ _ nA2g h2'
        obtain ⟨tb, hb, w1, w2⟩ : ∃ tb, TyB K HE bv tb ∧ isW bv (.int 1) (.int 200) = false ∧ isW bv (.int 1) (.int 9) = false := by
          simp only [List.mem_cons, List.not_mem_nil, or_false] at hu
          rcases hu with rfl | rfl | rfl | rfl | rfl | rfl | rfl | rfl | rfl | rfl
          · exact ⟨_, .int _, rfl, rfl⟩
          · exact ⟨_, .int _, rfl, rfl⟩
          · exact ⟨_, .int _, rfl, rfl⟩
          · exact ⟨_, .non, rfl, rfl⟩
          · exact ⟨_, .bl _, rfl, rfl⟩
          · exact ⟨_, .bl _, rfl, rfl⟩
          · exact ⟨_, .str _, rfl, rfl⟩
          · exact ⟨_, .tup (SqT.of h1E), rfl, rfl⟩
          · exact ⟨_, .lst (SqL.of h2E), rfl, rfl⟩
          · exact ⟨_, .int _, by decide, by decide⟩
        clear hu h1' h2' h1E h2E fE eD sD nL6 nA1 nA2 nLg nA1g nA2g G27 T27
        refine nm_st (τ := [some (.ref a), some (.ref g), some (.int (0 + i)), some (.str (S x)), some nv, some ov, v6, some (.ref L), some bv]) rfl ?_
        refine fun f1 h1 f2 h2 f3 h3 f4 h4 => ⟨by show 4 ≤ sizeLine; decide, fun A nA => ⟨A, rfl, ⟨_, SqT.of upd_same⟩, ?_⟩⟩
        have sA := same_new (o := .tup [.ref f1, .ref f2, .ref f3, .ref f4]) nA
        have each : ∀ (i : Nat) (x : V), ([.ref f1, .ref f2, .ref f3, .ref f4] : List V)[i]? = some x → ∃ ff, x = .ref ff ∧ HeldX P w K mg base 8 ff (spRo K CN) := by
          intro i x hx
          rcases i with _ | _ | _ | _ | i
          · exact ⟨f1, (Option.some.inj hx).symm, (h1.imp fun _ _ _ _ ⟨v, t, e1, e2, e3, _, e5⟩ => .inr ⟨v, t, e1, e2, e3, e5⟩).mono (by decide)⟩
          · exact ⟨f2, (Option.some.inj hx).symm, (h2.imp fun _ _ _ _ ⟨v, t, e1, e2, e3, _, e5⟩ => ⟨v, t, e1, e2, e3, e5⟩).mono (by decide)⟩
          · exact ⟨f3, (Option.some.inj hx).symm, (h3.imp fun _ _ _ _ ⟨v, t, e1, e2, e3, _, e5⟩ => .inr ⟨v, t, e1, e2, e3, e5⟩).mono (by decide)⟩
          · exact ⟨f4, (Option.some.inj hx).symm, (h4.imp fun _ _ _ _ ⟨v, t, e1, e2, _, e4, e5⟩ => ⟨v, t, e1, e2, e4, e5⟩).mono (by decide)⟩
          · cases hx
        refine for_tup (a := A) (xs := [.ref f1, .ref f2, .ref f3, .ref f4]) (fun j σ H' => ∃ v6, σ = [some (.ref a), some (.ref g), some (.int (0 + i)), some (.str (S x)), some nv, some ov, v6, some (.ref L), some bv] ∧ GA H' g (1000 * i + 600) ∧ Tabs TT H' ∧ TyB K H' bv tb ∧ H' A = some (.tup [.ref f1, .ref f2, .ref f3, .ref f4]))
          ⟨_, rfl, (GE.same sA).mono (by omega), tabs_same TE sA, tyb_same hb sA, upd_same⟩ (fun j σ H' _ h => ?_) ?_ ?_
        · obtain ⟨_, _, _, _, _, h⟩ := h
          exact SqT.of h
        · rintro j y σ H8 hy ⟨v6, rfl, G8, T8, hb8, hA8⟩
          obtain ⟨ff, rfl, held⟩ := each j y hy
          refine nm_st (τ := [some (.ref a), some (.ref g), some (.int (0 + i)), some (.str (S x)), some nv, some ov, some (.ref ff), some (.ref L), some bv]) rfl ?_
          refine ⟨T8, fun H9 e9 T9 E1 Q1 k1 k2 => ⟨ff, _, rfl, held, _, rfl, bv, tb, rfl, tyb_ext hb8 e9, w1, w2, fun Ha d s1 nd => k1 CN d pPairs wNumber _ upd_same (.inl ⟨rfl, rfl⟩) fun Hb p s2 hp => ?_⟩⟩
          have sb : Same H9 Hb := fun x o e => s2 _ _ (same_new nd _ _ (s1 _ _ e))
          refine ⟨by show 2 ≤ sizeLine; decide, fun B nB => ?_⟩
          have sB := same_new (o := .tup [.str (S wNumber), pPairs]) nB
          have gA := gd_two (K := K) (sB _ _ hp) okT_N okT_pairs
          have gB := gd_two (K := K) (H := upd Hb B (.tup [.str (S wNumber), pPairs])) (p := B) upd_same okT_N okT_pairs
          refine ⟨_, _, gA, gB, _, rfl, ite_ne (eqv_gd' gB) ?_⟩
          have sc := sb.trans sB
          exact ⟨_, rfl, (ga_extN G8 e9).same sc, tabs_same T9 sc, tyb_same (tyb_ext hb8 e9) sc, sc _ _ (tup_ext e9 hA8)⟩
        · rintro σ H8 ⟨v6, rfl, G8, T8, _, _⟩
          exact ⟨_, _, _, _, _, _, _, rfl, G8.mono (by omega), T8⟩
    · rintro σ H2 ⟨v2, v3, v4, v5, v6, v7, v8, rfl, G2, T2⟩
      refine ⟨T2, fun H9 e9 T9 E1 Q1 k1 k2 => ⟨.int 10, "int", rfl, .int _, by decide, fun Ha d s1 nd => k1 CN d pPairs wNumber _ upd_same (.inl ⟨rfl, rfl⟩) fun Hb p s2 hp => ?_⟩⟩
      refine ⟨by show 2 ≤ sizeLine; decide, fun B nB => ?_⟩
      have sB := same_new (o := .tup [.str (S wNumber), pPairs]) nB
      have gA := gd_two (K := K) (sB _ _ hp) okT_N okT_pairs
      have gB := gd_two (K := K) (H := upd Hb B (.tup [.str (S wNumber), pPairs])) (p := B) upd_same okT_N okT_pairs
      refine ⟨_, _, gA, gB, _, rfl, ite_ne (eqv_gd' gB) ?_⟩
      refine ⟨200, rfl, by decide, by decide, [49, 48], 200, rfl, rfl, by decide, by show 2 * 200 ≤ sizeLine; decide, by decide, _, _, rfl, rfl, _, rfl, ?_⟩
      rw [decide_eq_true rfl]
      refine iteT ?_
      refine ⟨[49], 200, rfl, rfl, by decide, by show 1 * 200 ≤ sizeLine; decide, by decide, [48], 200, rfl, rfl, by decide, by show 1 * 200 ≤ sizeLine; decide, by decide, _, _, rfl, rfl, by rw [rep_len, rep_len]; decide, _, rfl, line200, fun Hc R xs s3 hR hl => ⟨R, xs, rfl, .inr (SqT.of hR), rfl, _, rfl, ?_⟩⟩
      rw [line200c] at hl
      rw [decide_eq_true (show V.int ((xs.length : Nat) : Int) = V.int 200 by rw [hl]; rfl)]
      refine iteT ?_
      refine ⟨rfl, 200, rfl, by decide, by decide, fun Hd s4 => ⟨_, _, rfl, rfl, ⟨by decide, by decide, by decide⟩, _, _, rfl, rfl, ⟨by decide, by decide, by decide⟩, _, _, rfl, rfl, by unfold CMulW; decide +kernel, _, _, rfl, rfl, ?_⟩⟩
      have big := trees200
      dsimp only
      rw [decide_eq_true big]
      exact q _
end

/-! ### what the top has written, the end -/
theorem all_mk {l : PySem.W.OpenLaw} {w : World} {K : PySem.W.Frag} {h : Heap} {mg : Str → Option Value} {fa f0 f1 f2 f3 f4 f5 f6 f7 f8 f9 f10 f11 f12 f13 f14 f15 f16 f17 f18 f19 f20 f21 f22 f23 f24 f25 f26 f27 f28 f29 f30 f31 f32 f33 f34 : Addr} (X : K.In h) (G : h.Ns mainGlobals mg) (hfa : mg "law" = some (.ref fa))
    {od0 an0 od1 an1 od2 an2 od3 an3 od4 an4 od5 an5 od6 an6 od7 an7 od8 an8 od9 an9 od10 an10 od11 an11 od12 an12 od13 an13 od14 an14 od15 an15 od16 an16 od17 an17 od18 an18 od19 an19 od20 an20 od21 an21 od22 an22 od23 an23 od24 an24 od25 an25 od26 an26 od27 an27 od28 an28 od29 an29 od30 an30 od31 an31 od32 an32 od33 an33 od34 an34 : Option Addr} {sl0 sl1 sl2 sl3 sl4 sl5 sl6 sl7 sl8 sl9 sl10 sl11 sl12 sl13 sl14 sl15 sl16 sl17 sl18 sl19 sl20 sl21 sl22 sl23 sl24 sl25 sl26 sl27 sl28 sl29 sl30 sl31 sl32 sl33 sl34 : Array (Option Value)} {oc0 kV0 dc0 pm0 cd0 ct0 oc1 kV1 dc1 pm1 cd1 ct1 oc2 kV2 dc2 pm2 cd2 ct2 oc3 kV3 dc3 pm3 cd3 ct3 oc4 kV4 dc4 pm4 cd4 ct4 oc5 kV5 dc5 pm5 cd5 ct5 oc6 kV6 dc6 pm6 cd6 ct6 oc7 kV7 dc7 pm7 cd7 ct7 oc8 kV8 dc8 pm8 cd8 ct8 oc9 kV9 dc9 pm9 cd9 ct9 oc10 kV10 dc10 pm10 cd10 ct10 oc11 kV11 dc11 pm11 cd11 ct11 oc12 kV12 dc12 pm12 cd12 ct12 oc13 kV13 dc13 pm13 cd13 ct13 oc14 kV14 dc14 pm14 cd14 ct14 oc15 kV15 dc15 pm15 cd15 ct15 oc16 kV16 dc16 pm16 cd16 ct16 oc17 kV17 dc17 pm17 cd17 ct17 oc18 kV18 dc18 pm18 cd18 ct18 oc19 kV19 dc19 pm19 cd19 ct19 oc20 kV20 dc20 pm20 cd20 ct20 oc21 kV21 dc21 pm21 cd21 ct21 oc22 kV22 dc22 pm22 cd22 ct22 oc23 kV23 dc23 pm23 cd23 ct23 oc24 kV24 dc24 pm24 cd24 ct24 oc25 kV25 dc25 pm25 cd25 ct25 oc26 kV26 dc26 pm26 cd26 ct26 oc27 kV27 dc27 pm27 cd27 ct27 oc28 kV28 dc28 pm28 cd28 ct28 oc29 kV29 dc29 pm29 cd29 ct29 oc30 kV30 dc30 pm30 cd30 ct30 oc31 kV31 dc31 pm31 cd31 ct31 oc32 kV32 dc32 pm32 cd32 ct32 oc33 kV33 dc33 pm33 cd33 ct33 oc34 kV34 dc34 pm34 cd34 ct34 : Value}
    (a0 : PySem.W.nsIn K mainGlobals "is_integer" = some (some (.ref f0)))
    (l0 : K.lookup f0 = some ⟨oc0, od0, .func (PySem.W.fnOf "is_integer" "is_integer" (defArgs s_is_integer) (defBody s_is_integer) (defScope s_is_integer) .none kV0 dc0 pm0 an0 cd0 ct0), sl0⟩)
    (c0 : PySem.W.codeIn K cd0 "is_integer" = true) (k0 : PySem.W.keepIn K (.ref f0) = true)
    (a1 : PySem.W.nsIn K mainGlobals "is_within" = some (some (.ref f1)))
    (l1 : K.lookup f1 = some ⟨oc1, od1, .func (PySem.W.fnOf "is_within" "is_within" (defArgs s_is_within) (defBody s_is_within) (defScope s_is_within) .none kV1 dc1 pm1 an1 cd1 ct1), sl1⟩)
    (c1 : PySem.W.codeIn K cd1 "is_within" = true) (k1 : PySem.W.keepIn K (.ref f1) = true)
    (a2 : PySem.W.nsIn K mainGlobals "check_number" = some (some (.ref f2)))
    (l2 : K.lookup f2 = some ⟨oc2, od2, .func (PySem.W.fnOf "check_number" "check_number" (defArgs s_check_number) (defBody s_check_number) (defScope s_check_number) .none kV2 dc2 pm2 an2 cd2 ct2), sl2⟩)
    (c2 : PySem.W.codeIn K cd2 "check_number" = true) (k2 : PySem.W.keepIn K (.ref f2) = true)
    (a3 : PySem.W.nsIn K mainGlobals "check_pairs" = some (some (.ref f3)))
    (l3 : K.lookup f3 = some ⟨oc3, od3, .func (PySem.W.fnOf "check_pairs" "check_pairs" (defArgs s_check_pairs) (defBody s_check_pairs) (defScope s_check_pairs) .none kV3 dc3 pm3 an3 cd3 ct3), sl3⟩)
    (c3 : PySem.W.codeIn K cd3 "check_pairs" = true) (k3 : PySem.W.keepIn K (.ref f3) = true)
    (a4 : PySem.W.nsIn K mainGlobals "is_signs" = some (some (.ref f4)))
    (l4 : K.lookup f4 = some ⟨oc4, od4, .func (PySem.W.fnOf "is_signs" "is_signs" (defArgs s_is_signs) (defBody s_is_signs) (defScope s_is_signs) .none kV4 dc4 pm4 an4 cd4 ct4), sl4⟩)
    (c4 : PySem.W.codeIn K cd4 "is_signs" = true) (k4 : PySem.W.keepIn K (.ref f4) = true)
    (a5 : PySem.W.nsIn K mainGlobals "is_word" = some (some (.ref f5)))
    (l5 : K.lookup f5 = some ⟨oc5, od5, .func (PySem.W.fnOf "is_word" "is_word" (defArgs s_is_word) (defBody s_is_word) (defScope s_is_word) .none kV5 dc5 pm5 an5 cd5 ct5), sl5⟩)
    (c5 : PySem.W.codeIn K cd5 "is_word" = true) (k5 : PySem.W.keepIn K (.ref f5) = true)
    (a6 : PySem.W.nsIn K mainGlobals "check_word" = some (some (.ref f6)))
    (l6 : K.lookup f6 = some ⟨oc6, od6, .func (PySem.W.fnOf "check_word" "check_word" (defArgs s_check_word) (defBody s_check_word) (defScope s_check_word) .none kV6 dc6 pm6 an6 cd6 ct6), sl6⟩)
    (c6 : PySem.W.codeIn K cd6 "check_word" = true) (k6 : PySem.W.keepIn K (.ref f6) = true)
    (a7 : PySem.W.nsIn K mainGlobals "period" = some (some (.ref f7)))
    (l7 : K.lookup f7 = some ⟨oc7, od7, .func (PySem.W.fnOf "period" "period" (defArgs s_period) (defBody s_period) (defScope s_period) .none kV7 dc7 pm7 an7 cd7 ct7), sl7⟩)
    (c7 : PySem.W.codeIn K cd7 "period" = true) (k7 : PySem.W.keepIn K (.ref f7) = true)
    (a8 : PySem.W.nsIn K mainGlobals "turns_of" = some (some (.ref f8)))
    (l8 : K.lookup f8 = some ⟨oc8, od8, .func (PySem.W.fnOf "turns_of" "turns_of" (defArgs s_turns_of) (defBody s_turns_of) (defScope s_turns_of) .none kV8 dc8 pm8 an8 cd8 ct8), sl8⟩)
    (c8 : PySem.W.codeIn K cd8 "turns_of" = true) (k8 : PySem.W.keepIn K (.ref f8) = true)
    (a9 : PySem.W.nsIn K mainGlobals "mirrored_word" = some (some (.ref f9)))
    (l9 : K.lookup f9 = some ⟨oc9, od9, .func (PySem.W.fnOf "mirrored_word" "mirrored_word" (defArgs s_mirrored_word) (defBody s_mirrored_word) (defScope s_mirrored_word) .none kV9 dc9 pm9 an9 cd9 ct9), sl9⟩)
    (c9 : PySem.W.codeIn K cd9 "mirrored_word" = true) (k9 : PySem.W.keepIn K (.ref f9) = true)
    (a10 : PySem.W.nsIn K mainGlobals "_ways_on" = some (some (.ref f10)))
    (l10 : K.lookup f10 = some ⟨oc10, od10, .func (PySem.W.fnOf "_ways_on" "_ways_on" (defArgs s__ways_on) (defBody s__ways_on) (defScope s__ways_on) .none kV10 dc10 pm10 an10 cd10 ct10), sl10⟩)
    (c10 : PySem.W.codeIn K cd10 "_ways_on" = true) (k10 : PySem.W.keepIn K (.ref f10) = true)
    (a11 : PySem.W.nsIn K mainGlobals "how_many_words" = some (some (.ref f11)))
    (l11 : K.lookup f11 = some ⟨oc11, od11, .func (PySem.W.fnOf "how_many_words" "how_many_words" (defArgs s_how_many_words) (defBody s_how_many_words) (defScope s_how_many_words) .none kV11 dc11 pm11 an11 cd11 ct11), sl11⟩)
    (c11 : PySem.W.codeIn K cd11 "how_many_words" = true) (k11 : PySem.W.keepIn K (.ref f11) = true)
    (a12 : PySem.W.nsIn K mainGlobals "all_words" = some (some (.ref f12)))
    (l12 : K.lookup f12 = some ⟨oc12, od12, .func (PySem.W.fnOf "all_words" "all_words" (defArgs s_all_words) (defBody s_all_words) (defScope s_all_words) .none kV12 dc12 pm12 an12 cd12 ct12), sl12⟩)
    (c12 : PySem.W.codeIn K cd12 "all_words" = true) (k12 : PySem.W.keepIn K (.ref f12) = true)
    (a13 : PySem.W.nsIn K mainGlobals "name_of" = some (some (.ref f13)))
    (l13 : K.lookup f13 = some ⟨oc13, od13, .func (PySem.W.fnOf "name_of" "name_of" (defArgs s_name_of) (defBody s_name_of) (defScope s_name_of) .none kV13 dc13 pm13 an13 cd13 ct13), sl13⟩)
    (c13 : PySem.W.codeIn K cd13 "name_of" = true) (k13 : PySem.W.keepIn K (.ref f13) = true)
    (a14 : PySem.W.nsIn K mainGlobals "mirrored_tree" = some (some (.ref f14)))
    (l14 : K.lookup f14 = some ⟨oc14, od14, .func (PySem.W.fnOf "mirrored_tree" "mirrored_tree" (defArgs s_mirrored_tree) (defBody s_mirrored_tree) (defScope s_mirrored_tree) .none kV14 dc14 pm14 an14 cd14 ct14), sl14⟩)
    (c14 : PySem.W.codeIn K cd14 "mirrored_tree" = true) (k14 : PySem.W.keepIn K (.ref f14) = true)
    (a15 : PySem.W.nsIn K mainGlobals "are_one_tree" = some (some (.ref f15)))
    (l15 : K.lookup f15 = some ⟨oc15, od15, .func (PySem.W.fnOf "are_one_tree" "are_one_tree" (defArgs s_are_one_tree) (defBody s_are_one_tree) (defScope s_are_one_tree) .none kV15 dc15 pm15 an15 cd15 ct15), sl15⟩)
    (c15 : PySem.W.codeIn K cd15 "are_one_tree" = true) (k15 : PySem.W.keepIn K (.ref f15) = true)
    (a16 : PySem.W.nsIn K mainGlobals "star" = some (some (.ref f16)))
    (l16 : K.lookup f16 = some ⟨oc16, od16, .func (PySem.W.fnOf "star" "star" (defArgs s_star) (defBody s_star) (defScope s_star) .none kV16 dc16 pm16 an16 cd16 ct16), sl16⟩)
    (c16 : PySem.W.codeIn K cd16 "star" = true) (k16 : PySem.W.keepIn K (.ref f16) = true)
    (a17 : PySem.W.nsIn K mainGlobals "line" = some (some (.ref f17)))
    (l17 : K.lookup f17 = some ⟨oc17, od17, .func (PySem.W.fnOf "line" "line" (defArgs s_line) (defBody s_line) (defScope s_line) .none kV17 dc17 pm17 an17 cd17 ct17), sl17⟩)
    (c17 : PySem.W.codeIn K cd17 "line" = true) (k17 : PySem.W.keepIn K (.ref f17) = true)
    (a18 : PySem.W.nsIn K mainGlobals "_coprime" = some (some (.ref f18)))
    (l18 : K.lookup f18 = some ⟨oc18, od18, .func (PySem.W.fnOf "_coprime" "_coprime" (defArgs s__coprime) (defBody s__coprime) (defScope s__coprime) .none kV18 dc18 pm18 an18 cd18 ct18), sl18⟩)
    (c18 : PySem.W.codeIn K cd18 "_coprime" = true) (k18 : PySem.W.keepIn K (.ref f18) = true)
    (a19 : PySem.W.nsIn K mainGlobals "_with_place" = some (some (.ref f19)))
    (l19 : K.lookup f19 = some ⟨oc19, od19, .func (PySem.W.fnOf "_with_place" "_with_place" (defArgs s__with_place) (defBody s__with_place) (defScope s__with_place) .none kV19 dc19 pm19 an19 cd19 ct19), sl19⟩)
    (c19 : PySem.W.codeIn K cd19 "_with_place" = true) (k19 : PySem.W.keepIn K (.ref f19) = true)
    (a20 : PySem.W.nsIn K mainGlobals "_with_tie" = some (some (.ref f20)))
    (l20 : K.lookup f20 = some ⟨oc20, od20, .func (PySem.W.fnOf "_with_tie" "_with_tie" (defArgs s__with_tie) (defBody s__with_tie) (defScope s__with_tie) .none kV20 dc20 pm20 an20 cd20 ct20), sl20⟩)
    (c20 : PySem.W.codeIn K cd20 "_with_tie" = true) (k20 : PySem.W.keepIn K (.ref f20) = true)
    (a21 : PySem.W.nsIn K mainGlobals "how_many_trees" = some (some (.ref f21)))
    (l21 : K.lookup f21 = some ⟨oc21, od21, .func (PySem.W.fnOf "how_many_trees" "how_many_trees" (defArgs s_how_many_trees) (defBody s_how_many_trees) (defScope s_how_many_trees) .none kV21 dc21 pm21 an21 cd21 ct21), sl21⟩)
    (c21 : PySem.W.codeIn K cd21 "how_many_trees" = true) (k21 : PySem.W.keepIn K (.ref f21) = true)
    (a22 : PySem.W.nsIn K mainGlobals "all_trees" = some (some (.ref f22)))
    (l22 : K.lookup f22 = some ⟨oc22, od22, .func (PySem.W.fnOf "all_trees" "all_trees" (defArgs s_all_trees) (defBody s_all_trees) (defScope s_all_trees) .none kV22 dc22 pm22 an22 cd22 ct22), sl22⟩)
    (c22 : PySem.W.codeIn K cd22 "all_trees" = true) (k22 : PySem.W.keepIn K (.ref f22) = true)
    (a23 : PySem.W.nsIn K mainGlobals "ups_of" = some (some (.ref f23)))
    (l23 : K.lookup f23 = some ⟨oc23, od23, .func (PySem.W.fnOf "ups_of" "ups_of" (defArgs s_ups_of) (defBody s_ups_of) (defScope s_ups_of) .none kV23 dc23 pm23 an23 cd23 ct23), sl23⟩)
    (c23 : PySem.W.codeIn K cd23 "ups_of" = true) (k23 : PySem.W.keepIn K (.ref f23) = true)
    (a24 : PySem.W.nsIn K mainGlobals "ways_from" = some (some (.ref f24)))
    (l24 : K.lookup f24 = some ⟨oc24, od24, .func (PySem.W.fnOf "ways_from" "ways_from" (defArgs s_ways_from) (defBody s_ways_from) (defScope s_ways_from) .none kV24 dc24 pm24 an24 cd24 ct24), sl24⟩)
    (c24 : PySem.W.codeIn K cd24 "ways_from" = true) (k24 : PySem.W.keepIn K (.ref f24) = true)
    (a25 : PySem.W.nsIn K mainGlobals "least_sum" = some (some (.ref f25)))
    (l25 : K.lookup f25 = some ⟨oc25, od25, .func (PySem.W.fnOf "least_sum" "least_sum" (defArgs s_least_sum) (defBody s_least_sum) (defScope s_least_sum) .none kV25 dc25 pm25 an25 cd25 ct25), sl25⟩)
    (c25 : PySem.W.codeIn K cd25 "least_sum" = true) (k25 : PySem.W.keepIn K (.ref f25) = true)
    (a26 : PySem.W.nsIn K mainGlobals "middles" = some (some (.ref f26)))
    (l26 : K.lookup f26 = some ⟨oc26, od26, .func (PySem.W.fnOf "middles" "middles" (defArgs s_middles) (defBody s_middles) (defScope s_middles) .none kV26 dc26 pm26 an26 cd26 ct26), sl26⟩)
    (c26 : PySem.W.codeIn K cd26 "middles" = true) (k26 : PySem.W.keepIn K (.ref f26) = true)
    (a27 : PySem.W.nsIn K mainGlobals "leaves" = some (some (.ref f27)))
    (l27 : K.lookup f27 = some ⟨oc27, od27, .func (PySem.W.fnOf "leaves" "leaves" (defArgs s_leaves) (defBody s_leaves) (defScope s_leaves) .none kV27 dc27 pm27 an27 cd27 ct27), sl27⟩)
    (c27 : PySem.W.codeIn K cd27 "leaves" = true) (k27 : PySem.W.keepIn K (.ref f27) = true)
    (a28 : PySem.W.nsIn K mainGlobals "_law_gate" = some (some (.ref f28)))
    (l28 : K.lookup f28 = some ⟨oc28, od28, .func (PySem.W.fnOf "_law_gate" "_law_gate" (defArgs s__law_gate) (defBody s__law_gate) (defScope s__law_gate) .none kV28 dc28 pm28 an28 cd28 ct28), sl28⟩)
    (c28 : PySem.W.codeIn K cd28 "_law_gate" = true) (k28 : PySem.W.keepIn K (.ref f28) = true)
    (a29 : PySem.W.nsIn K mainGlobals "_law_latch" = some (some (.ref f29)))
    (l29 : K.lookup f29 = some ⟨oc29, od29, .func (PySem.W.fnOf "_law_latch" "_law_latch" (defArgs s__law_latch) (defBody s__law_latch) (defScope s__law_latch) .none kV29 dc29 pm29 an29 cd29 ct29), sl29⟩)
    (c29 : PySem.W.codeIn K cd29 "_law_latch" = true) (k29 : PySem.W.keepIn K (.ref f29) = true)
    (a30 : PySem.W.nsIn K mainGlobals "_law_one_of" = some (some (.ref f30)))
    (l30 : K.lookup f30 = some ⟨oc30, od30, .func (PySem.W.fnOf "_law_one_of" "_law_one_of" (defArgs s__law_one_of) (defBody s__law_one_of) (defScope s__law_one_of) .none kV30 dc30 pm30 an30 cd30 ct30), sl30⟩)
    (c30 : PySem.W.codeIn K cd30 "_law_one_of" = true) (k30 : PySem.W.keepIn K (.ref f30) = true)
    (a31 : PySem.W.nsIn K mainGlobals "_law_word" = some (some (.ref f31)))
    (l31 : K.lookup f31 = some ⟨oc31, od31, .func (PySem.W.fnOf "_law_word" "_law_word" (defArgs s__law_word) (defBody s__law_word) (defScope s__law_word) .none kV31 dc31 pm31 an31 cd31 ct31), sl31⟩)
    (c31 : PySem.W.codeIn K cd31 "_law_word" = true) (k31 : PySem.W.keepIn K (.ref f31) = true)
    (a32 : PySem.W.nsIn K mainGlobals "_law_no_word" = some (some (.ref f32)))
    (l32 : K.lookup f32 = some ⟨oc32, od32, .func (PySem.W.fnOf "_law_no_word" "_law_no_word" (defArgs s__law_no_word) (defBody s__law_no_word) (defScope s__law_no_word) .none kV32 dc32 pm32 an32 cd32 ct32), sl32⟩)
    (c32 : PySem.W.codeIn K cd32 "_law_no_word" = true) (k32 : PySem.W.keepIn K (.ref f32) = true)
    (a33 : PySem.W.nsIn K mainGlobals "_law_heard" = some (some (.ref f33)))
    (l33 : K.lookup f33 = some ⟨oc33, od33, .func (PySem.W.fnOf "_law_heard" "_law_heard" (defArgs s__law_heard) (defBody s__law_heard) (defScope s__law_heard) .none kV33 dc33 pm33 an33 cd33 ct33), sl33⟩)
    (c33 : PySem.W.codeIn K cd33 "_law_heard" = true) (k33 : PySem.W.keepIn K (.ref f33) = true)
    (a34 : PySem.W.nsIn K mainGlobals "law" = some (some (.ref f34)))
    (l34 : K.lookup f34 = some ⟨oc34, od34, .func (PySem.W.fnOf "law" "law" (defArgs s_law) (defBody s_law) (defScope s_law) .none kV34 dc34 pm34 an34 cd34 ct34), sl34⟩)
    (c34 : PySem.W.codeIn K cd34 "law" = true) (k34 : PySem.W.keepIn K (.ref f34) = true)
    (z_abs : PySem.W.nsIn K mainGlobals "abs" = some none)
    (z_bool : PySem.W.nsIn K mainGlobals "bool" = some none)
    (z_int : PySem.W.nsIn K mainGlobals "int" = some none)
    (z_isinstance : PySem.W.nsIn K mainGlobals "isinstance" = some none)
    (z_len : PySem.W.nsIn K mainGlobals "len" = some none)
    (z_list : PySem.W.nsIn K mainGlobals "list" = some none)
    (z_min : PySem.W.nsIn K mainGlobals "min" = some none)
    (z_range : PySem.W.nsIn K mainGlobals "range" = some none)
    (z_repr : PySem.W.nsIn K mainGlobals "repr" = some none)
    (z_str : PySem.W.nsIn K mainGlobals "str" = some none)
    (z_sum : PySem.W.nsIn K mainGlobals "sum" = some none)
    (z_tuple : PySem.W.nsIn K mainGlobals "tuple" = some none)
    {u_MOST_PAIRS : Value} (w_MOST_PAIRS : PySem.W.nsIn K mainGlobals "MOST_PAIRS" = some (some u_MOST_PAIRS)) (r_MOST_PAIRS : RelV (.int 200) u_MOST_PAIRS)
    {u_MOST_PAIRS_OF_WORDS : Value} (w_MOST_PAIRS_OF_WORDS : PySem.W.nsIn K mainGlobals "MOST_PAIRS_OF_WORDS" = some (some u_MOST_PAIRS_OF_WORDS)) (r_MOST_PAIRS_OF_WORDS : RelV (.int 9) u_MOST_PAIRS_OF_WORDS)
    (b_comb : PySem.W.nsIn K mainGlobals "comb" = some (some (.builtin "math.comb")))
    (b_gcd : PySem.W.nsIn K mainGlobals "gcd" = some (some (.builtin "math.gcd")))
    {C_HalfError : Addr}
    (hB_g : PySem.W.nsIn K mainGlobals "HalfError" = some (some (.ref C_HalfError)))
    (hB_e : PySem.W.subIn K (.ref C_HalfError) (.type "BaseException") = some true)
    (hB_d : PySem.W.hasDictIn K C_HalfError = true)
    (hB_t : PySem.W.typeIn K (.ref C_HalfError) = some (.type "type"))
    {C_BadNumber fI_BadNumber : Addr} {nm_BadNumber q_BadNumber : Str} {N_BadNumber_ : Addr} {bs_BadNumber : List Value} {sn_BadNumber : List Str} {su_BadNumber : List Value} {ab_BadNumber : Bool} {co_BadNumber : Option Bool} {dd_BadNumber : Option Addr} {m0_BadNumber m1_BadNumber m2_BadNumber m3_BadNumber m5_BadNumber : Option Value} {oc_BadNumber kV_BadNumber dc_BadNumber pm_BadNumber cd_BadNumber ct_BadNumber : Value} {od_BadNumber an_BadNumber : Option Addr} {sl_BadNumber : Array (Option Value)}
    (hg_BadNumber : PySem.W.nsIn K mainGlobals "BadNumber" = some (some (.ref C_BadNumber)))
    (hl_BadNumber : K.lookup C_BadNumber = some (excClassObj nm_BadNumber q_BadNumber C_BadNumber N_BadNumber_ bs_BadNumber [.ref C_HalfError, .type "ValueError", .type "Exception", .type "BaseException", .type "object"] true sn_BadNumber su_BadNumber ab_BadNumber co_BadNumber dd_BadNumber m0_BadNumber m1_BadNumber m2_BadNumber m3_BadNumber m5_BadNumber "ValueError.__new__"))
    (hs_BadNumber : PySem.W.findIn K (.ref C_BadNumber) "__setattr__" = some (some (.builtin "object.__setattr__")))
    (ha_BadNumber : PySem.W.findIn K (.ref C_BadNumber) "__getattribute__" = some (some (.builtin "BaseException.__getattribute__")))
    (hh_BadNumber : PySem.W.findIn K (.ref C_BadNumber) "__getattr__" = some none)
    (hn_BadNumber_part : PySem.W.findIn K (.ref C_BadNumber) "part" = some none)
    (hi_BadNumber : PySem.W.findIn K (.ref C_BadNumber) "__init__" = some (some (.ref fI_BadNumber)))
    (ht_BadNumber : PySem.W.typeIn K (.ref fI_BadNumber) = some (.type "function"))
    (hf_BadNumber : K.lookup fI_BadNumber = some ⟨oc_BadNumber, od_BadNumber, .func (PySem.W.fnOf "__init__" "BadNumber.__init__" (defArgs i_BadNumber) (defBody i_BadNumber) (defScope i_BadNumber) .none kV_BadNumber dc_BadNumber pm_BadNumber an_BadNumber cd_BadNumber ct_BadNumber), sl_BadNumber⟩)
    (hc_BadNumber : PySem.W.codeIn K cd_BadNumber "BadNumber.__init__" = true)
    (hq_BadNumber : PySem.W.keepIn K (.ref fI_BadNumber) = true)
    (hk_BadNumber : PySem.W.keepIn K (.ref C_BadNumber) = true)
    (he_BadNumber : PySem.W.subIn K (.ref C_BadNumber) (.type "BaseException") = some true)
    (hy_BadNumber : PySem.W.typeIn K (.ref C_BadNumber) = some (.type "type"))
    (hd_BadNumber : PySem.W.hasDictIn K C_BadNumber = true)
    (hw_BadNumber : PySem.W.findIn K (.ref C_BadNumber) "__class__" = some (some (.builtin "object.__class__")))
    (hx_BadNumber : PySem.W.specialIn K (.builtin "object.__class__") "__get__" = some (some (.builtin "getset_descriptor.__get__")))
    (hz_BadNumber : PySem.W.takesIn K (.builtin "object.__class__") = some true)
    (hm_BadNumber : PySem.W.mroIn K C_BadNumber (.type "object") = some true)
    (hv_BadNumber : PySem.W.isClsIn K C_BadNumber = true)
    (hu_BadNumber : PySem.W.subIn K (.ref C_BadNumber) (.ref C_HalfError) = some true)
    (oN_BadNumber : PySem.W.kitOne K (.type "NoneType") (.ref C_BadNumber) = some false)
    {C_BadWord fI_BadWord : Addr} {nm_BadWord q_BadWord : Str} {N_BadWord_ : Addr} {bs_BadWord : List Value} {sn_BadWord : List Str} {su_BadWord : List Value} {ab_BadWord : Bool} {co_BadWord : Option Bool} {dd_BadWord : Option Addr} {m0_BadWord m1_BadWord m2_BadWord m3_BadWord m5_BadWord : Option Value} {oc_BadWord kV_BadWord dc_BadWord pm_BadWord cd_BadWord ct_BadWord : Value} {od_BadWord an_BadWord : Option Addr} {sl_BadWord : Array (Option Value)}
    (hg_BadWord : PySem.W.nsIn K mainGlobals "BadWord" = some (some (.ref C_BadWord)))
    (hl_BadWord : K.lookup C_BadWord = some (excClassObj nm_BadWord q_BadWord C_BadWord N_BadWord_ bs_BadWord [.ref C_HalfError, .type "ValueError", .type "Exception", .type "BaseException", .type "object"] true sn_BadWord su_BadWord ab_BadWord co_BadWord dd_BadWord m0_BadWord m1_BadWord m2_BadWord m3_BadWord m5_BadWord "ValueError.__new__"))
    (hs_BadWord : PySem.W.findIn K (.ref C_BadWord) "__setattr__" = some (some (.builtin "object.__setattr__")))
    (ha_BadWord : PySem.W.findIn K (.ref C_BadWord) "__getattribute__" = some (some (.builtin "BaseException.__getattribute__")))
    (hh_BadWord : PySem.W.findIn K (.ref C_BadWord) "__getattr__" = some none)
    (hn_BadWord_part : PySem.W.findIn K (.ref C_BadWord) "part" = some none)
    (hi_BadWord : PySem.W.findIn K (.ref C_BadWord) "__init__" = some (some (.ref fI_BadWord)))
    (ht_BadWord : PySem.W.typeIn K (.ref fI_BadWord) = some (.type "function"))
    (hf_BadWord : K.lookup fI_BadWord = some ⟨oc_BadWord, od_BadWord, .func (PySem.W.fnOf "__init__" "BadWord.__init__" (defArgs i_BadWord) (defBody i_BadWord) (defScope i_BadWord) .none kV_BadWord dc_BadWord pm_BadWord an_BadWord cd_BadWord ct_BadWord), sl_BadWord⟩)
    (hc_BadWord : PySem.W.codeIn K cd_BadWord "BadWord.__init__" = true)
    (hq_BadWord : PySem.W.keepIn K (.ref fI_BadWord) = true)
    (hk_BadWord : PySem.W.keepIn K (.ref C_BadWord) = true)
    (he_BadWord : PySem.W.subIn K (.ref C_BadWord) (.type "BaseException") = some true)
    (hy_BadWord : PySem.W.typeIn K (.ref C_BadWord) = some (.type "type"))
    (hd_BadWord : PySem.W.hasDictIn K C_BadWord = true)
    (hw_BadWord : PySem.W.findIn K (.ref C_BadWord) "__class__" = some (some (.builtin "object.__class__")))
    (hx_BadWord : PySem.W.specialIn K (.builtin "object.__class__") "__get__" = some (some (.builtin "getset_descriptor.__get__")))
    (hz_BadWord : PySem.W.takesIn K (.builtin "object.__class__") = some true)
    (hm_BadWord : PySem.W.mroIn K C_BadWord (.type "object") = some true)
    (hv_BadWord : PySem.W.isClsIn K C_BadWord = true)
    (hu_BadWord : PySem.W.subIn K (.ref C_BadWord) (.ref C_HalfError) = some true)
    (oN_BadWord : PySem.W.kitOne K (.type "NoneType") (.ref C_BadWord) = some false)
    {C_Misfit fI_Misfit : Addr} {nm_Misfit q_Misfit : Str} {N_Misfit_ : Addr} {bs_Misfit : List Value} {sn_Misfit : List Str} {su_Misfit : List Value} {ab_Misfit : Bool} {co_Misfit : Option Bool} {dd_Misfit : Option Addr} {m0_Misfit m1_Misfit m2_Misfit m3_Misfit m5_Misfit : Option Value} {oc_Misfit kV_Misfit dc_Misfit pm_Misfit cd_Misfit ct_Misfit : Value} {od_Misfit an_Misfit : Option Addr} {sl_Misfit : Array (Option Value)}
    (hg_Misfit : PySem.W.nsIn K mainGlobals "Misfit" = some (some (.ref C_Misfit)))
    (hl_Misfit : K.lookup C_Misfit = some (excClassObj nm_Misfit q_Misfit C_Misfit N_Misfit_ bs_Misfit [.ref C_HalfError, .type "ValueError", .type "Exception", .type "BaseException", .type "object"] true sn_Misfit su_Misfit ab_Misfit co_Misfit dd_Misfit m0_Misfit m1_Misfit m2_Misfit m3_Misfit m5_Misfit "ValueError.__new__"))
    (hs_Misfit : PySem.W.findIn K (.ref C_Misfit) "__setattr__" = some (some (.builtin "object.__setattr__")))
    (ha_Misfit : PySem.W.findIn K (.ref C_Misfit) "__getattribute__" = some (some (.builtin "BaseException.__getattribute__")))
    (hh_Misfit : PySem.W.findIn K (.ref C_Misfit) "__getattr__" = some none)
    (hn_Misfit_part : PySem.W.findIn K (.ref C_Misfit) "part" = some none)
    (hi_Misfit : PySem.W.findIn K (.ref C_Misfit) "__init__" = some (some (.ref fI_Misfit)))
    (ht_Misfit : PySem.W.typeIn K (.ref fI_Misfit) = some (.type "function"))
    (hf_Misfit : K.lookup fI_Misfit = some ⟨oc_Misfit, od_Misfit, .func (PySem.W.fnOf "__init__" "Misfit.__init__" (defArgs i_Misfit) (defBody i_Misfit) (defScope i_Misfit) .none kV_Misfit dc_Misfit pm_Misfit an_Misfit cd_Misfit ct_Misfit), sl_Misfit⟩)
    (hc_Misfit : PySem.W.codeIn K cd_Misfit "Misfit.__init__" = true)
    (hq_Misfit : PySem.W.keepIn K (.ref fI_Misfit) = true)
    (hk_Misfit : PySem.W.keepIn K (.ref C_Misfit) = true)
    (he_Misfit : PySem.W.subIn K (.ref C_Misfit) (.type "BaseException") = some true)
    (hy_Misfit : PySem.W.typeIn K (.ref C_Misfit) = some (.type "type"))
    (hd_Misfit : PySem.W.hasDictIn K C_Misfit = true)
    (hw_Misfit : PySem.W.findIn K (.ref C_Misfit) "__class__" = some (some (.builtin "object.__class__")))
    (hx_Misfit : PySem.W.specialIn K (.builtin "object.__class__") "__get__" = some (some (.builtin "getset_descriptor.__get__")))
    (hz_Misfit : PySem.W.takesIn K (.builtin "object.__class__") = some true)
    (hm_Misfit : PySem.W.mroIn K C_Misfit (.type "object") = some true)
    (hv_Misfit : PySem.W.isClsIn K C_Misfit = true)
    (hu_Misfit : PySem.W.subIn K (.ref C_Misfit) (.ref C_HalfError) = some true)
    (oN_Misfit : PySem.W.kitOne K (.type "NoneType") (.ref C_Misfit) = some false)
    (o_BadNumber_BadWord : PySem.W.kitOne K (.ref C_BadNumber) (.ref C_BadWord) = some false)
    (o_BadNumber_Misfit : PySem.W.kitOne K (.ref C_BadNumber) (.ref C_Misfit) = some false)
    (o_BadWord_BadNumber : PySem.W.kitOne K (.ref C_BadWord) (.ref C_BadNumber) = some false)
    (o_BadWord_Misfit : PySem.W.kitOne K (.ref C_BadWord) (.ref C_Misfit) = some false)
    (o_Misfit_BadNumber : PySem.W.kitOne K (.ref C_Misfit) (.ref C_BadNumber) = some false)
    (o_Misfit_BadWord : PySem.W.kitOne K (.ref C_Misfit) (.ref C_BadWord) = some false)
    {TS : List Addr} (tabs0 : ∀ p ∈ TS, h.get? p = some { cls := .none, data := .fields #[] })
    {cA_law PA_law : Addr} {oA_law : Value} {dA_law : Option Addr} {vA_law : Array Value} {sA_law : Array (Option Value)} (jc_law : cd34 = .ref cA_law) (jl_law : K.lookup cA_law = some ⟨oA_law, dA_law, .fields vA_law, sA_law⟩) (jp_law : (vA_law[11]? : Option Value) = some (.ref PA_law)) (jh_law : PySem.W.codeHdIn K cA_law PA_law = true) (jn_law : K.lookup PA_law = none) (jt_law : PA_law ∈ TS)
    : ∃ (fd : FuncData) (cs : List (Addr × Addr)), (∀ p ∈ cs, h.get? p.2 = some { cls := .none, data := .fields #[] }) ∧ (∀ p ∈ cs, K.lookup p.2 = none) ∧ (∀ p ∈ cs, PySem.W.CodeHd h p.1 p.2) ∧ (∀ (s : Shared) (v : Value), BindsTo s fd ⟨[v], []⟩ [("script", v)]) ∧ ∀ base : Heap, K.In base → base.Ns mainGlobals mg → (∀ p ∈ cs, TabB base mg p.1 p.2) → FnG l.prog w K mg base CX0 14 fa fd ["script"] (spLaw K cs) := by
  have e := hfa.symm.trans (PySem.W.mg_of X G a34)
  cases e
  have T : Txt K mg := ⟨PySem.W.mg_none_of X G z_abs, PySem.W.mg_none_of X G z_bool, PySem.W.mg_none_of X G z_int, PySem.W.mg_none_of X G z_isinstance, PySem.W.mg_none_of X G z_len, PySem.W.mg_none_of X G z_list, PySem.W.mg_none_of X G z_min, PySem.W.mg_none_of X G z_range, PySem.W.mg_none_of X G z_repr, PySem.W.mg_none_of X G z_str, PySem.W.mg_none_of X G z_sum, PySem.W.mg_none_of X G z_tuple, ⟨_, PySem.W.mg_of X G w_MOST_PAIRS, r_MOST_PAIRS⟩, ⟨_, PySem.W.mg_of X G w_MOST_PAIRS_OF_WORDS, r_MOST_PAIRS_OF_WORDS⟩, PySem.W.mg_of X G b_comb, PySem.W.mg_of X G b_gcd⟩
  have b_HalfError := PySem.W.mg_of X G hB_g
  have m_BadNumber := PySem.W.exm_ref hB_e hB_d hB_t hu_BadNumber
  have ox_BadNumber : OexC K C_BadNumber := ⟨⟨nm_BadNumber, q_BadNumber, N_BadNumber_, bs_BadNumber, _, sn_BadNumber, su_BadNumber, ab_BadNumber, co_BadNumber, dd_BadNumber, m0_BadNumber, m1_BadNumber, m2_BadNumber, m3_BadNumber, m5_BadNumber, hl_BadNumber, rfl⟩, hs_BadNumber, he_BadNumber, hy_BadNumber, hk_BadNumber⟩
  have FI_BadNumber := fun_mk (st := i_BadNumber) hf_BadNumber hc_BadNumber hq_BadNumber
  have bI_BadNumber := FI_BadNumber.binds (ps := ["self", "part"]) fun _ _ _ _ _ _ us hl => match us, hl with | [_, _], _ => rfl
  have m_BadWord := PySem.W.exm_ref hB_e hB_d hB_t hu_BadWord
  have ox_BadWord : OexC K C_BadWord := ⟨⟨nm_BadWord, q_BadWord, N_BadWord_, bs_BadWord, _, sn_BadWord, su_BadWord, ab_BadWord, co_BadWord, dd_BadWord, m0_BadWord, m1_BadWord, m2_BadWord, m3_BadWord, m5_BadWord, hl_BadWord, rfl⟩, hs_BadWord, he_BadWord, hy_BadWord, hk_BadWord⟩
  have FI_BadWord := fun_mk (st := i_BadWord) hf_BadWord hc_BadWord hq_BadWord
  have bI_BadWord := FI_BadWord.binds (ps := ["self", "part"]) fun _ _ _ _ _ _ us hl => match us, hl with | [_, _], _ => rfl
  have m_Misfit := PySem.W.exm_ref hB_e hB_d hB_t hu_Misfit
  have ox_Misfit : OexC K C_Misfit := ⟨⟨nm_Misfit, q_Misfit, N_Misfit_, bs_Misfit, _, sn_Misfit, su_Misfit, ab_Misfit, co_Misfit, dd_Misfit, m0_Misfit, m1_Misfit, m2_Misfit, m3_Misfit, m5_Misfit, hl_Misfit, rfl⟩, hs_Misfit, he_Misfit, hy_Misfit, hk_Misfit⟩
  have FI_Misfit := fun_mk (st := i_Misfit) hf_Misfit hc_Misfit hq_Misfit
  have bI_Misfit := FI_Misfit.binds (ps := ["self", "part"]) fun _ _ _ _ _ _ us hl => match us, hl with | [_, _], _ => rfl
  have o_BadNumber_BadNumber : PySem.W.kitOne K (.ref C_BadNumber) (.ref C_BadNumber) = some true := kit_self
  have o_BadWord_BadWord : PySem.W.kitOne K (.ref C_BadWord) (.ref C_BadWord) = some true := kit_self
  have o_Misfit_Misfit : PySem.W.kitOne K (.ref C_Misfit) (.ref C_Misfit) = some true := kit_self
  have F0 := fun_mk (st := s_is_integer) l0 c0 k0
  have b0 := F0.binds (ps := ["value"]) fun _ _ _ _ _ _ us hl => match us, hl with | [_], _ => rfl
  have F1 := fun_mk (st := s_is_within) l1 c1 k1
  have b1 := F1.binds (ps := ["value", "least", "most"]) fun _ _ _ _ _ _ us hl => match us, hl with | [_, _, _], _ => rfl
  have F2 := fun_mk (st := s_check_number) l2 c2 k2
  have b2 := F2.binds (ps := ["value", "least", "most", "part"]) fun _ _ _ _ _ _ us hl => match us, hl with | [_, _, _, _], _ => rfl
  have F3 := fun_mk (st := s_check_pairs) l3 c3 k3
  have b3 := F3.binds (ps := ["pairs"]) fun _ _ _ _ _ _ us hl => match us, hl with | [_], _ => rfl
  have F4 := fun_mk (st := s_is_signs) l4 c4 k4
  have b4 := F4.binds (ps := ["value"]) fun _ _ _ _ _ _ us hl => match us, hl with | [_], _ => rfl
  have F5 := fun_mk (st := s_is_word) l5 c5 k5
  have b5 := F5.binds (ps := ["value"]) fun _ _ _ _ _ _ us hl => match us, hl with | [_], _ => rfl
  have F6 := fun_mk (st := s_check_word) l6 c6 k6
  have b6 := F6.binds (ps := ["value", "part"]) fun _ _ _ _ _ _ us hl => match us, hl with | [_, _], _ => rfl
  have F7 := fun_mk (st := s_period) l7 c7 k7
  have b7 := F7.binds (ps := ["word"]) fun _ _ _ _ _ _ us hl => match us, hl with | [_], _ => rfl
  have F8 := fun_mk (st := s_turns_of) l8 c8 k8
  have b8 := F8.binds (ps := ["word"]) fun _ _ _ _ _ _ us hl => match us, hl with | [_], _ => rfl
  have F9 := fun_mk (st := s_mirrored_word) l9 c9 k9
  have b9 := F9.binds (ps := ["word"]) fun _ _ _ _ _ _ us hl => match us, hl with | [_], _ => rfl
  have F10 := fun_mk (st := s__ways_on) l10 c10 k10
  have b10 := F10.binds (ps := ["ones", "zeros"]) fun _ _ _ _ _ _ us hl => match us, hl with | [_, _], _ => rfl
  have F11 := fun_mk (st := s_how_many_words) l11 c11 k11
  have b11 := F11.binds (ps := ["pairs"]) fun _ _ _ _ _ _ us hl => match us, hl with | [_], _ => rfl
  have F12 := fun_mk (st := s_all_words) l12 c12 k12
  have b12 := F12.binds (ps := ["pairs"]) fun _ _ _ _ _ _ us hl => match us, hl with | [_], _ => rfl
  have F13 := fun_mk (st := s_name_of) l13 c13 k13
  have b13 := F13.binds (ps := ["word"]) fun _ _ _ _ _ _ us hl => match us, hl with | [_], _ => rfl
  have F14 := fun_mk (st := s_mirrored_tree) l14 c14 k14
  have b14 := F14.binds (ps := ["word"]) fun _ _ _ _ _ _ us hl => match us, hl with | [_], _ => rfl
  have F15 := fun_mk (st := s_are_one_tree) l15 c15 k15
  have b15 := F15.binds (ps := ["one", "other"]) fun _ _ _ _ _ _ us hl => match us, hl with | [_, _], _ => rfl
  have F16 := fun_mk (st := s_star) l16 c16 k16
  have b16 := F16.binds (ps := ["pairs"]) fun _ _ _ _ _ _ us hl => match us, hl with | [_], _ => rfl
  have F17 := fun_mk (st := s_line) l17 c17 k17
  have b17 := F17.binds (ps := ["pairs"]) fun _ _ _ _ _ _ us hl => match us, hl with | [_], _ => rfl
  have F18 := fun_mk (st := s__coprime) l18 c18 k18
  have b18 := F18.binds (ps := ["number"]) fun _ _ _ _ _ _ us hl => match us, hl with | [_], _ => rfl
  have F19 := fun_mk (st := s__with_place) l19 c19 k19
  have b19 := F19.binds (ps := ["pairs"]) fun _ _ _ _ _ _ us hl => match us, hl with | [_], _ => rfl
  have F20 := fun_mk (st := s__with_tie) l20 c20 k20
  have b20 := F20.binds (ps := ["pairs"]) fun _ _ _ _ _ _ us hl => match us, hl with | [_], _ => rfl
  have F21 := fun_mk (st := s_how_many_trees) l21 c21 k21
  have b21 := F21.binds (ps := ["pairs"]) fun _ _ _ _ _ _ us hl => match us, hl with | [_], _ => rfl
  have F22 := fun_mk (st := s_all_trees) l22 c22 k22
  have b22 := F22.binds (ps := ["pairs"]) fun _ _ _ _ _ _ us hl => match us, hl with | [_], _ => rfl
  have F23 := fun_mk (st := s_ups_of) l23 c23 k23
  have b23 := F23.binds (ps := ["word"]) fun _ _ _ _ _ _ us hl => match us, hl with | [_], _ => rfl
  have F24 := fun_mk (st := s_ways_from) l24 c24 k24
  have b24 := F24.binds (ps := ["word"]) fun _ _ _ _ _ _ us hl => match us, hl with | [_], _ => rfl
  have F25 := fun_mk (st := s_least_sum) l25 c25 k25
  have b25 := F25.binds (ps := ["word"]) fun _ _ _ _ _ _ us hl => match us, hl with | [_], _ => rfl
  have F26 := fun_mk (st := s_middles) l26 c26 k26
  have b26 := F26.binds (ps := ["word"]) fun _ _ _ _ _ _ us hl => match us, hl with | [_], _ => rfl
  have F27 := fun_mk (st := s_leaves) l27 c27 k27
  have b27 := F27.binds (ps := ["word"]) fun _ _ _ _ _ _ us hl => match us, hl with | [_], _ => rfl
  have F28 := fun_mk (st := s__law_gate) l28 c28 k28
  have b28 := F28.binds (ps := ["script"]) fun _ _ _ _ _ _ us hl => match us, hl with | [_], _ => rfl
  have F29 := fun_mk (st := s__law_latch) l29 c29 k29
  have b29 := F29.binds (ps := ["gate", "many"]) fun _ _ _ _ _ _ us hl => match us, hl with | [_, _], _ => rfl
  have F30 := fun_mk (st := s__law_one_of) l30 c30 k30
  have b30 := F30.binds (ps := ["gate", "some"]) fun _ _ _ _ _ _ us hl => match us, hl with | [_, _], _ => rfl
  have F31 := fun_mk (st := s__law_word) l31 c31 k31
  have b31 := F31.binds (ps := ["gate", "pairs"]) fun _ _ _ _ _ _ us hl => match us, hl with | [_, _], _ => rfl
  have F32 := fun_mk (st := s__law_no_word) l32 c32 k32
  have b32 := F32.binds (ps := ["gate", "word"]) fun _ _ _ _ _ _ us hl => match us, hl with | [_, _], _ => rfl
  have F33 := fun_mk (st := s__law_heard) l33 c33 k33
  have b33 := F33.binds (ps := ["ask"]) fun _ _ _ _ _ _ us hl => match us, hl with | [_], _ => rfl
  refine ⟨PySem.W.fnOf "law" "law" (defArgs s_law) (defBody s_law) (defScope s_law) .none kV34 dc34 pm34 an34 cd34 ct34, [(cA_law, PA_law)], List.forall_mem_cons.mpr ⟨tabs0 _ jt_law, fun _ z => nomatch z⟩, List.forall_mem_cons.mpr ⟨jn_law, fun _ z => nomatch z⟩, List.forall_mem_cons.mpr ⟨PySem.W.codeHd_of_K X jh_law, fun _ z => nomatch z⟩, fun s v => .of_eq rfl, fun base _ _ TB => ?_⟩
  have lt_law : LamT base mg [(PA_law, (("law" : Str) ++ ".<locals>.") ++ "<lambda>")] "law" (PySem.W.fnOf "law" "law" (defArgs s_law) (defBody s_law) (defScope s_law) .none kV34 dc34 pm34 an34 cd34 ct34) cA_law PA_law := ⟨jc_law, TB (cA_law, PA_law) (.head _), .head _, fun p hp e => by
    simp only [List.mem_cons, List.not_mem_nil, or_false] at hp
    rcases hp with rfl
    · exact rfl⟩
  have e_BadNumber : ErrC l.prog w K mg base "BadNumber" C_BadNumber ["self", "part"] (spInit1 C_BadNumber "part") := ⟨PySem.W.mg_of X G hg_BadNumber, ox_BadNumber, ⟨fI_BadNumber, _, hi_BadNumber, ht_BadNumber, oki_BadNumber FI_BadNumber ox_BadNumber hn_BadNumber_part, bI_BadNumber⟩, ⟨⟨ha_BadNumber, hh_BadNumber, he_BadNumber, hd_BadNumber⟩, hw_BadNumber, hx_BadNumber, hz_BadNumber, hm_BadNumber, hv_BadNumber⟩⟩
  have e_BadWord : ErrC l.prog w K mg base "BadWord" C_BadWord ["self", "part"] (spInit1 C_BadWord "part") := ⟨PySem.W.mg_of X G hg_BadWord, ox_BadWord, ⟨fI_BadWord, _, hi_BadWord, ht_BadWord, oki_BadWord FI_BadWord ox_BadWord hn_BadWord_part, bI_BadWord⟩, ⟨⟨ha_BadWord, hh_BadWord, he_BadWord, hd_BadWord⟩, hw_BadWord, hx_BadWord, hz_BadWord, hm_BadWord, hv_BadWord⟩⟩
  have e_Misfit : ErrC l.prog w K mg base "Misfit" C_Misfit ["self", "part"] (spInit1 C_Misfit "part") := ⟨PySem.W.mg_of X G hg_Misfit, ox_Misfit, ⟨fI_Misfit, _, hi_Misfit, ht_Misfit, oki_Misfit FI_Misfit ox_Misfit hn_Misfit_part, bI_Misfit⟩, ⟨⟨ha_Misfit, hh_Misfit, he_Misfit, hd_Misfit⟩, hw_Misfit, hx_Misfit, hz_Misfit, hm_Misfit, hv_Misfit⟩⟩
  have o0 := ok_is_integer (P := l.prog) (w := w) (mg := mg) (base := base) F0 T 
  have c_is_integer : Cl l.prog w K mg base 1 "is_integer" (spIsInt K) := Cl.mk' F0 (PySem.W.mg_of X G a0) b0 o0
  have o1 := ok_is_within (P := l.prog) (w := w) (mg := mg) (base := base) F1 T c_is_integer
  have c_is_within : Cl l.prog w K mg base 2 "is_within" (spWithin K) := Cl.mk' F1 (PySem.W.mg_of X G a1) b1 o1
  have y2 := ok_check_number (P := l.prog) (w := w) (mg := mg) (base := base) F2 T e_BadNumber c_is_within
  have x_check_number : ClX l.prog w K mg base 3 "check_number" (spCheckX K C_BadNumber) := ClX.mk' F2 (PySem.W.mg_of X G a2) b2 y2
  have o2 := FnOk.quiet y2
  have c_check_number : Cl l.prog w K mg base 3 "check_number" (sp0 (spCheckX K C_BadNumber)) := Cl.mk' F2 (PySem.W.mg_of X G a2) b2 o2
  have o3 := ok_check_pairs (P := l.prog) (w := w) (mg := mg) (base := base) F3 T (c_check_number.imp ckn_imp)
  have c_check_pairs : Cl l.prog w K mg base 4 "check_pairs" (spPairs) := Cl.mk' F3 (PySem.W.mg_of X G a3) b3 o3
  have r3 := okr_check_pairs (P := l.prog) (w := w) (mg := mg) (base := base) F3 T x_check_number
  have x_check_pairs : ClX l.prog w K mg base 4 "check_pairs" (spOr (spPairs) (spRn K C_BadNumber 1 200)) := ClX.mk' F3 (PySem.W.mg_of X G a3) b3 (FnOk.either (FnOk.loud o3) r3)
  have o4 := ok_is_signs (P := l.prog) (w := w) (mg := mg) (base := base) F4 T 
  have c_is_signs : Cl l.prog w K mg base 1 "is_signs" (spSigns K) := Cl.mk' F4 (PySem.W.mg_of X G a4) b4 o4
  have o5 := ok_is_word (P := l.prog) (w := w) (mg := mg) (base := base) F5 T c_is_signs
  have c_is_word : Cl l.prog w K mg base 2 "is_word" (spWord K) := Cl.mk' F5 (PySem.W.mg_of X G a5) b5 o5
  have y6 := ok_check_word (P := l.prog) (w := w) (mg := mg) (base := base) F6 T e_BadWord c_is_word
  have x_check_word : ClX l.prog w K mg base 3 "check_word" (spCkWordX K C_BadWord) := ClX.mk' F6 (PySem.W.mg_of X G a6) b6 y6
  have o6 := FnOk.quiet y6
  have c_check_word : Cl l.prog w K mg base 3 "check_word" (sp0 (spCkWordX K C_BadWord)) := Cl.mk' F6 (PySem.W.mg_of X G a6) b6 o6
  have y7 := ok_period (P := l.prog) (w := w) (mg := mg) (base := base) F7 T x_check_word
  have x_period : ClX l.prog w K mg base 4 "period" (spR1 K wdV C_BadWord pWord) := ClX.mk' F7 (PySem.W.mg_of X G a7) b7 y7
  have o7 := FnOk.quiet y7
  have c_period : Cl l.prog w K mg base 4 "period" (sp0 (spR1 K wdV C_BadWord pWord)) := Cl.mk' F7 (PySem.W.mg_of X G a7) b7 o7
  have y8 := ok_turns_of (P := l.prog) (w := w) (mg := mg) (base := base) F8 T x_period
  have x_turns_of : ClX l.prog w K mg base 5 "turns_of" (spR1 K wdV C_BadWord pWord) := ClX.mk' F8 (PySem.W.mg_of X G a8) b8 y8
  have o8 := FnOk.quiet y8
  have c_turns_of : Cl l.prog w K mg base 5 "turns_of" (sp0 (spR1 K wdV C_BadWord pWord)) := Cl.mk' F8 (PySem.W.mg_of X G a8) b8 o8
  have y9 := ok_mirrored_word (P := l.prog) (w := w) (mg := mg) (base := base) F9 T x_check_word
  have x_mirrored_word : ClX l.prog w K mg base 4 "mirrored_word" (spR1 K wdV C_BadWord pWord) := ClX.mk' F9 (PySem.W.mg_of X G a9) b9 y9
  have o9 := FnOk.quiet y9
  have c_mirrored_word : Cl l.prog w K mg base 4 "mirrored_word" (sp0 (spR1 K wdV C_BadWord pWord)) := Cl.mk' F9 (PySem.W.mg_of X G a9) b9 o9
  have o10 := ok__ways_on (P := l.prog) (w := w) (mg := mg) (base := base) F10 T 
  have c__ways_on : Cl l.prog w K mg base 1 "_ways_on" (spWays) := Cl.mk' F10 (PySem.W.mg_of X G a10) b10 o10
  have o11 := ok_how_many_words (P := l.prog) (w := w) (mg := mg) (base := base) F11 T c_check_pairs c__ways_on
  have c_how_many_words : Cl l.prog w K mg base 5 "how_many_words" (spWords) := Cl.mk' F11 (PySem.W.mg_of X G a11) b11 o11
  have y12 := ok_all_words (P := l.prog) (w := w) (mg := mg) (base := base) F12 T x_check_number
  have x_all_words : ClX l.prog w K mg base 4 "all_words" (spRn K C_BadNumber 1 9) := ClX.mk' F12 (PySem.W.mg_of X G a12) b12 y12
  have o12 := FnOk.quiet y12
  have c_all_words : Cl l.prog w K mg base 4 "all_words" (sp0 (spRn K C_BadNumber 1 9)) := Cl.mk' F12 (PySem.W.mg_of X G a12) b12 o12
  have y13 := ok_name_of (P := l.prog) (w := w) (mg := mg) (base := base) F13 T x_turns_of
  have x_name_of : ClX l.prog w K mg base 6 "name_of" (spR1 K wdV C_BadWord pWord) := ClX.mk' F13 (PySem.W.mg_of X G a13) b13 y13
  have o13 := FnOk.quiet y13
  have c_name_of : Cl l.prog w K mg base 6 "name_of" (sp0 (spR1 K wdV C_BadWord pWord)) := Cl.mk' F13 (PySem.W.mg_of X G a13) b13 o13
  have y14 := ok_mirrored_tree (P := l.prog) (w := w) (mg := mg) (base := base) F14 T x_name_of x_mirrored_word
  have x_mirrored_tree : ClX l.prog w K mg base 7 "mirrored_tree" (spR1 K wdV C_BadWord pWord) := ClX.mk' F14 (PySem.W.mg_of X G a14) b14 y14
  have o14 := FnOk.quiet y14
  have c_mirrored_tree : Cl l.prog w K mg base 7 "mirrored_tree" (sp0 (spR1 K wdV C_BadWord pWord)) := Cl.mk' F14 (PySem.W.mg_of X G a14) b14 o14
  have y15 := ok_are_one_tree (P := l.prog) (w := w) (mg := mg) (base := base) F15 T e_Misfit x_check_word
  have x_are_one_tree : ClX l.prog w K mg base 4 "are_one_tree" (spOneT K C_BadWord C_Misfit) := ClX.mk' F15 (PySem.W.mg_of X G a15) b15 y15
  have o15 := FnOk.quiet y15
  have c_are_one_tree : Cl l.prog w K mg base 4 "are_one_tree" (sp0 (spOneT K C_BadWord C_Misfit)) := Cl.mk' F15 (PySem.W.mg_of X G a15) b15 o15
  have o16 := ok_star (P := l.prog) (w := w) (mg := mg) (base := base) F16 T c_check_pairs
  have c_star : Cl l.prog w K mg base 5 "star" (spStar) := Cl.mk' F16 (PySem.W.mg_of X G a16) b16 o16
  have r16 := okr_star (P := l.prog) (w := w) (mg := mg) (base := base) F16 T x_check_pairs
  have x_star : ClX l.prog w K mg base 5 "star" (spOr (spStar) (spRn K C_BadNumber 1 200)) := ClX.mk' F16 (PySem.W.mg_of X G a16) b16 (FnOk.either (FnOk.loud o16) r16)
  have y17 := ok_line (P := l.prog) (w := w) (mg := mg) (base := base) F17 T x_check_pairs
  have x_line : ClX l.prog w K mg base 5 "line" (spRn K C_BadNumber 1 200) := ClX.mk' F17 (PySem.W.mg_of X G a17) b17 y17
  have o17 := FnOk.quiet y17
  have c_line : Cl l.prog w K mg base 5 "line" (sp0 (spRn K C_BadNumber 1 200)) := Cl.mk' F17 (PySem.W.mg_of X G a17) b17 o17
  have o18 := ok__coprime (P := l.prog) (w := w) (mg := mg) (base := base) F18 T 
  have c__coprime : Cl l.prog w K mg base 1 "_coprime" (spCop) := Cl.mk' F18 (PySem.W.mg_of X G a18) b18 o18
  have o19 := ok__with_place (P := l.prog) (w := w) (mg := mg) (base := base) F19 T c__coprime
  have c__with_place : Cl l.prog w K mg base 2 "_with_place" (spPlace) := Cl.mk' F19 (PySem.W.mg_of X G a19) b19 o19
  have o20 := ok__with_tie (P := l.prog) (w := w) (mg := mg) (base := base) F20 T c_how_many_words
  have c__with_tie : Cl l.prog w K mg base 6 "_with_tie" (spTie) := Cl.mk' F20 (PySem.W.mg_of X G a20) b20 o20
  have o21 := ok_how_many_trees (P := l.prog) (w := w) (mg := mg) (base := base) F21 T c_check_pairs c__with_place c__with_tie c_how_many_words
  have c_how_many_trees : Cl l.prog w K mg base 7 "how_many_trees" (spTrees) := Cl.mk' F21 (PySem.W.mg_of X G a21) b21 o21
  have r21 := okr_how_many_trees (P := l.prog) (w := w) (mg := mg) (base := base) F21 T x_check_pairs
  have x_how_many_trees : ClX l.prog w K mg base 7 "how_many_trees" (spOr (spTrees) (spRn K C_BadNumber 1 200)) := ClX.mk' F21 (PySem.W.mg_of X G a21) b21 (FnOk.either (FnOk.loud o21) r21)
  have ck_how_many_trees_pairs : ClK l.prog w K mg base 7 "how_many_trees" ["pairs"] (pick [0]) (spTrees) :=
    ⟨_, _, _, pick [0], o21, PySem.W.mg_of X G a21, F21.kp, fun s ws hl => match ws, hl with | [_], _ => .of_eq rfl, fun zs ws r => pick_vals _ r⟩
  have y22 := ok_all_trees (P := l.prog) (w := w) (mg := mg) (base := base) F22 T x_all_words
  have x_all_trees : ClX l.prog w K mg base 5 "all_trees" (spRn K C_BadNumber 1 9) := ClX.mk' F22 (PySem.W.mg_of X G a22) b22 y22
  have o22 := FnOk.quiet y22
  have c_all_trees : Cl l.prog w K mg base 5 "all_trees" (sp0 (spRn K C_BadNumber 1 9)) := Cl.mk' F22 (PySem.W.mg_of X G a22) b22 o22
  have o23 := ok_ups_of (P := l.prog) (w := w) (mg := mg) (base := base) F23 T (c_check_word.imp ckw_imp)
  have c_ups_of : Cl l.prog w K mg base 4 "ups_of" (spUps) := Cl.mk' F23 (PySem.W.mg_of X G a23) b23 o23
  have r23 := okr_ups_of (P := l.prog) (w := w) (mg := mg) (base := base) F23 T x_check_word
  have x_ups_of : ClX l.prog w K mg base 4 "ups_of" (spOr (spUps) (spR1 K wdV C_BadWord pWord)) := ClX.mk' F23 (PySem.W.mg_of X G a23) b23 (FnOk.either (FnOk.loud o23) r23)
  have y24 := ok_ways_from (P := l.prog) (w := w) (mg := mg) (base := base) F24 T x_ups_of
  have x_ways_from : ClX l.prog w K mg base 5 "ways_from" (spR1 K wdV C_BadWord pWord) := ClX.mk' F24 (PySem.W.mg_of X G a24) b24 y24
  have o24 := FnOk.quiet y24
  have c_ways_from : Cl l.prog w K mg base 5 "ways_from" (sp0 (spR1 K wdV C_BadWord pWord)) := Cl.mk' F24 (PySem.W.mg_of X G a24) b24 o24
  have y25 := ok_least_sum (P := l.prog) (w := w) (mg := mg) (base := base) F25 T x_ways_from
  have x_least_sum : ClX l.prog w K mg base 6 "least_sum" (spR1 K wdV C_BadWord pWord) := ClX.mk' F25 (PySem.W.mg_of X G a25) b25 y25
  have o25 := FnOk.quiet y25
  have c_least_sum : Cl l.prog w K mg base 6 "least_sum" (sp0 (spR1 K wdV C_BadWord pWord)) := Cl.mk' F25 (PySem.W.mg_of X G a25) b25 o25
  have y26 := ok_middles (P := l.prog) (w := w) (mg := mg) (base := base) F26 T x_ways_from
  have x_middles : ClX l.prog w K mg base 6 "middles" (spR1 K wdV C_BadWord pWord) := ClX.mk' F26 (PySem.W.mg_of X G a26) b26 y26
  have o26 := FnOk.quiet y26
  have c_middles : Cl l.prog w K mg base 6 "middles" (sp0 (spR1 K wdV C_BadWord pWord)) := Cl.mk' F26 (PySem.W.mg_of X G a26) b26 o26
  have y27 := ok_leaves (P := l.prog) (w := w) (mg := mg) (base := base) F27 T x_ups_of
  have x_leaves : ClX l.prog w K mg base 5 "leaves" (spR1 K wdV C_BadWord pWord) := ClX.mk' F27 (PySem.W.mg_of X G a27) b27 y27
  have o27 := FnOk.quiet y27
  have c_leaves : Cl l.prog w K mg base 5 "leaves" (sp0 (spR1 K wdV C_BadWord pWord)) := Cl.mk' F27 (PySem.W.mg_of X G a27) b27 o27
  have o28 := ok__law_gate (P := l.prog) (w := w) (mg := mg) (base := base) F28 T 
  have c__law_gate : Cl l.prog w K mg base 1 "_law_gate" (spGauge K) := Cl.mk' F28 (PySem.W.mg_of X G a28) b28 o28
  have o29 := ok__law_latch (P := l.prog) (w := w) (mg := mg) (base := base) F29 T 
  have c__law_latch : Cl l.prog w K mg base 1 "_law_latch" (spTick) := Cl.mk' F29 (PySem.W.mg_of X G a29) b29 o29
  have o30 := ok__law_one_of (P := l.prog) (w := w) (mg := mg) (base := base) F30 T c__law_latch
  have c__law_one_of : Cl l.prog w K mg base 2 "_law_one_of" (spDial K) := Cl.mk' F30 (PySem.W.mg_of X G a30) b30 o30
  have o31 := ok__law_word (P := l.prog) (w := w) (mg := mg) (base := base) F31 T c__law_latch c__law_one_of
  have c__law_word : Cl l.prog w K mg base 3 "_law_word" (spLword) := Cl.mk' F31 (PySem.W.mg_of X G a31) b31 o31
  have o32 := ok__law_no_word (P := l.prog) (w := w) (mg := mg) (base := base) F32 T c__law_latch c__law_one_of
  have c__law_no_word : Cl l.prog w K mg base 3 "_law_no_word" (spNoW K) := Cl.mk' F32 (PySem.W.mg_of X G a32) b32 o32
  have c__law_heard : ClL l.prog w K mg base 9 "_law_heard" (TH3 C_BadNumber C_BadWord C_Misfit) := ok__law_heard F33 T (PySem.W.mg_of X G a33) b33 b_HalfError m_BadNumber m_BadWord m_Misfit e_BadNumber e_BadWord e_Misfit hn_BadNumber_part hn_BadWord_part hn_Misfit_part o_BadNumber_BadNumber o_BadNumber_BadWord o_BadNumber_Misfit o_BadWord_BadNumber o_BadWord_BadWord o_BadWord_Misfit o_Misfit_BadNumber o_Misfit_BadWord o_Misfit_Misfit oN_BadNumber oN_BadWord oN_Misfit
  exact ok_law (fun_mk (st := s_law) l34 c34 k34) T lt_law c__law_gate c__law_latch c__law_one_of c__law_word c__law_no_word c__law_heard x_ups_of x_ways_from x_least_sum x_middles x_leaves x_name_of x_mirrored_tree x_are_one_tree x_star x_line x_how_many_trees x_all_trees c_star c_ups_of ck_how_many_trees_pairs
end EH

open PySem PySem.W PyProof.Rows in
set_option maxHeartbeats 0 in
theorem PySem.Challenge.cw_everyhalf_k13_what_trees_refuse_holds : PySem.Challenge.rw_everyhalf_k13_what_trees_refuse.Holds := by
  w_on; o_law; k_head; (case hw => w_witness2)
  k_fill
  refine EH.walk_ofT (l := PySem.Challenge.rw_everyhalf_k13_what_trees_refuse) (n := 63) (k := 14) (x := "script") (sp := fun K cs => EH.spLaw K cs) rfl (by decide) rfl ⟨rfl, by decide, by decide⟩ (fun w h Y => PySem.W.km_in_of Y) ?F EH.law_end
  case F =>
    intro w mg fa h Y KX G hmg
    refine' EH.all_mk KX G hmg ?a0 ?l0 ?c0 ?k0 ?a1 ?l1 ?c1 ?k1 ?a2 ?l2 ?c2 ?k2 ?a3 ?l3 ?c3 ?k3 ?a4 ?l4 ?c4 ?k4 ?a5 ?l5 ?c5 ?k5 ?a6 ?l6 ?c6 ?k6 ?a7 ?l7 ?c7 ?k7 ?a8 ?l8 ?c8 ?k8 ?a9 ?l9 ?c9 ?k9 ?a10 ?l10 ?c10 ?k10 ?a11 ?l11 ?c11 ?k11 ?a12 ?l12 ?c12 ?k12 ?a13 ?l13 ?c13 ?k13 ?a14 ?l14 ?c14 ?k14 ?a15 ?l15 ?c15 ?k15 ?a16 ?l16 ?c16 ?k16 ?a17 ?l17 ?c17 ?k17 ?a18 ?l18 ?c18 ?k18 ?a19 ?l19 ?c19 ?k19 ?a20 ?l20 ?c20 ?k20 ?a21 ?l21 ?c21 ?k21 ?a22 ?l22 ?c22 ?k22 ?a23 ?l23 ?c23 ?k23 ?a24 ?l24 ?c24 ?k24 ?a25 ?l25 ?c25 ?k25 ?a26 ?l26 ?c26 ?k26 ?a27 ?l27 ?c27 ?k27 ?a28 ?l28 ?c28 ?k28 ?a29 ?l29 ?c29 ?k29 ?a30 ?l30 ?c30 ?k30 ?a31 ?l31 ?c31 ?k31 ?a32 ?l32 ?c32 ?k32 ?a33 ?l33 ?c33 ?k33 ?a34 ?l34 ?c34 ?k34 ?z_abs ?z_bool ?z_int ?z_isinstance ?z_len ?z_list ?z_min ?z_range ?z_repr ?z_str ?z_sum ?z_tuple ?w_MOST_PAIRS ?r_MOST_PAIRS ?w_MOST_PAIRS_OF_WORDS ?r_MOST_PAIRS_OF_WORDS ?b_comb ?b_gcd ?hB_g ?hB_e ?hB_d ?hB_t ?hg_BadNumber ?hl_BadNumber ?hs_BadNumber ?ha_BadNumber ?hh_BadNumber ?hn_BadNumber_part ?hi_BadNumber ?ht_BadNumber ?hf_BadNumber ?hc_BadNumber ?hq_BadNumber ?hk_BadNumber ?he_BadNumber ?hy_BadNumber ?hd_BadNumber ?hw_BadNumber ?hx_BadNumber ?hz_BadNumber ?hm_BadNumber ?hv_BadNumber ?hu_BadNumber ?oN_BadNumber ?hg_BadWord ?hl_BadWord ?hs_BadWord ?ha_BadWord ?hh_BadWord ?hn_BadWord_part ?hi_BadWord ?ht_BadWord ?hf_BadWord ?hc_BadWord ?hq_BadWord ?hk_BadWord ?he_BadWord ?hy_BadWord ?hd_BadWord ?hw_BadWord ?hx_BadWord ?hz_BadWord ?hm_BadWord ?hv_BadWord ?hu_BadWord ?oN_BadWord ?hg_Misfit ?hl_Misfit ?hs_Misfit ?ha_Misfit ?hh_Misfit ?hn_Misfit_part ?hi_Misfit ?ht_Misfit ?hf_Misfit ?hc_Misfit ?hq_Misfit ?hk_Misfit ?he_Misfit ?hy_Misfit ?hd_Misfit ?hw_Misfit ?hx_Misfit ?hz_Misfit ?hm_Misfit ?hv_Misfit ?hu_Misfit ?oN_Misfit ?o_BadNumber_BadWord ?o_BadNumber_Misfit ?o_BadWord_BadNumber ?o_BadWord_Misfit ?o_Misfit_BadNumber ?o_Misfit_BadWord (PySem.W.km_tabs_of Y) ?jc_law ?jl_law ?jp_law ?jh_law ?jn_law ?jt_law
    (case a0 => k_is)
    (case l0 => k_is)
    (case c0 => k_is)
    (case k0 => k_is)
    (case a1 => k_is)
    (case l1 => k_is)
    (case c1 => k_is)
    (case k1 => k_is)
    (case a2 => k_is)
    (case l2 => k_is)
    (case c2 => k_is)
    (case k2 => k_is)
    (case a3 => k_is)
    (case l3 => k_is)
    (case c3 => k_is)
    (case k3 => k_is)
    (case a4 => k_is)
    (case l4 => k_is)
    (case c4 => k_is)
    (case k4 => k_is)
    (case a5 => k_is)
    (case l5 => k_is)
    (case c5 => k_is)
    (case k5 => k_is)
    (case a6 => k_is)
    (case l6 => k_is)
    (case c6 => k_is)
    (case k6 => k_is)
    (case a7 => k_is)
    (case l7 => k_is)
    (case c7 => k_is)
    (case k7 => k_is)
    (case a8 => k_is)
    (case l8 => k_is)
    (case c8 => k_is)
    (case k8 => k_is)
    (case a9 => k_is)
    (case l9 => k_is)
    (case c9 => k_is)
    (case k9 => k_is)
    (case a10 => k_is)
    (case l10 => k_is)
    (case c10 => k_is)
    (case k10 => k_is)
    (case a11 => k_is)
    (case l11 => k_is)
    (case c11 => k_is)
    (case k11 => k_is)
    (case a12 => k_is)
    (case l12 => k_is)
    (case c12 => k_is)
    (case k12 => k_is)
    (case a13 => k_is)
    (case l13 => k_is)
    (case c13 => k_is)
    (case k13 => k_is)
    (case a14 => k_is)
    (case l14 => k_is)
    (case c14 => k_is)
    (case k14 => k_is)
    (case a15 => k_is)
    (case l15 => k_is)
    (case c15 => k_is)
    (case k15 => k_is)
    (case a16 => k_is)
    (case l16 => k_is)
    (case c16 => k_is)
    (case k16 => k_is)
    (case a17 => k_is)
    (case l17 => k_is)
    (case c17 => k_is)
    (case k17 => k_is)
    (case a18 => k_is)
    (case l18 => k_is)
    (case c18 => k_is)
    (case k18 => k_is)
    (case a19 => k_is)
    (case l19 => k_is)
    (case c19 => k_is)
    (case k19 => k_is)
    (case a20 => k_is)
    (case l20 => k_is)
    (case c20 => k_is)
    (case k20 => k_is)
    (case a21 => k_is)
    (case l21 => k_is)
    (case c21 => k_is)
    (case k21 => k_is)
    (case a22 => k_is)
    (case l22 => k_is)
    (case c22 => k_is)
    (case k22 => k_is)
    (case a23 => k_is)
    (case l23 => k_is)
    (case c23 => k_is)
    (case k23 => k_is)
    (case a24 => k_is)
    (case l24 => k_is)
    (case c24 => k_is)
    (case k24 => k_is)
    (case a25 => k_is)
    (case l25 => k_is)
    (case c25 => k_is)
    (case k25 => k_is)
    (case a26 => k_is)
    (case l26 => k_is)
    (case c26 => k_is)
    (case k26 => k_is)
    (case a27 => k_is)
    (case l27 => k_is)
    (case c27 => k_is)
    (case k27 => k_is)
    (case a28 => k_is)
    (case l28 => k_is)
    (case c28 => k_is)
    (case k28 => k_is)
    (case a29 => k_is)
    (case l29 => k_is)
    (case c29 => k_is)
    (case k29 => k_is)
    (case a30 => k_is)
    (case l30 => k_is)
    (case c30 => k_is)
    (case k30 => k_is)
    (case a31 => k_is)
    (case l31 => k_is)
    (case c31 => k_is)
    (case k31 => k_is)
    (case a32 => k_is)
    (case l32 => k_is)
    (case c32 => k_is)
    (case k32 => k_is)
    (case a33 => k_is)
    (case l33 => k_is)
    (case c33 => k_is)
    (case k33 => k_is)
    (case a34 => k_is)
    (case l34 => k_is)
    (case c34 => k_is)
    (case k34 => k_is)
    (case z_abs => k_is)
    (case z_bool => k_is)
    (case z_int => k_is)
    (case z_isinstance => k_is)
    (case z_len => k_is)
    (case z_list => k_is)
    (case z_min => k_is)
    (case z_range => k_is)
    (case z_repr => k_is)
    (case z_str => k_is)
    (case z_sum => k_is)
    (case z_tuple => k_is)
    (case w_MOST_PAIRS => k_is)
    (case r_MOST_PAIRS => exact ⟨_, rfl⟩)
    (case w_MOST_PAIRS_OF_WORDS => k_is)
    (case r_MOST_PAIRS_OF_WORDS => exact ⟨_, rfl⟩)
    (case b_comb => k_is)
    (case b_gcd => k_is)
    (case hB_g => k_is)
    (case hB_e => k_is)
    (case hB_d => k_is)
    (case hB_t => k_is)
    (case hg_BadNumber => k_is)
    (case hl_BadNumber => k_is)
    (case hs_BadNumber => k_is)
    (case ha_BadNumber => k_is)
    (case hh_BadNumber => k_is)
    (case hn_BadNumber_part => k_is)
    (case hi_BadNumber => k_is)
    (case ht_BadNumber => k_is)
    (case hf_BadNumber => k_is)
    (case hc_BadNumber => k_is)
    (case hq_BadNumber => k_is)
    (case hk_BadNumber => k_is)
    (case he_BadNumber => k_is)
    (case hy_BadNumber => k_is)
    (case hd_BadNumber => k_is)
    (case hw_BadNumber => k_is)
    (case hx_BadNumber => k_is)
    (case hz_BadNumber => k_is)
    (case hm_BadNumber => k_is)
    (case hv_BadNumber => k_is)
    (case hu_BadNumber => k_is)
    (case oN_BadNumber => kernel_rfl)
    (case hg_BadWord => k_is)
    (case hl_BadWord => k_is)
    (case hs_BadWord => k_is)
    (case ha_BadWord => k_is)
    (case hh_BadWord => k_is)
    (case hn_BadWord_part => k_is)
    (case hi_BadWord => k_is)
    (case ht_BadWord => k_is)
    (case hf_BadWord => k_is)
    (case hc_BadWord => k_is)
    (case hq_BadWord => k_is)
    (case hk_BadWord => k_is)
    (case he_BadWord => k_is)
    (case hy_BadWord => k_is)
    (case hd_BadWord => k_is)
    (case hw_BadWord => k_is)
    (case hx_BadWord => k_is)
    (case hz_BadWord => k_is)
    (case hm_BadWord => k_is)
    (case hv_BadWord => k_is)
    (case hu_BadWord => k_is)
    (case oN_BadWord => kernel_rfl)
    (case hg_Misfit => k_is)
    (case hl_Misfit => k_is)
    (case hs_Misfit => k_is)
    (case ha_Misfit => k_is)
    (case hh_Misfit => k_is)
    (case hn_Misfit_part => k_is)
    (case hi_Misfit => k_is)
    (case ht_Misfit => k_is)
    (case hf_Misfit => k_is)
    (case hc_Misfit => k_is)
    (case hq_Misfit => k_is)
    (case hk_Misfit => k_is)
    (case he_Misfit => k_is)
    (case hy_Misfit => k_is)
    (case hd_Misfit => k_is)
    (case hw_Misfit => k_is)
    (case hx_Misfit => k_is)
    (case hz_Misfit => k_is)
    (case hm_Misfit => k_is)
    (case hv_Misfit => k_is)
    (case hu_Misfit => k_is)
    (case oN_Misfit => kernel_rfl)
    (case o_BadNumber_BadWord => kernel_rfl)
    (case o_BadNumber_Misfit => kernel_rfl)
    (case o_BadWord_BadNumber => kernel_rfl)
    (case o_BadWord_Misfit => kernel_rfl)
    (case o_Misfit_BadNumber => kernel_rfl)
    (case o_Misfit_BadWord => kernel_rfl)
    (case jc_law => exact rfl)
    (case jl_law => k_is)
    (case jp_law => exact rfl)
    (case jh_law => kernel_rfl)
    (case jn_law => kernel_rfl)
    (case jt_law => k_mem)
#print axioms PySem.Challenge.cw_everyhalf_k13_what_trees_refuse_holds
