import PyProof.Rows.All
import Wide.All
import OpenK.AllK
import Wide.FinOn
import HandS.ForMost
import HandS.More
import HandS.IsInst
import HandS.Wide
import HandS.Flow
import HandS.Steps
import HandS.Gcd
import KE.KMathGC
import PyProof.ReprRoads
import PyProof.ReprBulk
import HandS.Codes
import PyProof.Rows.StrRev
import PyProof.Rows.RegReprOcc
import PyProof.ListStr
import PyProof.TupleOfStr
import PyProof.Rows.EnumRows
import KE.DataMinMax
import HandS.ExcInit
import HandS.ExcField
import HandS.ExcIs
import HandS.WordsExc
import HandS.CallLocal
import HandS.CallSlots
import KE.KExcIs
import HandS.Deep
import HandS.Strs
import HandS.Star
import HandS.TryOnly
import KE.GoesEnum
import PyProof.Rows.SortStr
import HandS.SortInts
import KE.KSortAsk
import PySem.Challenge.RW_everyhalf_k22_whole_each_state_at_one_ho
set_option Elab.async false
set_option linter.all false
set_option maxRecDepth 100000
set_option maxHeartbeats 2000000
/-! EH1: our own words beside the hand layer: repr of data, a def entered with no guard on the stack, calls with keywords alone. -/
namespace EH
open PySem PySem.Spec PyProof.Rows L2

section
variable {X : Cx}
/-- repr(x), x any data without dicts -/
theorem cr_repr (gd : X.A.guards = some []) (hu : X.A.units + 64 < cLine) : CallR X (.builtin "repr") (fun xs H Q => ∃ x d, xs = [x] ∧ Dp X.K H x d ∧ d.showable = true ∧ d.hasDict = false ∧ d.depth ≤ 60 ∧ d.shown.length ≤ sizeLine ∧ Q (.str d.shown) H) := by
  intro pins s σ H xs us Q I r h
  obtain ⟨x, d, rfl, hd, hs, hn, hdp, hz, q⟩ := h
  obtain ⟨u, rfl, rx⟩ := vals1 r
  have viaRef : ∀ a as, Reads s.heap (.ref a) d as → wpAny (model X.prog X.w) X.A (call (.builtin "repr") [.ref a]) (EP X pins σ Q) X.xe s := fun a as rd =>
    repr_of_reads' rd hs (PyData.noDict_hsm hn) gd (by omega) (fun _ _ e => e)
      (fun h' u' tk hk => ⟨.str d.shown, H, I.un (h' := h') (t' := tk) (Un.kept hk) (I.hok.kept hk), ⟨_, rfl⟩, q⟩) hz
  obtain ⟨as, rd⟩ := Dp.reads I d x u hd rx
  cases hd with
  | non =>
    cases rx
    exact PySem.P.repr_of_none ⟨.str _, H, I.tok _, ⟨_, rfl⟩, q⟩
  | bl b =>
    cases rx
    exact PySem.P.repr_of_bool ⟨.str _, H, I.tok _, ⟨_, rfl⟩, by cases b <;> exact q⟩
  | int i =>
    obtain ⟨t, rfl⟩ := rx
    exact PySem.P.repr_of_int (by simpa [PyData.showable] using hs) ⟨.str _, H, I.tok _, ⟨_, rfl⟩, q⟩
  | str z =>
    obtain ⟨t, rfl⟩ := rx
    exact PySem.P.repr_of_str ⟨.str _, H, I.tok _, ⟨_, rfl⟩, q⟩ hz
  | lst h1 h2 =>
    cases rx
    exact viaRef _ as rd
  | tup h1 h2 =>
    cases rx
    exact viaRef _ as rd
end

/-! ### a def that is entered with no guard on the stack -/
structure FnG (P : Program) (w : World) (K : PySem.W.Frag) (mg : Str → Option Value) (base : Heap) (cx : CXT) (k : Nat) (f : Addr) (fd : FuncData) (ps : List Str) (sp : Sp) : Prop where
  len : ∀ vs H Q E, sp vs H Q E → vs.length = ps.length
  run : ∀ (A : Around) (out : List Env) (s : Shared) (H : Hp) (args : Args) (us : List Value) (vs : List V) (Q : VK) (E : XK),
    A.guards = some [] → Room k A → Env0 P w K mg base A out s H → BindsTo s fd args (ps.zip us) → Vals vs us → sp vs H Q E →
    codeAny (model P w) A (.call (.ref f) args) (CR cx out P w H s Q E) s

theorem deeper_guards {A : Around} {e : Env} (h : A.guards = some []) : (A.deeper e).guards = some [] := h

section
variable {P : Program} {w : World} {K : PySem.W.Frag} {mg : Str → Option Value} {base : Heap}
theorem okG {x qual : Str} {st : Stmt} {f : Addr} {fd : FuncData} {N ps : List Str} {k : Nat} {sp : Sp}
    (F : Fun K x qual st f fd) (S : FnScope N ps (defScope st)) (len : ∀ vs H Q E, sp vs H Q E → vs.length = ps.length)
    (hb : ∀ (cdv : Value) (A : Around) (out : List Env) (s : Shared) (H : Hp) (vs : List V) (Q : VK) (E : XK),
      (A.deeper (envOfC qual (defScope st) s.heap.objs.size f cdv)).guards = some [] →
      Room k (A.deeper (envOfC qual (defScope st) s.heap.objs.size f cdv)) → sp vs H Q E →
      ∃ t, PSs (cxOf CX0 P w K mg base N qual (defScope st) f cdv A out s H E).nox (defBody st) t ∧
        t { nx := fun _ H' => Q .non H', rt := Q } (start N vs) H) :
    FnG P w K mg base CX0 (k + 1) f fd ps sp := by
  obtain ⟨oc, od, kV, doc, pm, an, cdv, ct, osl, rfl, lk, hcd⟩ := F.ex
  refine ⟨len, fun A out s H args us vs Q E gd hr e0 bnd rv hsp => ?_⟩
  have lenV := len _ _ _ _ hsp
  have KX : K.In s.heap := e0.mod.kin.keeps fun b o e => (e0.bs b o e).1
  have noLim : s.heap.NoLimit := e0.mod.nolimit.keeps fun b o e => (e0.bs b o e).1
  have kinds : ∀ y ∈ ps.zip us, (defScope st).names.lookup y.1 = some .local ∨
      ((defScope st).names.lookup y.1 = some .cell ∧ ((cellsFrom (s.heap.objs.size + 1) (defScope st).names []).lookup y.1).isSome = true) := by
    rintro ⟨n, v⟩ hy
    refine (S.par n (List.of_mem_zip hy).1).imp id fun q => ⟨q, ?_⟩
    exact PySem.W.cellsFrom_some _ _ _ (.inl q)
  refine codeAny_call_function hr.depth (KX _ _ lk) rfl S.co S.gen rfl (PySem.W.codeRec_of KX hcd) (bnd _ _ _ _ ?_)
  refine wpAny_newFunctionEnv_cells S.kind kinds fun en he s1 ic => ?_
  subst he
  refine ⟨noLim.keeps ic.toInCall.keep, codeAny_func ?_⟩
  obtain ⟨t, ht', hq⟩ := hb cdv A out s H vs Q E (deeper_guards gd) (hr.deeper _) hsp
  have ht := ht'.nox
  have I0 : Inv (cxOf CX0 P w K mg base N qual (defScope st) f cdv A out s H E) [] (start N vs) H s1 := inv_start S hr.hd e0 lenV rv ic
  refine wpAny_mono (ht.run [] s1 (start N vs) H _ I0 hq) (fun fl s' hs => ?_) fun _ _ z => z
  cases fl with
  | ret u =>
    obtain ⟨v, σ', H', J, ru, q⟩ := hs
    exact ⟨v, H', J.os, J.bare, J.base, J.hok, ru, q⟩
  | next =>
    obtain ⟨σ', H', J, q⟩ := hs
    exact ⟨.non, H', J.os, J.bare, J.base, J.hok, rfl, q⟩
  | brk =>
    obtain ⟨_, _, _, q⟩ := hs
    exact q.elim
  | cont =>
    obtain ⟨_, _, _, q⟩ := hs
    exact q.elim
end

/-- the law's call, no guard on the stack -/
theorem law_callG {P : Program} {w : World} {K : PySem.W.Frag} {mg mb : Str → Option Value} {k : Nat} {fa a : Addr} {fd : FuncData} {x : Str} {sp : Sp} {s1 : Shared} {us : List Value} {ns : List Int}
    (KX : K.In s1.heap) (nsG : s1.heap.Ns mainGlobals mg) (nsB : s1.heap.Ns builtinsNs mb) (boot : ∀ x : Str, x ≠ "__name__" → mb x = bootBuiltins x)
    (noLim : s1.heap.NoLimit) (gens0 : s1.gens = #[]) (ha : s1.heap.get? a = some { cls := .type "list", data := .seq us.toArray }) (hi : IntsAre us ns) (hl : ns.length ≤ sizeLine) (hr : Room k callerA)
    (F : ∀ base : Heap, K.In base → base.Ns mainGlobals mg → FnG P w K mg base CX0 k fa fd [x] sp)
    (bnd : ∀ (s : Shared) (u : Value), BindsTo s fd ⟨[u], []⟩ [(x, u)])
    (hsp : ∀ H : Hp, SqL K H a (ns.map V.int) → sp [.ref a] H (fun v _ => v = .bl true) fun _ _ _ => False) :
    codeAny (model P w) callerA (.call (.ref fa) ⟨[.ref a], []⟩)
      (fun r s' => r = .ok (.ret (.bool true)) ∧ OldK s1.heap s'.heap ∧ s'.os = s1.os ∧ AllBare s'.gens) s1 := by
  have rv := vals_ints hi
  have lenU := hi.length
  have body : ∀ H : Hp, Only H → SqL K H a (ns.map V.int) → HOk P w H s1.heap → (∀ b, H b ≠ none → b = a) → (H a ≠ none → K.lookup a = none) →
      codeAny (model P w) callerA (.call (.ref fa) ⟨[.ref a], []⟩)
        (fun r s' => r = .ok (.ret (.bool true)) ∧ OldK s1.heap s'.heap ∧ s'.os = s1.os ∧ AllBare s'.gens) s1 := by
    intro H only hS hok atA notK
    have down : ∀ {b : Addr} {o : Obj}, s1.heap.get? b = some o → H b = none → (hidT s1.heap H).get? b = some o := fun e n => hidT_get e n
    have isA : ∀ {b : Addr}, H b ≠ none → b = a := fun {b} h => atA b h
    have dictFree : ∀ {b : Addr} {o : Obj} {es : Array DictEntry} {ep : Nat}, s1.heap.get? b = some o → o.data = .dict es ep → H b = none := by
      intro b o es ep e d
      cases hb : H b with
      | none => rfl
      | some u =>
        have eb : b = a := isA (by rw [hb]; exact Option.some_ne_none _)
        subst eb
        rw [ha] at e
        cases e
        cases (show Data.seq us.toArray _ = Data.dict es ep from d)
    have nsDown : ∀ {b : Addr} {m : Str → Option Value}, s1.heap.Ns b m → (hidT s1.heap H).Ns b m := by
      rintro b m ⟨o, es, ep, e, d, r⟩
      exact ⟨o, es, ep, down e (dictFree e d), d, r⟩
    have kDown : K.In (hidT s1.heap H) := by
      intro b o e
      refine down (KX b o e) ?_
      cases hb : H b with
      | none => rfl
      | some u =>
        have eb : b = a := isA (by rw [hb]; exact Option.some_ne_none _)
        subst eb
        rw [notK (by rw [hb]; exact Option.some_ne_none _)] at e
        cases e
    have md : Mod K mg (hidT s1.heap H) := by
      refine ⟨kDown, nsDown nsG, ⟨mb, nsDown nsB, boot⟩, ?_⟩
      obtain ⟨mc, h1, h2⟩ := noLim
      exact ⟨mc, nsDown h1, h2⟩
    have e0 : Env0 P w K mg (hidT s1.heap H) callerA [] s1 H :=
      ⟨rfl, md, fun _ _ e => of_hidT e, Nat.le_of_eq (hidT_size _ _), trivial, fun _ hb => absurd hb List.not_mem_nil, hok, .of_eq gens0⟩
    have run := (F _ kDown (nsDown nsG)).run callerA [] s1 H ⟨[.ref a], []⟩ [.ref a] [.ref a] _ _ rfl hr e0 (bnd s1 (.ref a)) (.cons rfl .nil) (hsp H hS)
    refine codeAny_mono run fun r s' h => ?_
    rcases r with e | fl
    · exact h.elim
    · cases fl with
      | next => exact h.elim
      | brk => exact h.elim
      | cont => exact h.elim
      | ret u =>
        obtain ⟨v, H', os, bare, un, hok', ru, q⟩ := h
        cases (show v = .bl true from q)
        cases (show u = Value.bool true from ru)
        refine ⟨rfl, OldK.of_keep fun b o e => ?_, os, bare⟩
        cases hb : H b with
        | none => exact un.keep b o e hb (fun z => absurd z List.not_mem_nil) List.not_mem_nil
        | some u =>
          rcases only b with z | ⟨ob, xs, z⟩
          · rw [hb] at z
            cases z
          · obtain ⟨e1, _⟩ := hok b _ z
            obtain ⟨e2, _⟩ := hok' b _ (un.frzs b ob _ z)
            rw [e] at e1
            cases e1
            exact e2
  cases hk : K.lookup a with
  | some o =>
    have e := KX a o hk
    rw [ha] at e
    cases e
    refine body (fun _ => none) (fun _ => .inl rfl) (.inr ⟨_, us.toArray, _, hk, rfl, rfl, rfl, ?_, ?_⟩) (fun b u => ?_) (fun b z => absurd rfl z) fun z => absurd rfl z
    · rw [List.size_toArray, lenU]
      exact hl
    · simpa using rv
    · intro z
      exact nomatch (show (none : Option HO) = some u from z)
  | none =>
    have hA : ∀ b, (fun b => if b = a then some (HO.frz { cls := .type "list", data := .seq us.toArray } (.lst (ns.map V.int))) else none) b ≠ none → b = a := by
      intro b z
      by_cases hb : b = a
      · exact hb
      · exact absurd (if_neg hb) z
    refine body (fun b => if b = a then some (.frz { cls := .type "list", data := .seq us.toArray } (.lst (ns.map V.int))) else none) (fun b => ?_) (.inl (.inr ⟨{ cls := .type "list", data := .seq us.toArray }, if_pos rfl⟩)) (fun b u z => ?_) hA fun _ => hk
    · by_cases hb : b = a
      · exact .inr ⟨_, _, if_pos hb⟩
      · exact .inl (if_neg hb)
    · have eb : b = a := hA b (by rw [z]; exact Option.some_ne_none _)
      have z' := (if_pos eb).symm.trans z
      cases z'
      subst eb
      refine ⟨ha, ?_, us, _, rv, ha⟩
      rw [List.length_map]
      exact hl

/-- from the promise of the law's def to what k_head leaves -/
theorem walk_ofG {l : PySem.W.OpenLaw} {n k : Nat} {q : Program} {loose : List Str} {XP : (Str → Option Value) → Heap → Prop} {YP : World → Heap → Prop} {d : DefRec} {K : Params → PySem.W.Frag} {sp : PySem.W.Frag → Sp} {x : Str}
    (hn : l.most = some n) (hn2 : n ≤ sizeLine) (hdf : d.params.defaults = []) (hr : Room k callerA) (hY : ∀ (w : World) (h : Heap), YP w h → (K w.params).In h)
    (F : ∀ (w : World) (mg : Str → Option Value) (fa : Addr) (h : Heap), (K w.params).In h → h.Ns mainGlobals mg → mg d.name = some (.ref fa) →
      ∃ fd : FuncData, (∀ (s : Shared) (u : Value), BindsTo s fd ⟨[u], []⟩ [(x, u)]) ∧
        ∀ base : Heap, (K w.params).In base → base.Ns mainGlobals mg → FnG l.prog w (K w.params) mg base CX0 k fa fd [x] (sp (K w.params)))
    (hsp : ∀ (K : PySem.W.Frag) (H : Hp) (a : Addr) (ns : List Int), ns.length ≤ n → SqL K H a (ns.map V.int) → sp K [.ref a] H (fun v _ => v = .bl true) fun _ _ _ => False) :
    PySem.W.WalkO q loose XP YP l.row.toRowW d [] (fun f vs => PySem.call f vs) := by
  refine Att.attach_call hn hdf fun w s0 s1 mg mb fa o pm cd doc a us ns G Y ho hd hcd hmg hobj hints hlen hg => ?_
  have KX := hY w _ Y
  obtain ⟨fd, bnd, hF⟩ := F w mg fa _ KX G.T.g hmg
  exact law_callG KX G.T.g G.T.b G.T.builtins G.T.nolimit hg hobj hints (Nat.le_trans hlen hn2) hr hF bnd fun H hS => hsp _ H a ns hlen hS

/-! ### calls with keywords alone -/
section
variable {X : Cx} {cx : CXT} {k : Nat} {f : Addr} {fd : FuncData} {ps ks : List Str} {sp : Sp} {E : XK} {x : Str} {p pos : Pos} {kws : List Keyword} {tk : TA}
variable {g : List Value → List Value → List Value} {gV : List V → List V → List V}
theorem pe_callK0 (F : FnOk X.prog X.w X.K X.mg X.base cx k f fd ps sp) (hr : Room k X.A) (hg : Gl X x) (hm : X.mg x = some (.ref f)) (hk : PySem.W.keepIn X.K (.ref f) = true)
    (hb : KBinds X.K fd ps ks g gV) (hx : Passes cx X E) (hkw : PK X kws tk)
    (hall : (backToKw pos (keywordEach kws X.env)).all (·.1.isSome) = true := by rfl) (hks : (backToKw pos (keywordEach kws X.env)).filterMap (·.1) = ks := by rfl)
    (hdb : (x == ("__debug__" : Str)) = false := by decide)
    (hpl : ((backTo pos (starEach [] X.env)).any (·.1) || (backToKw pos (keywordEach kws X.env)).any (·.1.isNone)) = false := by rfl) :
    PE X (.Call (.Name x p) [] kws pos) (tCallK sp gV E tNil tk) := by
  refine ⟨fun pins s σ H Q I h => ?_⟩
  refine wpAny_Call_Name_kw (ld_glob I hg hm ?_ hdb)
  refine PySem.W.callWith_KW0 (h₀ := X.base) I.ok.mod.kin hk hall ?_ hpl
  refine thn (hkw.run pos pins s σ H _ I h) fun ws s2 ⟨zs, H2, I2, rz, q2⟩ => ⟨I2.kIn, ?_⟩
  rw [hks]
  exact run_fnk (us := []) (vs := []) F hr hb hx I2 .nil rz q2
end

/-! ### texts -/
section
variable {X : Cx}
/-- s * n -/
theorem op_rep_str : OpR X (binaryOp .Mult) (fun x y H Q => ∃ (z : Str) (n : Nat), x = .str z ∧ y = .int n ∧ n ≤ 1000000 ∧ z.length * n ≤ sizeLine ∧ z.length ≤ 1000000 ∧ Q (.str ⟨((List.replicate n z.cps.toList).flatten).toArray⟩) H) := by
  intro pins s σ H x y v u Q I rx ry h
  obtain ⟨z, n, rfl, rfl, hn, hz, hl, q⟩ := h
  obtain ⟨t, rfl⟩ := rx
  obtain ⟨t', rfl⟩ := ry
  have key : ∀ m : Nat, (List.replicate m z.cps).foldl (· ++ ·) #[] = ((List.replicate m z.cps.toList).flatten).toArray := by
    have gen : ∀ (m : Nat) (acc : Array Nat), (List.replicate m z.cps).foldl (· ++ ·) acc = acc ++ ((List.replicate m z.cps.toList).flatten).toArray := by
      intro m
      induction m with
      | zero => intro acc; simp
      | succ m ih =>
        intro acc
        rw [List.replicate_succ, List.foldl_cons, ih, List.replicate_succ, List.flatten_cons]
        apply Array.ext'
        simp
    intro m
    rw [gen]
    simp
  have done : ∀ w' : Str, w' = ⟨((List.replicate n z.cps.toList).flatten).toArray⟩ → ∀ t2 tk2, EP X pins σ Q (.str w' t2) { s with toks := tk2 } := by
    rintro w' rfl t2 tk2
    exact ⟨.str _, H, I.tok _, ⟨_, rfl⟩, q⟩
  refine PySem.P.mul_str ?_ ?_ ?_ ?_
  · have h1 : ¬ ((n : Int) < -(2 ^ 63 : Int)) := by omega
    have h2 : ¬ ((n : Int) ≥ 2 ^ 63) := by omega
    rw [decide_eq_false h1, decide_eq_false h2]
    rfl
  · intro h1 _ h3
    have hpos : (0 : Int) < n := by omega
    have h4 : ((z.length : Int) + 1) ≤ (2 ^ 63 - 1) / n := by
      rw [Int.le_ediv_iff_mul_le hpos]
      have h5 : ((z.length : Int) + 1) * n ≤ ((z.length : Int) + 1) * 1000000 := Int.mul_le_mul_of_nonneg_left (by omega) (by omega)
      have h6 : (z.length : Int) ≤ 1000000 := by omega
      have h7 : ((z.length : Int) + 1) * 1000000 ≤ 1000001 * 1000000 := Int.mul_le_mul_of_nonneg_right (by omega) (by omega)
      omega
    omega
  · intro h1 h2
    show decide (z.length * ((n : Nat) : Int).toNat > sizeLine) = false
    rw [Int.toNat_natCast]
    exact decide_eq_false (by omega)
  · by_cases h1 : (n : Int) < 1
    · rw [if_pos h1]
      have e0 : n = 0 := by omega
      subst e0
      exact ⟨by decide, done Str.empty rfl _ _⟩
    · rw [if_neg h1]
      by_cases h2 : ((n : Int) == 1 || z.length == 0) = true
      · rw [if_pos h2]
        have e1 : z = (⟨((List.replicate n z.cps.toList).flatten).toArray⟩ : Str) := by
          rcases Bool.or_eq_true_iff.mp h2 with h3 | h3
          · have e2 : n = 1 := by
              have := of_decide_eq_true (p := (n : Int) = 1) (by simpa using h3)
              omega
            subst e2
            obtain ⟨c⟩ := z
            simp
          · obtain ⟨⟨c⟩⟩ := z
            have e3 : c = [] := by
              have h4 : c.length = 0 := of_decide_eq_true (p := c.length = 0) (by simpa [Str.length] using h3)
              exact List.eq_nil_of_length_eq_zero h4
            subst e3
            simp
        exact done z e1 _ _
      · rw [if_neg h2, Int.toNat_natCast, key]
        refine ⟨?_, done _ rfl _ _⟩
        show ((List.replicate n z.cps.toList).flatten).toArray.size ≤ sizeLine
        have e4 : ((List.replicate n z.cps.toList).flatten).length = n * z.cps.toList.length := by simp
        have e5 : z.cps.toList.length = z.length := by simp [Str.length]
        rw [List.size_toArray, e4, e5, Nat.mul_comm]
        exact hz
end

/-! ### a, b, c = x, y, z with plain local names -/
def tPar3 (i j l : Nat) (ta : TA) : TS := fun D σ H => ta σ H fun vs H1 => ∃ v w u, vs = [v, w, u] ∧ D.nx (((σ.set i (some v)).set j (some w)).set l (some u)) H1
section
variable {X : Cx} {pos : Pos}
theorem ps_par3 {i j l : Nat} {x y z : Str} {a b c : Expr} {ta : TA} {px py pz pt : Pos} {kt k2 pt2} (hc : X.calm = true) (hN : X.N.Nodup)
    (hi : X.N[i]? = some x) (hj : X.N[j]? = some y) (hl : X.N[l]? = some z) (hij : i ≠ j) (hil : i ≠ l) (hjl : j ≠ l)
    (hx : X.env.scope.names.lookup x = some .local) (hy : X.env.scope.names.lookup y = some .local) (hz : X.env.scope.names.lookup z = some .local) (ha : PA X [a, b, c] ta)
    (hw : swappedStores [.Tuple [.Name x px, .Name y py, .Name z pz] kt pt] (.Tuple [a, b, c] k2 pt2) X.env = pure (some [x, y, z]))
    (hs : swapsWithSole [.Tuple [.Name x px, .Name y py, .Name z pz] kt pt] (.Tuple [a, b, c] k2 pt2) pos.line X.env = pure false := by rfl) :
    PS X (.Assign [.Tuple [.Name x px, .Name y py, .Name z pz] kt pt] (.Tuple [a, b, c] k2 pt2) pos) (tPar3 i j l ta) := by
  refine ⟨fun pins s σ H D I h => ?_⟩
  rw [exec_Assign_arm]
  refine wpAny_bind (wpAny_standAt ?_)
  rw [hs]
  refine wpAny_bind (wpAny_pure ?_)
  rw [if_neg (by decide)]
  refine wpAny_bind (Tuple_ (thn (ha.run _ pins s σ H _ I h) fun us s1 ⟨vs, H1, I1, r1, q1⟩ => ?_))
  obtain ⟨v, w, t, e1, q1⟩ := q1
  subst e1
  obtain ⟨u1, u2, u3, rfl, rv, rw', rt⟩ : ∃ u1 u2 u3, us = [u1, u2, u3] ∧ RelV v u1 ∧ RelV w u2 ∧ RelV t u3 := by
    cases r1 with
    | cons p q =>
      cases q with
      | cons p' q' =>
        cases q' with
        | cons p'' q'' =>
          cases q''
          exact ⟨_, _, _, rfl, p, p', p''⟩
  refine wpAny_newObj_type ?_ (by show 3 ≤ sizeLine; decide)
  have I2 : Inv X pins σ H1 { s1 with heap := s1.heap.push { cls := .type "tuple", data := .seq [u1, u2, u3].toArray } } :=
    I1.kept (t' := s1.toks) fun b o e => Heap.get?_push_of_some _ e
  rw [hw]
  refine wpAny_bind (wpAny_pure ?_)
  show wpAny (model X.prog X.w) X.A (do
    rule "assign.swapped-stores"
    let items ← unpackItems (.ref s1.heap.objs.size) 3 none
    assignInOrder [fun v => bindName X.env z v, fun v => bindName X.env y v, fun v => bindName X.env x v] items.reverse
    pure Flow.next) _ _ _
  refine wpAny_bind (wpAny_rule (wpAny_bind (unpackItems_tuple (items := #[u1, u2, u3]) (I.ok.hd hc) (IsTup.new s1.heap _) fun h' hx' => ?_)))
  have I3 := I2.kept (h' := h') (t' := s1.toks) fun b o e => hx' b o (Nat.ne_of_lt (Heap.lt_size e)) e
  show wpAny _ _ (assignInOrder [fun v => bindName X.env z v, fun v => bindName X.env y v, fun v => bindName X.env x v] [u3, u2, u1] >>= fun _ => pure Flow.next) _ _ _
  refine wpAny_bind (assignInOrder_cons (wpAny_bindName (store_ok I3 hN hl (.inl hz) rt (fun s2 I4 => ?_) (.inr hz))))
  refine assignInOrder_cons (wpAny_bindName (store_ok I4 hN hj (.inl hy) rw' (fun s3 I5 => ?_) (.inr hy)))
  refine assignInOrder_cons (wpAny_bindName (store_ok I5 hN hi (.inl hx) rv (fun s4 I6 => assignInOrder_nil (wpAny_pure ?_)) (.inr hx)))
  have e : (((σ.set l (some t)).set j (some w)).set i (some v)) = (((σ.set i (some v)).set j (some w)).set l (some t)) := by
    rw [List.set_comm _ _ (Ne.symm hjl), List.set_comm _ _ (Ne.symm hil), List.set_comm _ _ (Ne.symm hij)]
  rw [e] at I6
  exact ⟨_, H1, I6, q1⟩
end

/-! ### a def that may be called by its name -/
structure Cl (P : Program) (w : World) (K : PySem.W.Frag) (mg : Str → Option Value) (base : Heap) (k : Nat) (x : Str) (sp : Sp) : Prop where
  ex : ∃ (f : Addr) (fd : FuncData) (ps : List Str), FnOk P w K mg base CX0 k f fd ps sp ∧ mg x = some (.ref f) ∧ PySem.W.keepIn K (.ref f) = true ∧ Binds K fd ps []
/-- .. with keywords alone: π brings the keywords' values into the parameters' order -/
def tF (sp : Sp) (t : TA) : TE := fun σ H Q => t σ H fun vs H1 => sp vs H1 Q E0
def tF0 (sp : Sp) : TE := fun _ H Q => sp [] H Q E0
def tFk (n : Nat) (π : List V → List V) (sp : Sp) (t : TA) : TE := fun σ H Q => t σ H fun zs H1 => zs.length = n ∧ sp (π zs) H1 Q E0
structure ClK (P : Program) (w : World) (K : PySem.W.Frag) (mg : Str → Option Value) (base : Heap) (k : Nat) (x : Str) (ks : List Str) (π : List V → List V) (sp : Sp) : Prop where
  ex : ∃ (f : Addr) (fd : FuncData) (ps : List Str) (g : List Value → List Value), FnOk P w K mg base CX0 k f fd ps sp ∧ mg x = some (.ref f) ∧ PySem.W.keepIn K (.ref f) = true ∧
    (∀ (s : Shared) (ws : List Value), ws.length = ks.length → BindsTo s fd ⟨[], ks.zip ws⟩ (ps.zip (g ws))) ∧ ∀ (zs : List V) (ws : List Value), Vals zs ws → Vals (π zs) (g ws)
section
variable {X : Cx} {k j : Nat} {x : Str} {sp : Sp} {p pos : Pos} {e : Expr} {es : List Expr} {t tk : TA} {ks : List Str} {π : List V → List V} {kws : List Keyword}
theorem pe_f (c : Cl X.prog X.w X.K X.mg X.base k x sp) (hr : Room j X.A) (hk : k ≤ j) (hg : Gl X x) (ha : PA X (e :: es) t) (hdb : (x == ("__debug__" : Str)) = false := by decide)
    (he : starEach (e :: es) X.env = (false, eval e X.env) :: starEach es X.env := by rfl) (hpl : (backTo pos (starEach es X.env)).any (·.1) = false := by rfl) :
    PE X (.Call (.Name x p) (e :: es) [] pos) (tF sp t) := by
  obtain ⟨f, fd, ps, F, hm, kp, b⟩ := c.ex
  have h := pe_call (p := p) (pos := pos) F (hr.mono hk) hg hm kp b .nil pass0 ha hdb he hpl
  refine ⟨fun pins s σ H Q I q => h.run pins s σ H Q I ?_⟩
  show t σ H fun vs H1 => sp (vs ++ []) H1 Q E0
  simp only [List.append_nil]
  exact q
theorem pe_f0 (c : Cl X.prog X.w X.K X.mg X.base k x sp) (hr : Room j X.A) (hk : k ≤ j) (hg : Gl X x) (hdb : (x == ("__debug__" : Str)) = false := by decide) :
    PE X (.Call (.Name x p) [] [] pos) (tF0 sp) := by
  obtain ⟨f, fd, ps, F, hm, kp, b⟩ := c.ex
  have h := pe_call0 (p := p) (pos := pos) F (hr.mono hk) hg hm kp b .nil pass0 hdb
  exact ⟨fun pins s σ H Q I q => h.run pins s σ H Q I q⟩
theorem pe_fk (c : ClK X.prog X.w X.K X.mg X.base k x ks π sp) (hr : Room j X.A) (hk : k ≤ j) (hg : Gl X x) (hkw : PK X kws tk)
    (hall : (backToKw pos (keywordEach kws X.env)).all (·.1.isSome) = true := by rfl) (hks : (backToKw pos (keywordEach kws X.env)).filterMap (·.1) = ks := by rfl)
    (hdb : (x == ("__debug__" : Str)) = false := by decide)
    (hpl : ((backTo pos (starEach [] X.env)).any (·.1) || (backToKw pos (keywordEach kws X.env)).any (·.1.isNone)) = false := by rfl) :
    PE X (.Call (.Name x p) [] kws pos) (tFk ks.length π sp tk) := by
  obtain ⟨f, fd, ps, g, F, hm, kp, b, rel⟩ := c.ex
  refine ⟨fun pins s σ H Q I h => ?_⟩
  refine wpAny_Call_Name_kw (ld_glob I hg hm ?_ hdb)
  refine PySem.W.callWith_KW0 (h₀ := X.base) I.ok.mod.kin kp hall ?_ hpl
  refine thn (hkw.run pos pins s σ H _ I h) fun ws s2 ⟨zs, H2, I2, rz, hlen, q2⟩ => ⟨I2.kIn, ?_⟩
  rw [hks]
  have r2 := rel zs ws rz
  refine wpAny_call (codeAny_mono (F.run X.A X.stack s2 H2 ⟨[], ks.zip ws⟩ (g ws) (π zs) Q E0 (hr.mono hk) I2.env0 (b s2 ws (by rw [← rz.length]; exact hlen)) r2 q2) fun r s' hq => ?_)
  cases r with
  | error e => exact hq.elim
  | ok fl =>
    cases fl with
    | ret u => exact I2.after hq
    | next => exact hq.elim
    | brk => exact hq.elim
    | cont => exact hq.elim
end
section
variable {P : Program} {w : World} {K : PySem.W.Frag} {mg : Str → Option Value} {base : Heap}
theorem Cl.mk' {k : Nat} {x qual : Str} {st : Stmt} {f : Addr} {fd : FuncData} {ps : List Str} {sp : Sp} (F : Fun K x qual st f fd) (m : mg x = some (.ref f)) (b : Binds K fd ps []) (ok : FnOk P w K mg base CX0 k f fd ps sp) : Cl P w K mg base k x sp :=
  ⟨f, fd, ps, ok, m, F.kp, b⟩
theorem Cl.mono {j k : Nat} {x : Str} {sp : Sp} (c : Cl P w K mg base j x sp) (h : j ≤ k) : Cl P w K mg base k x sp := by
  obtain ⟨f, fd, ps, F, m, kp, b⟩ := c.ex
  exact ⟨f, fd, ps, F.mono h, m, kp, b⟩
theorem Cl.imp {k : Nat} {x : Str} {sp sp' : Sp} (c : Cl P w K mg base k x sp) (h : ∀ vs H Q E, sp' vs H Q E → sp vs H Q E) : Cl P w K mg base k x sp' := by
  obtain ⟨f, fd, ps, F, m, kp, b⟩ := c.ex
  exact ⟨f, fd, ps, F.imp h, m, kp, b⟩
/-- a module's constant -/
structure Cst (mg : Str → Option Value) (x : Str) (v : V) : Prop where
  ex : ∃ u, mg x = some u ∧ RelV v u
theorem pe_cst {X : Cx} {x : Str} {v : V} {pos : Pos} (c : Cst X.mg x v) (hg : Gl X x) (hd : (x == ("__debug__" : Str)) = false := by decide) : PE X (.Name x pos) (tC v) := by
  obtain ⟨u, hm, r⟩ := c.ex
  exact pe_glob hg hm r hd
end

/-! ### keywords' values in the parameters' order -/
def pick (is : List Nat) {α : Type} (xs : List α) : List α := is.filterMap fun i => xs[i]?
theorem pick_vals : ∀ (is : List Nat) {zs : List V} {ws : List Value}, Vals zs ws → Vals (pick is zs) (pick is ws)
  | [], _, _, _ => .nil
  | i :: is, zs, ws, r => by
    have ih := pick_vals is r
    unfold pick at ih ⊢
    cases e : zs[i]? with
    | none =>
      have e2 := r.none_of e
      rw [List.filterMap_cons_none e, List.filterMap_cons_none e2]
      exact ih
    | some z =>
      obtain ⟨u, e2, ru⟩ := r.get e
      rw [List.filterMap_cons_some e, List.filterMap_cons_some e2]
      exact .cons ru ih

/-! ### numbers of the drawing object -/
theorem tick_b1 {x b C : Int} (h0 : 0 ≤ x) (h1 : x < 2147483648) (b0 : 0 ≤ b) (b1 : b ≤ 1000000) (c0 : 0 ≤ C) (c1 : C ≤ 1000000) : 0 ≤ x * (2 * b + C) ∧ x * (2 * b + C) ≤ 2147483648 * 3000000 := by
  refine ⟨Int.mul_nonneg h0 (by omega), ?_⟩
  exact Int.mul_le_mul (by omega) (by omega) (by omega) (by omega)
theorem tick_b2 {D b : Int} (d0 : 0 ≤ D) (d1 : D ≤ 1000000) (b0 : 0 ≤ b) (b1 : b ≤ 1000000) : 0 ≤ D * b ∧ D * b ≤ 1000000 * 1000000 ∧ 0 ≤ D * b * b ∧ D * b * b ≤ 1000000 * 1000000 * 1000000 := by
  have h1 : 0 ≤ D * b := Int.mul_nonneg d0 b0
  have h2 : D * b ≤ 1000000 * 1000000 := Int.mul_le_mul d1 b1 b0 (by decide)
  exact ⟨h1, h2, Int.mul_nonneg h1 b0, Int.mul_le_mul h2 b1 b0 (by decide)⟩

/-! ### data of ints -/
theorem dp_ints {K : PySem.W.Frag} {H : Hp} : ∀ cs : List Int, DpAll K H (cs.map V.int) (cs.map PyData.int)
  | [] => .nil
  | c :: cs => .cons (.int c) (dp_ints cs)
theorem sh_ints (cs : List Int) : SeqAt.shaped (.list (cs.map .int)) = true := by
  have h : ∀ cs : List Int, PyData.canLayAll0 (cs.map PyData.int) = true ∧ PyData.depthAll (cs.map PyData.int) = 0 := by
    intro cs
    induction cs with
    | nil => exact ⟨rfl, rfl⟩
    | cons c cs ih => simp only [List.map_cons, PyData.canLayAll0, PyData.canLay0, PyData.depthAll, PyData.depth, ih.1, ih.2, Bool.and_self, Nat.max_self, and_self]
  unfold SeqAt.shaped
  simp only [PyData.canLay0, PyData.depth, (h cs).1, (h cs).2]
  rfl

/-! ### isinstance of a value and a built-in class -/
theorem tyb_wide {K : PySem.W.Frag} {H : Hp} {v : V} {T : String} (h : TyB K H v T) : TyX K H v (.type T) := by
  cases h with
  | non => exact .base .non
  | bl b => exact .base (.bl b)
  | int i => exact .base (.int i)
  | str x => exact .base (.str x)
  | byt b => exact .byt b
  | lst h =>
    rcases h with (h | ⟨o, h⟩) | ⟨o, its, n, h1, h2, _⟩
    · exact .base (.lst h)
    · exact .base (.frz h)
    · exact .kList h1 h2
  | tup h =>
    rcases h with (h | ⟨o, h⟩) | ⟨o, its, n, h1, h2, _⟩
    · exact .base (.tup h)
    · exact .fTuple h
    · exact .kTuple h1 h2
  | dK h => exact .base (.dK h)
def kinds : List String := ["NoneType", "bool", "int", "str", "bytes", "list", "tuple", "dict"]
theorem tyb_kind {K : PySem.W.Frag} {H : Hp} {v : V} {T : String} (h : TyB K H v T) : T ∈ kinds := by
  cases h <;> decide
/-- is what is of the type T also of the type n -/
def isSub (T n : String) : Bool := T == n || (T == "bool" && n == "int")
theorem kit_sub : ∀ T ∈ kinds, ∀ n ∈ kinds, kitB T n = some (isSub T n) := by decide +kernel
theorem call_is {X : Cx} : CallR X (.builtin "isinstance") (fun xs H Q => ∃ v T n, xs = [v, .ty n] ∧ TyB X.K H v T ∧ n ∈ kinds ∧ Q (.bl (isSub T n)) H) := by
  intro pins s σ H xs us Q I r h
  obtain ⟨v, T, n, rfl, ht, hn, q⟩ := h
  exact call_isi pins s σ H _ us Q I r ⟨v, .ty n, .type T, .type n, isSub T n, rfl, .ty n, tyb_wide ht, kit_ty (kit_sub T (tyb_kind ht) n hn), q⟩

/-! ### binomials -/
def chs : Nat → Nat → Nat
  | _, 0 => 1
  | 0, _ + 1 => 0
  | n + 1, k + 1 => chs n k + chs n (k + 1)
theorem chs_zero (n : Nat) : chs n 0 = 1 := by cases n <;> rfl
theorem chs_big : ∀ (n k : Nat), n < k → chs n k = 0
  | 0, 0, h => absurd h (Nat.lt_irrefl _)
  | 0, k + 1, _ => rfl
  | n + 1, 0, h => absurd h (Nat.not_lt_zero _)
  | n + 1, k + 1, h => by
    show chs n k + chs n (k + 1) = 0
    rw [chs_big n k (by omega), chs_big n (k + 1) (by omega)]
theorem chs_step : ∀ (n k : Nat), k ≤ n → chs n (k + 1) * (k + 1) = chs n k * (n - k)
  | 0, 0, _ => rfl
  | 0, k + 1, h => absurd h (by omega)
  | n + 1, 0, _ => by
    show (chs n 0 + chs n (0 + 1)) * (0 + 1) = 1 * (n + 1 - 0)
    have h := chs_step n 0 (Nat.zero_le _)
    rw [chs_zero] at h ⊢
    omega
  | n + 1, k + 1, h => by
    show (chs n (k + 1) + chs n (k + 1 + 1)) * (k + 1 + 1) = (chs n k + chs n (k + 1)) * (n + 1 - (k + 1))
    have h1 := chs_step n k (by omega)
    have e : n + 1 - (k + 1) = n - k := by omega
    rw [e, Nat.add_mul, Nat.add_mul, ← h1]
    by_cases hk : k + 1 ≤ n
    · have h2 := chs_step n (k + 1) hk
      rw [h2, ← Nat.mul_add, ← Nat.mul_add]
      congr 1
      omega
    · have en : n = k := by omega
      subst en
      rw [chs_big n (n + 1) (by omega), chs_big n (n + 1 + 1) (by omega)]
      simp
def fct : Nat → Nat
  | 0 => 1
  | n + 1 => fct n * (n + 1)
theorem fct_pos : ∀ n, 0 < fct n
  | 0 => Nat.one_pos
  | n + 1 => Nat.mul_pos (fct_pos n) (Nat.succ_pos _)
/-- n (n - 1) .. (n - k + 1) -/
def fll (n : Nat) : Nat → Nat
  | 0 => 1
  | k + 1 => fll n k * (n - k)
theorem chs_fll (n : Nat) : ∀ k, k ≤ n → chs n k * fct k = fll n k
  | 0, _ => by rw [chs_zero]; rfl
  | k + 1, h => by
    have ih := chs_fll n k (by omega)
    have hs := chs_step n k (by omega)
    show chs n (k + 1) * (fct k * (k + 1)) = fll n k * (n - k)
    rw [← ih, Nat.mul_right_comm (chs n k), ← hs, Nat.mul_comm (fct k), ← Nat.mul_assoc]
theorem fll_self : ∀ n, fll n n = fct n := by
  intro n
  have h := chs_fll n n (Nat.le_refl _)
  have e : chs n n = 1 := by
    induction n with
    | zero => rfl
    | succ n ih =>
      show chs n n + chs n (n + 1) = 1
      rw [chs_big n (n + 1) (by omega), ih (chs_fll n n (Nat.le_refl _))]
  rw [e, Nat.one_mul] at h
  exact h.symm
theorem chs_sym : ∀ (n k : Nat), k ≤ n → chs n (n - k) = chs n k := by
  -- both times k! (n - k)! are n!
  have key : ∀ (n k : Nat), k ≤ n → chs n k * fct k * fct (n - k) = fct n := by
    intro n
    induction n with
    | zero =>
      intro k h
      have e : k = 0 := by omega
      subst e
      rfl
    | succ n ih =>
      intro k h
      cases k with
      | zero => rw [chs_zero]; show 1 * 1 * fct (n + 1) = _; omega
      | succ k =>
        have i1 := ih k (by omega)
        have e1 : n + 1 - (k + 1) = n - k := by omega
        show (chs n k + chs n (k + 1)) * (fct k * (k + 1)) * fct (n + 1 - (k + 1)) = fct n * (n + 1)
        rw [e1]
        by_cases hk : k + 1 ≤ n
        · have i2 := ih (k + 1) hk
          have e2 : fct (n - k) = fct (n - (k + 1)) * (n - k) := by
            have : n - k = (n - (k + 1)) + 1 := by omega
            rw [this]
            rfl
          have a1 : chs n k * (fct k * (k + 1)) * fct (n - k) = fct n * (k + 1) := by
            rw [← i1]
            simp only [Nat.mul_assoc, Nat.mul_comm, Nat.mul_left_comm]
          have a2 : chs n (k + 1) * (fct k * (k + 1)) * fct (n - k) = fct n * (n - k) := by
            rw [← i2, e2]
            show _ = chs n (k + 1) * (fct k * (k + 1)) * fct (n - (k + 1)) * (n - k)
            simp only [Nat.mul_assoc]
          rw [Nat.add_mul, Nat.add_mul, a1, a2, ← Nat.mul_add]
          congr 1
          omega
        · have en : n = k := by omega
          subst en
          rw [chs_big n (n + 1) (by omega), Nat.add_zero]
          have e3 : n - n = 0 := Nat.sub_self n
          rw [e3] at i1 ⊢
          calc chs n n * (fct n * (n + 1)) * fct 0 = (chs n n * fct n * fct 0) * (n + 1) := by
                simp only [Nat.mul_assoc, Nat.mul_comm, Nat.mul_left_comm]
            _ = fct n * (n + 1) := by rw [i1]
  intro n k h
  have a := key n k h
  have b := key n (n - k) (by omega)
  have e : n - (n - k) = k := by omega
  rw [e] at b
  have hp : 0 < fct k * fct (n - k) := Nat.mul_pos (fct_pos _) (fct_pos _)
  have c : chs n (n - k) * (fct k * fct (n - k)) = chs n k * (fct k * fct (n - k)) := by
    rw [← Nat.mul_assoc, ← Nat.mul_assoc, a]
    rw [Nat.mul_right_comm] at b
    exact b
  exact Nat.eq_of_mul_eq_mul_right hp c
theorem fprod (n : Nat) : ∀ k, k ≤ n → Builtin.Math.fallingProduct (n : Int) k = (fll n k : Nat)
  | 0, _ => rfl
  | k + 1, h => by
    have ih := fprod n k (by omega)
    unfold Builtin.Math.fallingProduct at ih ⊢
    rw [List.range_succ, List.foldl_append, ih]
    show ((fll n k : Nat) : Int) * ((n : Int) - (k : Int)) = ((fll n k * (n - k) : Nat) : Int)
    rw [Int.natCast_mul, Int.natCast_sub (by omega)]
theorem chs_div {n k : Nat} (h : k ≤ n) : fll n k / fct k = chs n k := by
  rw [← chs_fll n k h, Nat.mul_div_cancel _ (fct_pos k)]
theorem mcComb_chs (n k : Nat) : PySem.W.mcComb (n : Int) (k : Int) = (chs n k : Nat) := by
  by_cases h : k ≤ n
  · have em : ∃ m : Nat, min (k : Int) ((n : Int) - k) = (m : Int) ∧ m ≤ n ∧ chs n m = chs n k := by
      by_cases h2 : k ≤ n - k
      · exact ⟨k, by omega, h, rfl⟩
      · exact ⟨n - k, by omega, by omega, chs_sym n k h⟩
    obtain ⟨m, e1, e2, e3⟩ := em
    rw [PySem.W.mcComb_at (by omega) (by omega) e1, Int.toNat_natCast, fprod n m e2, fprod m m (Nat.le_refl _), fll_self, ← e3, ← chs_div e2, Int.natCast_ediv]
  · rw [PySem.W.mcComb_above (by omega), chs_big n k (by omega)]
    rfl
theorem cr_comb {X : Cx} : CallR X (.builtin "math.comb") (fun xs H Q => ∃ n k : Nat, xs = [.int n, .int k] ∧ n ≤ 18000 ∧ Q (.int (chs n k : Nat)) H) := by
  intro pins s σ H xs us Q I r h
  obtain ⟨n, k, rfl, hn, q⟩ := h
  obtain ⟨u1, u2, rfl, ⟨t, rfl⟩, ⟨t', rfl⟩⟩ := vals2 r
  refine PySem.W.mc_comb_v (by omega) (by omega) (by omega) (.inr (by omega)) (mcComb_chs n k) ?_
  exact ⟨.int _, H, I.tok _, ⟨_, rfl⟩, q⟩

/-! ### heaps -/
theorem same_put {H0 H : Hp} {D : Addr} {o : HO} (s : Same H0 H) (h : H0 D = none) : Same H0 (upd H D o) := fun b x e => by
  rw [upd_ne (ne_of_none e h)]
  exact s _ _ e

/-! ### data that may be shown and compared -/
mutual
def okD : PyData → Bool
  | .int i => decide (i.natAbs.log2 < 900)
  | .str x => x.cps.toList.all fun c => decide (c < 1114112)
  | .list xs | .tuple xs => okDs xs
  | .dict _ => false
  | .none | .bool _ => true
def okDs : List PyData → Bool
  | [] => true
  | x :: xs => okD x && okDs xs
end
mutual
theorem okD_all : ∀ d : PyData, okD d = true → d.showable = true ∧ d.hasDict = false ∧ d.leavesShort 1000 = true ∧ d.canLay0 = true
  | .none, _ => ⟨by simp only [PyData.showable], by simp only [PyData.hasDict], by simp only [PyData.leavesShort], by simp only [PyData.canLay0]⟩
  | .bool _, _ => ⟨by simp only [PyData.showable], by simp only [PyData.hasDict], by simp only [PyData.leavesShort], by simp only [PyData.canLay0]⟩
  | .int i, h => by
    have h1 : i.natAbs.log2 < 900 := by simpa only [okD, decide_eq_true_eq] using h
    refine ⟨by simp only [PyData.showable, decide_eq_true_eq]; omega, by simp only [PyData.hasDict], ?_, by simp only [PyData.canLay0]⟩
    have h2 := int_text_length_le (a := i) (k := 900) (by decide) h1
    have h3 : (PyData.shown (.int i)).length ≤ 1000 := by
      simp only [PyData.shown]
      show (Str.ofString (toString i)).length ≤ 1000
      have h4 := PySem.ofString_length (toString i)
      omega
    simp only [PyData.leavesShort]
    exact decide_eq_true h3
  | .str x, h => by
    have h1 : ∀ c ∈ x.cps.toList, c < 1114112 := by simpa only [okD, List.all_eq_true, decide_eq_true_eq] using h
    refine ⟨by simp only [PyData.showable], by simp only [PyData.hasDict], ?_, ?_⟩
    · simp only [PyData.leavesShort, List.all_eq_true, decide_eq_true_eq]
      intro c hc
      exact Nat.lt_of_lt_of_le (h1 c hc) (by decide)
    · simp only [PyData.canLay0, PyData.strOk]
      rw [← Array.all_toList, List.all_eq_true]
      intro c hc
      exact decide_eq_true (h1 c hc)
  | .list xs, h => by
    obtain ⟨a, b, c, d⟩ := okDs_all xs (by simpa only [okD] using h)
    exact ⟨by simpa only [PyData.showable] using a, by simpa only [PyData.hasDict] using b, by simpa only [PyData.leavesShort] using c, by simpa only [PyData.canLay0] using d⟩
  | .tuple xs, h => by
    obtain ⟨a, b, c, d⟩ := okDs_all xs (by simpa only [okD] using h)
    exact ⟨by simpa only [PyData.showable] using a, by simpa only [PyData.hasDict] using b, by simpa only [PyData.leavesShort] using c, by simpa only [PyData.canLay0] using d⟩
  | .dict _, h => by simp only [okD, Bool.false_eq_true] at h
theorem okDs_all : ∀ xs : List PyData, okDs xs = true → PyData.showableAll xs = true ∧ PyData.hasDictAll xs = false ∧ PyData.leavesShortAll 1000 xs = true ∧ PyData.canLayAll0 xs = true
  | [], _ => ⟨by simp only [PyData.showableAll], by simp only [PyData.hasDictAll], by simp only [PyData.leavesShortAll], by simp only [PyData.canLayAll0]⟩
  | x :: xs, h => by
    have h1 : okD x = true ∧ okDs xs = true := by simpa only [okDs, Bool.and_eq_true] using h
    obtain ⟨a, b, c, d⟩ := okD_all x h1.1
    obtain ⟨a', b', c', d'⟩ := okDs_all xs h1.2
    exact ⟨by simp only [PyData.showableAll, a, a', Bool.and_self], by simp only [PyData.hasDictAll, b, b', Bool.or_self], by simp only [PyData.leavesShortAll, c, c', Bool.and_self], by simp only [PyData.canLayAll0, d, d', Bool.and_self]⟩
end
/-- x is the data d, small enough -/
structure GD (K : PySem.W.Frag) (H : Hp) (x : V) (d : PyData) : Prop where
  at_ : Dp K H x d
  ok : okD d = true
  bk : d.bulk ≤ 10000
  dp : d.depth ≤ 60
theorem GD.shaped {K : PySem.W.Frag} {H : Hp} {x : V} {d : PyData} (h : GD K H x d) : SeqAt.shaped d = true := by
  unfold SeqAt.shaped
  rw [(okD_all d h.ok).2.2.2, decide_eq_true (Nat.le_trans h.dp (by decide))]
  rfl
theorem GD.short {K : PySem.W.Frag} {H : Hp} {x : V} {d : PyData} (h : GD K H x d) : d.shown.length ≤ sizeLine := by
  have e := PyData.shown_le_bulk 1000 (by decide) d (okD_all d h.ok).2.2.1
  have b := h.bk
  rw [sizeLine_eq]
  have m : (1000 + 2) * d.bulk ≤ (1000 + 2) * 10000 := Nat.mul_le_mul_left _ b
  omega
section
variable {X : Cx}
theorem cr_show (gd : X.A.guards = some []) (hu : X.A.units + 64 < cLine) : CallR X (.builtin "repr") (fun xs H Q => ∃ x d, xs = [x] ∧ GD X.K H x d ∧ Q (.str d.shown) H) := by
  intro pins s σ H xs us Q I r h
  obtain ⟨x, d, rfl, g, q⟩ := h
  obtain ⟨a, b, _, _⟩ := okD_all d g.ok
  exact cr_repr gd hu pins s σ H _ us Q I r ⟨x, d, rfl, g.at_, a, b, g.dp, g.short, q⟩
theorem op_eqG (hu : X.A.units + 64 < cLine) : OpR X (compareOp .Eq) (fun x y H Q => ∃ d e, GD X.K H x d ∧ GD X.K H y e ∧ Q (.bl (PyData.eqv d e)) H) := by
  intro pins s σ H x y v u Q I rx ry h
  obtain ⟨d, e, hd, he, q⟩ := h
  exact op_eqD hu pins s σ H x y v u Q I rx ry ⟨d, e, hd.at_, he.at_, hd.shaped, he.shaped, q⟩
theorem op_neG (hu : X.A.units + 64 < cLine) : OpR X (compareOp .NotEq) (fun x y H Q => ∃ d e, GD X.K H x d ∧ GD X.K H y e ∧ Q (.bl (!PyData.eqv d e)) H) := by
  intro pins s σ H x y v u Q I rx ry h
  obtain ⟨d, e, hd, he, q⟩ := h
  exact op_neD hu pins s σ H x y v u Q I rx ry ⟨d, e, hd.at_, he.at_, hd.shaped, he.shaped, q⟩
end
theorem GD.of {K : PySem.W.Frag} {H : Hp} {a : Addr} {xs : List V} {ds : List PyData} (h : SqL K H a xs) (p : DpAll K H xs ds) (o : okDs ds = true) (b : PyData.bulkAll ds ≤ 10000) (n : PyData.depthAll ds ≤ 59) : GD K H (.ref a) (.list ds) :=
  ⟨.lst h p, by simpa only [okD] using o, by simpa only [PyData.bulk] using b, by simp only [PyData.depth]; omega⟩
theorem GD.ofT {K : PySem.W.Frag} {H : Hp} {a : Addr} {xs : List V} {ds : List PyData} (h : SqT K H a xs) (p : DpAll K H xs ds) (o : okDs ds = true) (b : PyData.bulkAll ds ≤ 10000) (n : PyData.depthAll ds ≤ 59) : GD K H (.ref a) (.tuple ds) :=
  ⟨.tup h p, by simpa only [okD] using o, by simpa only [PyData.bulk] using b, by simp only [PyData.depth]; omega⟩
end EH

namespace EH
open PySem PySem.Spec PyProof.Rows L2
theorem pow_ok {m : Int} (h0 : 0 < m) (h1 : m ≤ 1000000) : m.natAbs < 2 ^ 2000 :=
  Nat.lt_of_lt_of_le (show m.natAbs < 2 ^ 20 by omega) (Nat.pow_le_pow_right (by decide) (by decide))
theorem log2_of_lt {n k : Nat} (hk : 0 < k) (h : n < 2 ^ k) : n.log2 < k := by
  by_cases h0 : n = 0
  · subst h0
    simpa using hk
  · exact (Nat.log2_lt h0).mpr h
end EH

set_option Elab.async false
set_option linter.all false
set_option maxRecDepth 100000
set_option maxHeartbeats 2000000
/-! EH2: texts as rows of signs: our rules beside the hand layer's. -/
namespace EH
open PySem PySem.Spec PyProof.Rows L2
open SX (S S_len S_cat S_inj join_S S_tl)
/-- x[lo:hi], of signs -/
def cutN (a : List Nat) (lo hi : Option Int) : List Nat := (a.drop (HT.sIx a.length 0 lo)).take (HT.sIx a.length a.length hi - HT.sIx a.length 0 lo)
theorem cutS_S (a : List Nat) (lo hi : Option Int) : cutS (S a) lo hi = S (cutN a lo hi) := by
  unfold cutS cutN
  rw [S_len]
theorem cutN_all (a : List Nat) : cutN a none none = a := by
  unfold cutN
  rw [HT.sIx_none, HT.sIx_none, Nat.sub_zero, List.drop_zero, List.take_length]
theorem cutN_to (a : List Nat) (k : Nat) : cutN a none (some (k : Int)) = a.take k := by
  unfold cutN
  rw [HT.sIx_none, HT.sIx_nat, List.drop_zero, Nat.sub_zero]
  rcases Nat.le_total k a.length with h | h
  · rw [Nat.min_eq_left h]
  · rw [Nat.min_eq_right h, List.take_of_length_le (Nat.le_refl _), List.take_of_length_le h]
theorem cutN_from (a : List Nat) (k : Nat) : cutN a (some (k : Int)) none = a.drop k := by
  unfold cutN
  rw [HT.sIx_none, HT.sIx_nat]
  rcases Nat.le_total k a.length with h | h
  · rw [Nat.min_eq_left h, List.take_of_length_le (by rw [List.length_drop]; exact Nat.le_refl _)]
  · rw [Nat.min_eq_right h, List.drop_eq_nil_of_le (Nat.le_refl _), List.drop_eq_nil_of_le h, List.take_nil]
theorem cutN_len (a : List Nat) (lo hi : Option Int) : (cutN a lo hi).length ≤ a.length := by
  unfold cutN
  rw [List.length_take, List.length_drop]
  omega
theorem cutN_mid (a : List Nat) (i j : Nat) : cutN a (some (i : Int)) (some (j : Int)) = (a.drop i).take (j - i) := by
  unfold cutN
  rw [HT.sIx_nat, HT.sIx_nat]
  rcases Nat.le_total i a.length with h | h
  · rw [Nat.min_eq_left h]
    rcases Nat.le_total j a.length with h' | h'
    · rw [Nat.min_eq_left h']
    · rw [Nat.min_eq_right h', List.take_of_length_le (by rw [List.length_drop]; exact Nat.le_refl _), List.take_of_length_le (by rw [List.length_drop]; omega)]
  · rw [Nat.min_eq_right h, List.drop_eq_nil_of_le (Nat.le_refl _), List.drop_eq_nil_of_le h, List.take_nil, List.take_nil]
theorem count_S (a : List Nat) (c : Nat) : Txt.count (S a) (S [c]) = ((a.count c : Nat) : Int) := by
  show Txt.count (S a) ⟨#[c]⟩ = _
  rw [count_cnt]
  show cnt c a = _
  induction a with
  | nil => rfl
  | cons x r ih =>
    rw [cnt_cons, ih, List.count_cons]
    by_cases e : x = c
    · subst e
      simp
      omega
    · simp [e]
section
variable {X : Cx}
/-- a written text -/
theorem pe_lit {x : Str} {j pos} {l : List Nat} (h : x = S l) : PE X (.Constant (.str x) j pos) (tC (.str (S l))) := by
  subst h
  exact pe_str
theorem mt_countS : MtR X "str.count" (fun x xs H Q => ∃ (a : List Nat) (c : Nat), x = .str (S a) ∧ xs = [.str (S [c])] ∧ Q (.int (a.count c : Nat)) H) := by
  intro pins s σ H x v xs us Q I r rs h
  obtain ⟨a, c, rfl, rfl, q⟩ := h
  rw [← count_S] at q
  exact mt_count pins s σ H _ _ _ _ Q I r rs ⟨_, _, rfl, rfl, q⟩
theorem sl_S : SlR X (fun x lo hi H Q => ∃ a : List Nat, x = .str (S a) ∧ a.length ≤ sizeLine ∧ Q (.str (S (cutN a lo hi))) H) := by
  intro pins s σ H x v vl vu lo hi sl Q I rx hs pl pu h
  obtain ⟨a, rfl, hz, q⟩ := h
  rw [← cutS_S] at q
  exact sl_str pins s σ H _ v vl vu lo hi sl Q I rx hs pl pu ⟨_, rfl, by rw [S_len]; exact hz, q⟩
theorem op_add_S : OpR X (binaryOp .Add) (fun x y H Q => ∃ a b : List Nat, x = .str (S a) ∧ y = .str (S b) ∧ a.length + b.length ≤ sizeLine ∧ Q (.str (S (a ++ b))) H) := by
  intro pins s σ H x y v u Q I rx ry h
  obtain ⟨a, b, rfl, rfl, hz, q⟩ := h
  rw [← S_cat] at q
  exact op_add_str pins s σ H _ _ v u Q I rx ry ⟨_, _, rfl, rfl, by rw [S_len, S_len]; exact hz, q⟩
theorem op_rep_S : OpR X (binaryOp .Mult) (fun x y H Q => ∃ (a : List Nat) (n : Nat), x = .str (S a) ∧ y = .int n ∧ n ≤ 1000000 ∧ a.length * n ≤ sizeLine ∧ a.length ≤ 1000000 ∧ Q (.str (S (List.replicate n a).flatten)) H) := by
  intro pins s σ H x y v u Q I rx ry h
  obtain ⟨a, n, rfl, rfl, h1, h2, h3, q⟩ := h
  exact op_rep_str pins s σ H _ _ v u Q I rx ry ⟨_, n, rfl, rfl, h1, by rw [S_len]; exact h2, by rw [S_len]; exact h3, q⟩
theorem op_eq_S : OpR X (compareOp .Eq) (fun x y H Q => ∃ a b : List Nat, x = .str (S a) ∧ y = .str (S b) ∧ Q (.bl (decide (a = b))) H) := by
  intro pins s σ H x y v u Q I rx ry h
  obtain ⟨a, b, rfl, rfl, q⟩ := h
  refine op_eq pins s σ H _ _ v u Q I rx ry ⟨rfl, ?_⟩
  have e : decide (V.str (S a) = V.str (S b)) = decide (a = b) := by
    by_cases h : a = b
    · subst h; simp
    · rw [decide_eq_false h, decide_eq_false]
      exact fun z => h (S_inj (V.str.inj z))
  rw [e]
  exact q
theorem op_ne_S : OpR X (compareOp .NotEq) (fun x y H Q => ∃ a b : List Nat, x = .str (S a) ∧ y = .str (S b) ∧ Q (.bl (!decide (a = b))) H) := by
  intro pins s σ H x y v u Q I rx ry h
  obtain ⟨a, b, rfl, rfl, q⟩ := h
  refine op_ne pins s σ H _ _ v u Q I rx ry ⟨rfl, ?_⟩
  have e : decide (V.str (S a) = V.str (S b)) = decide (a = b) := by
    by_cases h : a = b
    · subst h; simp
    · rw [decide_eq_false h, decide_eq_false]
      exact fun z => h (S_inj (V.str.inj z))
  rw [e]
  exact q
theorem op_in_S : OpR X (compareOp .In) (fun x y H Q => ∃ (c : Nat) (a : List Nat), x = .str (S [c]) ∧ y = .str (S a) ∧ Q (.bl (decide (c ∈ a))) H) := by
  intro pins s σ H x y v u Q I rx ry h
  obtain ⟨c, a, rfl, rfl, q⟩ := h
  exact op_in_sign pins s σ H _ _ v u Q I rx ry ⟨c, S a, rfl, rfl, q⟩
theorem op_notIn_S : OpR X (compareOp .NotIn) (fun x y H Q => ∃ (c : Nat) (a : List Nat), x = .str (S [c]) ∧ y = .str (S a) ∧ Q (.bl (!decide (c ∈ a))) H) := by
  intro pins s σ H x y v u Q I rx ry h
  obtain ⟨c, a, rfl, rfl, q⟩ := h
  exact op_notIn_sign pins s σ H _ _ v u Q I rx ry ⟨c, S a, rfl, rfl, q⟩
theorem call_len_S : CallR X (.builtin "len") (fun xs H Q => ∃ a : List Nat, xs = [.str (S a)] ∧ a.length ≤ sizeLine ∧ Q (.int (a.length : Nat)) H) := by
  intro pins s σ H xs us Q I r h
  obtain ⟨a, rfl, hz, q⟩ := h
  refine call_len_str pins s σ H _ us Q I r ⟨_, rfl, by rw [S_len]; exact hz, ?_⟩
  rw [S_len]
  exact q
theorem mt_joinS : MtR X "str.join" (fun x xs H Q => ∃ (p : Addr) (ys : List (List Nat)), x = .str (S []) ∧ xs = [.ref p] ∧ (SqL X.K H p (ys.map fun y => V.str (S y)) ∨ SqT X.K H p (ys.map fun y => V.str (S y))) ∧ ys.flatten.length ≤ 16777216 ∧ Q (.str (S ys.flatten)) H) := by
  intro pins s σ H x v xs us Q I r rs h
  obtain ⟨p, ys, rfl, rfl, hp, hz, q⟩ := h
  have e0 : (ys.map fun y => V.str (S y)) = (ys.map S).map V.str := by rw [List.map_map]; rfl
  have ej : ∀ l : List (List Nat), TL.joinL [] l = l.flatten := by
    intro l
    induction l with
    | nil => rfl
    | cons a l ih =>
      cases l with
      | nil => rw [List.flatten_cons, List.flatten_nil, List.append_nil]; rfl
      | cons b l => rw [List.flatten_cons, ← ih]; rfl
  have el : ∀ l : List (List Nat), ((l.map S).map (·.length)).sum = l.flatten.length := by
    intro l
    induction l with
    | nil => rfl
    | cons a l ih => rw [List.map_cons, List.map_cons, List.sum_cons, ih, List.flatten_cons, List.length_append, S_len]
  rw [e0] at hp
  refine mt_join pins s σ H _ _ _ _ Q I r rs ⟨_, p, ys.map S, rfl, rfl, hp, ?_, ?_⟩
  · rw [el, S_len]
    simpa using hz
  · rw [join_S, ej]
    exact q
end
/-- x[::-1] -/
theorem revN (a : List Nat) (u : Tok) : Txt.sliceBy (S a) none none (-1, u) = S a.reverse := by
  have h := step_rev_list (S a) u
  generalize Txt.sliceBy (S a) none none (-1, u) = z at h ⊢
  have e : z = S z.cps.toList := (S_tl z).symm
  rw [e, h]
  congr 1
  have hl : (S a).length = a.length := S_len a
  have : ((List.range (S a).length).map fun k => (S a).cps.getD ((S a).length - 1 - k) 0) = a.reverse := by
    rw [hl]
    refine List.ext_getElem (by simp) fun i h1 h2 => ?_
    rw [List.getElem_map, List.getElem_range, List.getElem_reverse]
    have hi : i < a.length := by simpa using h1
    show (a.toArray).getD (a.length - 1 - i) 0 = _
    have hj : a.length - 1 - i < a.length := by omega
    simp [Array.getD, hj]
  rw [this]
def tRevS (te : TE) : TE := fun σ H Q => te σ H fun x H1 => ∃ a : List Nat, x = .str (S a) ∧ a.length ≤ sizeLine ∧ Q (.str (S a.reverse)) H1
theorem pe_revS {X : Cx} {e : Expr} {te : TE} {k : Nat} {p1 p2 p3 pos : Pos} (he : PE X e te) : PE X (.Subscript e (.Slice none none (some (.UnaryOp .USub (.Constant (.int 1) k p1) p2)) p3) pos) (tRevS te) := by
  refine ⟨fun pins s σ H Q I h => ?_⟩
  refine Subscript_ (thn (he.run pins s σ H _ I h) fun v s1 ⟨x, H1, I1, r1, q1⟩ => ?_)
  obtain ⟨a, ex, hz, q⟩ := q1
  subst ex
  obtain ⟨t, rfl⟩ := r1
  have hst : PO X (some (.UnaryOp .USub (.Constant (.int 1) k p1) p2)) (tPart (tUn (rU fun i => .int (-i)) (tC (.int 1)))) := po_some (pe_un un_neg pe_int)
  refine wpAny_Slice (thn (po_none.run pins s1 σ H1 (fun o H2 => o = none ∧ H2 = H1) I1 ⟨rfl, rfl⟩) fun vl s2 ⟨l, H2, I2, pl, el, e2⟩ => ?_)
  subst el e2
  refine thn (po_none.run pins s2 σ H2 (fun o H3 => o = none ∧ H3 = H2) I2 ⟨rfl, rfl⟩) fun vu s3 ⟨u, H3, I3, pu, eu, e3⟩ => ?_
  subst eu e3
  refine thn (hst.run pins s3 σ H3 (fun o H4 => o = some (-1) ∧ H4 = H3) I3 ⟨1, rfl, -1, rfl, rfl, rfl⟩) fun vs s4 ⟨o, H4, I4, ps, eo, e4⟩ => ?_
  subst eo e4
  have I5 : L2.Inv X pins σ H4 { s4 with heap := s4.heap.push { cls := .type "slice", data := .fields #[vl, vu, vs] } } := I4.kept (t' := s4.toks) fun b ob q => Heap.get?_push_of_some _ q
  obtain ⟨l, rfl, hl1⟩ := IsPart.raw pl
  obtain ⟨u, rfl, hu1⟩ := IsPart.raw pu
  obtain ⟨w, rfl, hw1⟩ := IsPart.raw ps
  cases l with
  | some l => cases hl1
  | none =>
  cases u with
  | some u => cases hu1
  | none =>
  cases w with
  | none => cases hw1
  | some w =>
  obtain ⟨i, tw⟩ := w
  have ei : i = -1 := Option.some.inj hw1
  subst ei
  show wpAny (model X.prog X.w) X.A (subscriptTail e (.Slice none none (some (.UnaryOp .USub (.Constant (.int 1) k p1) p2)) p3) (.str (S a) t) (.ref s4.heap.objs.size)) (EP X pins σ Q) X.xe { s4 with heap := s4.heap.push { cls := .type "slice", data := .fields #[_, _, _] } }
  refine tail_any (ops := [.str (S a) t, .ref s4.heap.objs.size]) (typeIs_str _ _ _) F.slot_str_getitem.lookup ?_ (by with_unfolding_all rfl)
  refine wpAny_getItem_str_slice (l := none) (u := none) (st := some (-1, tw)) ⟨_, Heap.get?_push_size _ rfl, rfl, rfl⟩ rfl ?_
  have er := revN a tw
  unfold Txt.sliceBy at er
  show Made.post (if _ then Made.val (.str (S a) t) else Made.str _) _ _
  split
  · rename_i c
    rw [if_pos c] at er
    exact ⟨.str (S a), _, I5, ⟨t, rfl⟩, by rw [er]; exact q⟩
  · rename_i c
    rw [if_neg c] at er
    have hl2 : (Str.length ⟨(List.filterMap (fun x => (S a).cps[x]?) (slicePicked (S a) none none (some (-1, tw)))).toArray⟩) = a.length := by
      rw [er, S_len, List.length_reverse]
    refine ⟨Nat.le_trans (Nat.le_of_eq hl2) hz, ?_⟩
    show EP X pins σ Q (.str ⟨(List.filterMap (fun x => (S a).cps[x]?) (slicePicked (S a) none none (some (-1, tw)))).toArray⟩ _) _
    rw [er]
    exact ⟨.str (S a.reverse), _, I5.tok _, ⟨_, rfl⟩, q⟩
/-- the signs of a text, as values -/
def sgs (a : List Nat) : List V := a.map fun c => V.str (S [c])
theorem vals_signs {a : List Nat} {acc : Array Value} (h : ItemsOf (SignAt (S a)) acc (S a).cps.size) : Vals (sgs a) acc.toList := by
  obtain ⟨hs, hi⟩ := h
  have hs' : acc.size = a.length := by rw [hs]; simp
  have key : ∀ (b : List Nat) (l : List Value), b.length = l.length → (∀ (j : Nat) (v : Value), l[j]? = some v → ∃ c u, b[j]? = some c ∧ v = Value.str ⟨#[c]⟩ u) → Vals (sgs b) l := by
    intro b
    induction b with
    | nil =>
      intro l hl _
      cases l with
      | nil => exact .nil
      | cons v l => cases hl
    | cons c b ih =>
      intro l hl h
      cases l with
      | nil => cases hl
      | cons v l =>
        obtain ⟨c', u, e1, e2⟩ := h 0 v rfl
        cases e1
        exact .cons ⟨u, e2⟩ (ih l (Nat.succ.inj hl) fun j v hj => h (j + 1) v hj)
  refine key a acc.toList (by rw [Array.length_toList]; exact hs'.symm) fun j v hj => ?_
  obtain ⟨c, u, h1, h2⟩ := hi j v (by simpa using hj)
  exact ⟨c, u, by simpa using h1, h2⟩
theorem call_list_S {X : Cx} (hc : X.calm = true) : CallR X (.type "list") (fun xs H Q => ∃ a : List Nat, xs = [.str (S a)] ∧ a.length ≤ sizeLine ∧ ∀ l, H l = none → Q (.ref l) (upd H l (.lst (sgs a)))) := by
  intro pins s σ H xs us Q I r h
  obtain ⟨a, rfl, hz, q⟩ := h
  obtain ⟨u, rfl, rx⟩ := vals1 r
  obtain ⟨t, rfl⟩ := rx
  refine call_list_str (I.ok.hd hc) (S a) t (fun h' tk acc' c' kp e hi => ?_) (by simpa using hz)
  have r' := vals_signs hi
  refine ⟨.ref s.heap.objs.size, _, I.laid (t' := tk) kp (Nat.le_refl _) (show ObjOk X.prog X.w _ h' _ (.lst (sgs a)) from ⟨by unfold sgs; rw [List.length_map]; exact hz, acc'.toList, c', r', by rw [Array.toArray_toList]; exact e⟩), rfl, q _ (I.hok.fresh (Nat.le_refl _))⟩
theorem call_tuple_S {X : Cx} (hc : X.calm = true) : CallR X (.type "tuple") (fun xs H Q => ∃ a : List Nat, xs = [.str (S a)] ∧ a.length ≤ sizeLine ∧ ∀ l, H l = none → Q (.ref l) (upd H l (.tup (sgs a)))) := by
  intro pins s σ H xs us Q I r h
  obtain ⟨a, rfl, hz, q⟩ := h
  obtain ⟨u, rfl, rx⟩ := vals1 r
  obtain ⟨t, rfl⟩ := rx
  refine call_tuple_str (I.ok.hd hc) (S a) t (fun h' tk acc kp hi => ?_) (by simpa using hz)
  have r' := vals_signs hi
  have I1 : L2.Inv X pins σ H { s with heap := h' } := I.kept (t' := s.toks) kp
  have I2 : L2.Inv X pins σ (upd H h'.objs.size (.tup (sgs a))) { s with heap := h'.push { cls := .type "tuple", data := .seq acc }, toks := tk } :=
    I1.laid (t' := tk) (fun b o e => Heap.get?_push_of_some _ e) (Nat.le_refl _) (show ObjOk X.prog X.w _ _ _ (.tup (sgs a)) from ⟨by unfold sgs; rw [List.length_map]; exact hz, acc.toList, r', by rw [Array.toArray_toList]; exact IsTup.new _ _⟩)
  exact ⟨.ref h'.objs.size, _, I2, rfl, q _ (I1.hok.fresh (Nat.le_refl _))⟩
/-- what pi_str walks -/
theorem its_at {a : List Nat} {i : Nat} {H H' : Hp} {x : V} (h : (Its (S a)).yld i H x H') : H' = H ∧ ∃ c, a[i]? = some c ∧ x = .str (S [c]) := by
  obtain ⟨e, c, h1, h2⟩ := h
  refine ⟨e, c, ?_, h2⟩
  simpa using h1
theorem its_go {a : List Nat} {i : Nat} {H : Hp} (h : i < a.length) : (Its (S a)).go i H := by
  show i < (S a).cps.size
  simpa using h
theorem its_stop {a : List Nat} {i : Nat} {H : Hp} (h : a.length ≤ i) : (Its (S a)).stop i H := by
  show (S a).cps.size ≤ i
  simpa using h
theorem for_S {a : List Nat} {g : TG} {tb : TS} {D : Ends} {σ : L2.St} {H : Hp} (Pv : Nat → L2.St → Hp → Prop) (h0 : Pv 0 σ H)
    (hs : ∀ i c σ H, a[i]? = some c → Pv i σ H → g (.str (S [c])) σ H fun σ2 H2 => tb { D with nx := Pv (i + 1), ct := Pv (i + 1), bk := D.nx } σ2 H2) (hd : ∀ σ H, Pv a.length σ H → D.nx σ H) :
    ∃ W : Nat → Nat → L2.St → Hp → Prop, (∃ m, W 0 m σ H) ∧ ∀ i m σ H, W i m σ H →
      ((Its (S a)).stop i H ∧ D.nx σ H) ∨ ((Its (S a)).go i H ∧ ∃ N : L2.St → Hp → Prop, (∀ σ' H', N σ' H' → ∃ m', m' < m ∧ W (i + 1) m' σ' H') ∧ ∀ x H', (Its (S a)).yld i H x H' → g x σ H' fun σ2 H2 => tb { D with nx := N, ct := N, bk := D.nx } σ2 H2) := by
  refine ⟨fun i m σ H => m = a.length - i ∧ i ≤ a.length ∧ Pv i σ H, ⟨a.length, by simp, Nat.zero_le _, h0⟩, ?_⟩
  rintro i m σ H ⟨rfl, hi, p⟩
  by_cases hlt : i < a.length
  · refine .inr ⟨its_go hlt, Pv (i + 1), fun σ' H' p' => ⟨a.length - (i + 1), by omega, rfl, hlt, p'⟩, fun x H' y => ?_⟩
    obtain ⟨rfl, c, hc, rfl⟩ := its_at y
    exact hs i c σ _ hc p
  · have e : i = a.length := by omega
    subst e
    exact .inl ⟨its_stop (Nat.le_refl _), hd σ H p⟩
theorem lc_S {a : List Nat} {g : TG} {tt : TT} {te : TE} {vs : List Nat} {σ : L2.St} {H1 : Hp} {D : Addr} {Qd : Hp → Prop} (Pv : Nat → Hp → Prop) (h0 : Pv 0 (upd H1 D (.lst [])))
    (hs : ∀ i c H, a[i]? = some c → Pv i H → g (.str (S [c])) (wipe σ vs) H fun σ2 H2 => wipe σ2 vs = wipe σ vs ∧ tt σ2 H2 fun b H3 =>
      if b = true then te σ2 H3 fun y H4 => ∃ acc, H4 D = some (.lst acc) ∧ acc.length < sizeLine ∧ Pv (i + 1) (upd H4 D (.lst (acc ++ [y]))) else Pv (i + 1) H3) (hd : ∀ H, Pv a.length H → Qd H) :
    ∃ W : Nat → Nat → Hp → Prop, (∃ m, W 0 m (upd H1 D (.lst []))) ∧ ∀ i m H, W i m H →
      ((Its (S a)).stop i H ∧ Qd H) ∨ ((Its (S a)).go i H ∧ ∃ Nx : Hp → Prop, (∀ H', Nx H' → ∃ m', m' < m ∧ W (i + 1) m' H') ∧ ∀ x H', (Its (S a)).yld i H x H' → g x (wipe σ vs) H' fun σ2 H2 => wipe σ2 vs = wipe σ vs ∧ tt σ2 H2 fun b H3 =>
        if b = true then te σ2 H3 fun y H4 => ∃ acc, H4 D = some (.lst acc) ∧ acc.length < sizeLine ∧ Nx (upd H4 D (.lst (acc ++ [y]))) else Nx H3) := by
  refine ⟨fun i m H => m = a.length - i ∧ i ≤ a.length ∧ Pv i H, ⟨a.length, by simp, Nat.zero_le _, h0⟩, ?_⟩
  rintro i m H ⟨rfl, hi, p⟩
  by_cases hlt : i < a.length
  · refine .inr ⟨its_go hlt, Pv (i + 1), fun H' p' => ⟨a.length - (i + 1), by omega, rfl, hlt, p'⟩, fun x H' y => ?_⟩
    obtain ⟨rfl, c, hc, rfl⟩ := its_at y
    exact hs i c _ hc p
  · have e : i = a.length := by omega
    subst e
    exact .inl ⟨its_stop (Nat.le_refl _), hd H p⟩
end EH

set_option Elab.async false
set_option linter.all false
set_option maxRecDepth 100000
set_option maxHeartbeats 2000000
/-! EH3: enumerate over a text; words of lists. -/
namespace EH
open PySem PySem.Spec PyProof.Rows L2
open SX (S S_len S_cat S_inj join_S S_tl)
/-- len of a list or a tuple, told by K alone -/
def rLenSq (K : PySem.W.Frag) : List V → Hp → VK → Prop := fun xs H Q => ∃ p ys, xs = [.ref p] ∧ (SqL K H p ys ∨ SqT K H p ys) ∧ Q (.int ys.length) H
/-- the signs of a text, each with its place in a new pair -/
def ItES (x : Str) : It :=
  ⟨fun i _ => i < x.cps.size, fun i H v H' => ∃ T c, v = .ref T ∧ H T = none ∧ H' = upd H T (.tup [.int (i : Nat), .str ⟨#[c]⟩]) ∧ x.cps[i]? = some c, fun i _ => i = x.cps.size⟩
theorem turn_enumS {P : Program} {w : World} {K : PySem.W.Frag} {elts : List Expr} {kk : Nat} {tpos : Pos} (x : Str) (t : Tok) (ty : String) (hty : ty = "str_ascii_iterator" ∨ ty = "str_iterator") (e it : Addr) :
    Turn P w K (.Tuple elts kk tpos) (ItES x) [e, it] e (fun i h => (∃ old, IsEnum h e it ((i : Nat) : Int) old) ∧ h.IsStrIter it ty x t i ∧ e ≠ it) where
  mem := by simp
  obj := fun i h st b hb => by
    obtain ⟨⟨old, he⟩, ⟨o, ho, hc, hd⟩, _⟩ := st
    have e' : b = e ∨ b = it := by simpa using hb
    rcases e' with z | z
    · rw [z]; exact ⟨_, he, fun v q => nomatch q⟩
    · rw [z]; exact ⟨o, ho, fun v q => by rw [hd] at q; cases q⟩
  keep := fun i h h' st k => let ⟨⟨old, he⟩, ⟨o, ho, r⟩, hne⟩ := st; ⟨⟨old, k e (by simp) _ he⟩, ⟨o, k it (by simp) o ho, r⟩, hne⟩
  item := by
    intro X hP hw hK hc i pins s σ H E I hf st hg
    subst hP hw hK
    have D : Draws X.prog X.w X.A.in1 it [it] x.cps.size (fun i v => ∃ c u, x.cps[i]? = some c ∧ v = Value.str ⟨#[c]⟩ u) (fun i h => h.IsStrIter it ty x t i) := by
      rcases hty with e | e
      · rw [e]; exact Draws.strAscii (A := X.A.in1) (show X.A.in1.handled = none from I.ok.hd hc) it x t
      · rw [e]; exact Draws.strWide (A := X.A.in1) (show X.A.in1.handled = none from I.ok.hd hc) it x t
    obtain ⟨⟨old, he⟩, hit, hne⟩ := st
    have hel : e < s.heap.objs.size := Heap.lt_size he
    have hil : it < s.heap.objs.size := by obtain ⟨_, q, _⟩ := hit; exact Heap.lt_size q
    refine wpAny_pyNext_enum_itemD D he hit hg hne (by simpa using hne) fun u h' tk hu ho hit' hT hsz hk => ?_
    obtain ⟨c, tu, hcx, rfl⟩ := hu
    refine ⟨_, rfl, wpAny_letOwnedTupleGo_enum (s := { s with heap := h', toks := tk + 1 }) ho fun h'' he' sb => ?_⟩
    have hT2 : h''.get? s.heap.objs.size = some { cls := .type "tuple", data := .seq #[.int i tk, .str ⟨#[c]⟩ tu] } := (sb.2 _ (Nat.ne_of_gt hel)).trans hT
    have new : ObjOk X.prog X.w (upd H s.heap.objs.size (.tup [.int (i : Nat), .str ⟨#[c]⟩])) h'' s.heap.objs.size (.tup [.int (i : Nat), .str ⟨#[c]⟩]) :=
      ⟨by show 2 ≤ sizeLine; decide, [.int i tk, .str ⟨#[c]⟩ tu], .cons ⟨_, rfl⟩ (.cons ⟨_, rfl⟩ .nil), ⟨_, hT2, rfl, _, rfl⟩⟩
    have I1 : L2.Inv X pins σ (upd H s.heap.objs.size (.tup [.int (i : Nat), .str ⟨#[c]⟩])) { s with heap := h'', toks := tk + 1 } :=
      I.turnedNew (ch := [e, it]) (fun b ob hb q => (sb.2 b (fun z => hb (by simp [z]))).trans (hk b ob (fun z => hb (by simp [z])) (fun z => hb (by simp [z])) q)) hf (Nat.le_refl _) new
    refine ⟨.ref s.heap.objs.size, _, I1, rfl, ⟨_, c, rfl, I.hok.fresh (Nat.le_refl _), rfl, hcx⟩, ⟨⟨.str ⟨#[c]⟩ tu, ?_⟩, ?_, hne⟩, fun b hb => ?_⟩
    · have e1 : ((i + 1 : Nat) : Int) = (i : Int) + 1 := by omega
      rw [e1]; exact he'
    · obtain ⟨o, q1, q2⟩ := hit'
      exact ⟨o, (sb.2 it (Ne.symm hne)).trans q1, q2⟩
    · have hb' : b < s.heap.objs.size := by
        have e' : b = e ∨ b = it := by simpa using hb
        rcases e' with z | z
        · rw [z]; exact hel
        · rw [z]; exact hil
      rw [upd_ne (Nat.ne_of_lt hb')]
      exact (hf b hb).1
  done := by
    intro X hP hw hK hc i pins s σ H E I hf st hg
    subst hP hw hK
    have hi : i = x.cps.size := hg
    subst hi
    have D : Draws X.prog X.w X.A.in1 it [it] x.cps.size (fun i v => ∃ c u, x.cps[i]? = some c ∧ v = Value.str ⟨#[c]⟩ u) (fun i h => h.IsStrIter it ty x t i) := by
      rcases hty with e | e
      · rw [e]; exact Draws.strAscii (A := X.A.in1) (show X.A.in1.handled = none from I.ok.hd hc) it x t
      · rw [e]; exact Draws.strWide (A := X.A.in1) (show X.A.in1.handled = none from I.ok.hd hc) it x t
    obtain ⟨⟨old, he⟩, hit, hne⟩ := st
    obtain ⟨f0, f1, f2, f3, f4, f5⟩ := hf it (by simp)
    exact wpAny_pyNext_enum_endD D he hit fun h' eb => ⟨rfl, I.turned (t' := s.toks) (fun b o hb q => eb b o hb q) f0 f1 f3 f4 f5⟩
  self := fun A i s Q E st h => let ⟨⟨_, he⟩, _⟩ := st; wpAny_pyIter_enum he h
def iEnumS (ta : TA) : TI := fun σ H R => ta σ H fun vs H1 => ∃ a : List Nat, vs = [.str (S a)] ∧ R (ItES (S a)) H1
theorem pi_enumS {X : Cx} {e : Expr} {ta : TA} {p pos tpos : Pos} {elts : List Expr} {kk : Nat} (hg : Gl X "enumerate") (hm : X.mg "enumerate" = none) (ha : PA X [e] ta) (hs : starEach [e] X.env = [(false, eval e X.env)] := by rfl) :
    PI X (.Tuple elts kk tpos) (.Call (.Name "enumerate" p) [e] [] pos) (iEnumS ta) := by
  refine ⟨fun pins s σ H R I h => ?_⟩
  refine Call_ (ld_blt I hg hm boot_enumerate (PyProof.Rows.callWith_type1 (thn (ha.run pos pins s σ H _ I h) fun us s1 ⟨vs, H1, I1, r1, q1⟩ => ?_) hs rfl))
  obtain ⟨a, ex, q⟩ := q1
  subst ex
  obtain ⟨u, rfl, r⟩ := vals1 r1
  obtain ⟨t, rfl⟩ := r
  refine call_enumerate_str fun h' he hit hsz hk => wpAny_pyIter_enum he ?_
  have I2 : L2.Inv X pins σ H1 { s1 with heap := h' } := I1.kept (t' := s1.toks) hk
  have ty : strIterType (S a) = "str_ascii_iterator" ∨ strIterType (S a) = "str_iterator" := by
    unfold strIterType
    split
    · exact .inl rfl
    · exact .inr rfl
  refine ⟨s1.heap.objs.size + 1, [s1.heap.objs.size + 1, s1.heap.objs.size], _, _, H1, rfl, I2, turn_enumS (S a) t _ ty (s1.heap.objs.size + 1) s1.heap.objs.size, ⟨⟨.none, he⟩, hit, Nat.succ_ne_self _⟩, fun b hb => ?_, q⟩
  have e' : b = s1.heap.objs.size + 1 ∨ b = s1.heap.objs.size := by simpa using hb
  have hle : s1.heap.objs.size ≤ b := by
    rcases e' with z | z
    · rw [z]; exact Nat.le_add_right _ _
    · rw [z]; exact Nat.le_refl _
  exact I1.fpOk hle (I1.hok.fresh hle)
/-- each turn's pair: its place and its sign -/
theorem for_ES {K : PySem.W.Frag} {a : List Nat} {g : TG} {tb : TS} {D : Ends} {σ : L2.St} {H : Hp} (Pv : Nat → L2.St → Hp → Prop) (h0 : Pv 0 σ H)
    (hs : ∀ i c σ H T, a[i]? = some c → Pv i σ H → H T = none → g (.ref T) σ (upd H T (.tup [.int (i : Nat), .str (S [c])])) fun σ2 H2 => tb { D with nx := Pv (i + 1), ct := Pv (i + 1), bk := D.nx } σ2 H2) (hd : ∀ σ H, Pv a.length σ H → D.nx σ H) :
    ∃ W : Nat → Nat → L2.St → Hp → Prop, (∃ m, W 0 m σ H) ∧ ∀ i m σ H, W i m σ H →
      ((ItES (S a)).stop i H ∧ D.nx σ H) ∨ ((ItES (S a)).go i H ∧ ∃ N : L2.St → Hp → Prop, (∀ σ' H', N σ' H' → ∃ m', m' < m ∧ W (i + 1) m' σ' H') ∧ ∀ x H', (ItES (S a)).yld i H x H' → g x σ H' fun σ2 H2 => tb { D with nx := N, ct := N, bk := D.nx } σ2 H2) := by
  refine ⟨fun i m σ H => m = a.length - i ∧ i ≤ a.length ∧ Pv i σ H, ⟨a.length, by simp, Nat.zero_le _, h0⟩, ?_⟩
  rintro i m σ H ⟨rfl, hi, p⟩
  by_cases hlt : i < a.length
  · refine .inr ⟨by show i < (S a).cps.size; simpa using hlt, Pv (i + 1), fun σ' H' p' => ⟨a.length - (i + 1), by omega, rfl, hlt, p'⟩, fun x H' y => ?_⟩
    obtain ⟨T, c, rfl, hT, rfl, hc⟩ := y
    exact hs i c σ _ T (by simpa using hc) p hT
  · have e : i = a.length := by omega
    subst e
    exact .inl ⟨by show a.length = (S a).cps.size; simp, hd σ H p⟩
/-- enumerate of a list, in a for and in a comprehension -/
theorem for_E {K : PySem.W.Frag} {a : Addr} {xs : List V} {g : TG} {tb : TS} {D : Ends} {σ : L2.St} {H : Hp} (Pv : Nat → L2.St → Hp → Prop) (h0 : Pv 0 σ H) (hl : ∀ i σ H, i ≤ xs.length → Pv i σ H → SqL K H a xs)
    (hs : ∀ i x σ H T, xs[i]? = some x → Pv i σ H → H T = none → g (.ref T) σ (upd H T (.tup [.int (i : Nat), x])) fun σ2 H2 => tb { D with nx := Pv (i + 1), ct := Pv (i + 1), bk := D.nx } σ2 H2) (hd : ∀ σ H, Pv xs.length σ H → D.nx σ H) :
    ∃ W : Nat → Nat → L2.St → Hp → Prop, (∃ m, W 0 m σ H) ∧ ∀ i m σ H, W i m σ H →
      ((Ite K a).stop i H ∧ D.nx σ H) ∨ ((Ite K a).go i H ∧ ∃ N : L2.St → Hp → Prop, (∀ σ' H', N σ' H' → ∃ m', m' < m ∧ W (i + 1) m' σ' H') ∧ ∀ x H', (Ite K a).yld i H x H' → g x σ H' fun σ2 H2 => tb { D with nx := N, ct := N, bk := D.nx } σ2 H2) := by
  refine ⟨fun i m σ H => m = xs.length - i ∧ i ≤ xs.length ∧ Pv i σ H, ⟨xs.length, by simp, Nat.zero_le _, h0⟩, ?_⟩
  rintro i m σ H ⟨rfl, hi, p⟩
  have q := hl i σ H hi p
  by_cases hlt : i < xs.length
  · refine .inr ⟨⟨xs, xs[i], q, by simp [hlt]⟩, Pv (i + 1), fun σ' H' p' => ⟨xs.length - (i + 1), by omega, rfl, hlt, p'⟩, fun x H' y => ?_⟩
    obtain ⟨T, z, rfl, hT, rfl, hz⟩ := y
    exact hs i z σ _ T (hz xs q) p hT
  · have e : i = xs.length := by omega
    subst e
    exact .inl ⟨⟨xs, q, Nat.le_refl _⟩, hd σ H p⟩
theorem lc_E {K : PySem.W.Frag} {a : Addr} {xs : List V} {g : TG} {tt : TT} {te : TE} {vs : List Nat} {σ : L2.St} {H1 : Hp} {D : Addr} {Qd : Hp → Prop} (Pv : Nat → Hp → Prop) (h0 : Pv 0 (upd H1 D (.lst []))) (hl : ∀ i H, i ≤ xs.length → Pv i H → SqL K H a xs)
    (hs : ∀ i x H T, xs[i]? = some x → Pv i H → H T = none → g (.ref T) (wipe σ vs) (upd H T (.tup [.int (i : Nat), x])) fun σ2 H2 => wipe σ2 vs = wipe σ vs ∧ tt σ2 H2 fun b H3 =>
      if b = true then te σ2 H3 fun y H4 => ∃ acc, H4 D = some (.lst acc) ∧ acc.length < sizeLine ∧ Pv (i + 1) (upd H4 D (.lst (acc ++ [y]))) else Pv (i + 1) H3) (hd : ∀ H, Pv xs.length H → Qd H) :
    ∃ W : Nat → Nat → Hp → Prop, (∃ m, W 0 m (upd H1 D (.lst []))) ∧ ∀ i m H, W i m H →
      ((Ite K a).stop i H ∧ Qd H) ∨ ((Ite K a).go i H ∧ ∃ Nx : Hp → Prop, (∀ H', Nx H' → ∃ m', m' < m ∧ W (i + 1) m' H') ∧ ∀ x H', (Ite K a).yld i H x H' → g x (wipe σ vs) H' fun σ2 H2 => wipe σ2 vs = wipe σ vs ∧ tt σ2 H2 fun b H3 =>
        if b = true then te σ2 H3 fun y H4 => ∃ acc, H4 D = some (.lst acc) ∧ acc.length < sizeLine ∧ Nx (upd H4 D (.lst (acc ++ [y]))) else Nx H3) := by
  refine ⟨fun i m H => m = xs.length - i ∧ i ≤ xs.length ∧ Pv i H, ⟨xs.length, by simp, Nat.zero_le _, h0⟩, ?_⟩
  rintro i m H ⟨rfl, hi, p⟩
  have q := hl i H hi p
  by_cases hlt : i < xs.length
  · refine .inr ⟨⟨xs, xs[i], q, by simp [hlt]⟩, Pv (i + 1), fun H' p' => ⟨xs.length - (i + 1), by omega, rfl, hlt, p'⟩, fun x H' y => ?_⟩
    obtain ⟨T, z, rfl, hT, rfl, hz⟩ := y
    exact hs i z _ T (hz xs q) p hT
  · have e : i = xs.length := by omega
    subst e
    exact .inl ⟨⟨xs, q, Nat.le_refl _⟩, hd H p⟩
end EH

set_option Elab.async false
set_option linter.all false
set_option maxRecDepth 100000
set_option maxHeartbeats 2000000
/-! EH4: min of texts. -/
namespace EH
open PySem PySem.Spec PyProof.Rows L2
open SX (S S_len S_cat S_inj join_S S_tl)
open PySem.W (minD AlikeAll dataLt dataLt_str min_list_data min_tuple_data)
def minW (t : List Nat) (ts : List (List Nat)) : List Nat := ts.foldl (fun m x => if decide (x < m) = true then x else m) t
def TSd (ts : List (List Nat)) : List PyData := ts.map fun t => PyData.str (S t)
theorem readsAll_strs {h : Heap} : ∀ {ts : List (List Nat)} {its : List Value}, Vals (ts.map fun x => V.str (S x)) its → ∃ as, ReadsAll h its (TSd ts) as
  | [], its, r => by
    rw [List.map_nil] at r
    cases r
    exact ⟨_, .nil⟩
  | t :: ts, its, r => by
    rw [List.map_cons] at r
    cases r with
    | cons r1 r2 =>
      obtain ⟨tk, rfl⟩ := r1
      obtain ⟨as, ih⟩ := readsAll_strs (h := h) r2
      exact ⟨_, .cons (.str _ _) ih⟩
theorem minD_strs : ∀ (ts : List (List Nat)) (t : List Nat), minD (.str (S t)) (TSd ts) = .str (S (minW t ts))
  | [], t => rfl
  | x :: ts, t => by
    unfold minD minW TSd
    rw [List.map_cons, List.foldl_cons, List.foldl_cons]
    have e : dataLt (.str (S x)) (.str (S t)) = decide (x < t) := by
      rw [dataLt_str]
    rw [e]
    by_cases h : x < t
    · rw [decide_eq_true h]
      exact minD_strs ts x
    · rw [decide_eq_false h]
      exact minD_strs ts t
theorem alike_strs (ts : List (List Nat)) : AlikeAll (TSd ts) := by
  refine ⟨fun x hx y hy => ?_, fun x hx => ?_⟩
  · obtain ⟨a, _, rfl⟩ := List.mem_map.mp hx
    obtain ⟨b, _, rfl⟩ := List.mem_map.mp hy
    rfl
  · obtain ⟨a, _, rfl⟩ := List.mem_map.mp hx
    exact nofun
theorem depth_strs : ∀ ts : List (List Nat), PyData.depthAll (TSd ts) = 0
  | [] => by simp only [TSd, List.map_nil, PyData.depthAll]
  | t :: ts => by
    have ih := depth_strs ts
    unfold TSd at ih ⊢
    simp only [List.map_cons, PyData.depthAll, PyData.depth, ih, Nat.max_self]
/-- min of a list, of a tuple of texts -/
theorem cr_minS {X : Cx} (hc : X.calm = true) (hu : X.A.units + 64 < cLine) : CallR X (.builtin "min") (fun xs H Q => ∃ (a : Addr) (t : List Nat) (ts : List (List Nat)), xs = [.ref a] ∧
    (SqL X.K H a ((t :: ts).map fun x => V.str (S x)) ∨ SqT X.K H a ((t :: ts).map fun x => V.str (S x))) ∧ Q (.str (S (minW t ts))) H) := by
  intro pins s σ H vs us Q I r h
  obtain ⟨a, t, ts, rfl, hs, q⟩ := h
  rw [Vals.ref1 r]
  have dp := depth_strs (t :: ts)
  have fin : ∀ (v : Value) (h' : Heap) (tk : Nat) (bs : List Addr), Reads h' v (minD (.str (S t)) (TSd ts)) bs → (∀ b o, s.heap.get? b = some o → h'.get? b = some o) → EP X pins σ Q v { s with heap := h', toks := tk } := by
    intro v h' tk bs hr hk
    rw [minD_strs] at hr
    cases hr with
    | str x t' => exact ⟨.str _, H, I.kept hk, ⟨_, rfl⟩, q⟩
  rcases hs with hs | hs
  · obtain ⟨its, rv, hl, _⟩ := I.list hs
    obtain ⟨as, ra⟩ := readsAll_strs (h := s.heap) rv
    exact min_list_data (x := .str (S t)) (xs := TSd ts) (I.ok.hd hc) hl.isList ra (alike_strs (t :: ts)) (by show _ + 1 + PyData.depthAll (TSd (t :: ts)) < _; rw [dp]; omega) fun i v h' tk bs _ hr hk => fin v h' tk bs hr hk
  · obtain ⟨its, rv, hl, _⟩ := I.tuple hs
    obtain ⟨as, ra⟩ := readsAll_strs (h := s.heap) rv
    exact min_tuple_data (x := .str (S t)) (xs := TSd ts) (I.ok.hd hc) hl ra (alike_strs (t :: ts)) (by show _ + 1 + PyData.depthAll (TSd (t :: ts)) < _; rw [dp]; omega) fun i v h' tk bs _ hr hk => fin v h' tk bs hr hk
end EH

set_option Elab.async false
set_option linter.all false
set_option maxRecDepth 100000
set_option maxHeartbeats 4000000
namespace EH
open PySem PySem.Spec PyProof.Rows L2
open SX (S S_len S_cat S_inj join_S S_tl)
/-! ### texts: how they begin -/
theorem starts_S (a l : List Nat) : PySem.Txt.startswith (S a) (S l) = decide (a.take l.length = l) := by
  have ea : (S a).cps.toList = a := rfl
  have el : (S l).cps.toList = l := rfl
  have la : (S a).length = a.length := S_len a
  have ll : (S l).length = l.length := S_len l
  have hx : ((S a).cps.extract 0 (0 + (S l).length)).toList = a.take l.length := by
    rw [Array.toList_extract, ea, ll, Nat.zero_add]
    simp [List.extract]
  have hb : ((S a).cps.extract 0 (0 + (S l).length) == (S l).cps) = decide (a.take l.length = l) := by
    by_cases e : a.take l.length = l
    · rw [decide_eq_true e]
      have : (S a).cps.extract 0 (0 + (S l).length) = (S l).cps := Array.toList_inj.mp (by rw [hx, el, e])
      rw [this]
      exact beq_self_eq_true _
    · rw [decide_eq_false e]
      refine beq_false_of_ne fun z => e ?_
      rw [← hx, z, el]
  show (decide (0 + (S l).length ≤ (S a).length) && ((S a).cps.extract 0 (0 + (S l).length) == (S l).cps)) = _
  rw [hb, la, ll]
  by_cases e : a.take l.length = l
  · have : l.length ≤ a.length := by
      rw [← e, List.length_take]
      exact Nat.min_le_right _ _
    rw [decide_eq_true e, decide_eq_true (by omega)]
    rfl
  · rw [decide_eq_false e, Bool.and_false]
section
variable {X : Cx}
theorem mt_startsS : MtR X "str.startswith" (fun x xs H Q => ∃ a l : List Nat, x = .str (S a) ∧ xs = [.str (S l)] ∧ Q (.bl (decide (a.take l.length = l))) H) := by
  intro pins s σ H x v xs us Q I r rs h
  obtain ⟨a, l, rfl, rfl, q⟩ := h
  rw [← starts_S] at q
  exact mt_startswith pins s σ H _ _ _ _ Q I r rs ⟨_, _, rfl, rfl, q⟩
end
/-! ### data put together: at most n great, at most k deep -/
structure Gd (K : PySem.W.Frag) (H : Hp) (x : V) (d : PyData) (n k : Nat) : Prop where
  at_ : Dp K H x d
  ok : okD d = true
  bk : d.bulk ≤ n
  dp : d.depth ≤ k
structure Gds (K : PySem.W.Frag) (H : Hp) (xs : List V) (ds : List PyData) (n k : Nat) : Prop where
  at_ : DpAll K H xs ds
  ok : okDs ds = true
  bk : PyData.bulkAll ds ≤ n
  dp : PyData.depthAll ds ≤ k
section
variable {K : PySem.W.Frag} {H : Hp} {p : Addr} {x : V} {xs : List V} {d : PyData} {ds : List PyData} {n m k j : Nat}
theorem Gd.gd (h : Gd K H x d n k) (hn : n ≤ 10000) (hk : k ≤ 60) : GD K H x d := ⟨h.at_, h.ok, Nat.le_trans h.bk hn, Nat.le_trans h.dp hk⟩
theorem Gd.int {i : Int} (h : i.natAbs.log2 < 900) : Gd K H (.int i) (.int i) 0 0 := ⟨.int i, by simp only [okD, decide_eq_true h], by simp only [PyData.bulk]; exact Nat.le_refl _, by simp only [PyData.depth]; exact Nat.le_refl _⟩
theorem Gd.bl {b : Bool} : Gd K H (.bl b) (.bool b) 0 0 := ⟨.bl b, by simp only [okD], by simp only [PyData.bulk]; exact Nat.le_refl _, by simp only [PyData.depth]; exact Nat.le_refl _⟩
theorem Gd.non : Gd K H .non .none 0 0 := ⟨.non, by simp only [okD], by simp only [PyData.bulk]; exact Nat.le_refl _, by simp only [PyData.depth]; exact Nat.le_refl _⟩
theorem Gd.str {a : List Nat} (h : (a.all fun c => decide (c < 1114112)) = true) (l : a.length ≤ n) : Gd K H (.str (S a)) (.str (S a)) n 0 :=
  ⟨.str _, by simp only [okD]; exact h, by simp only [PyData.bulk]; show (a.toArray).size ≤ n; simpa using l, by simp only [PyData.depth]; exact Nat.le_refl _⟩
theorem Gds.nil : Gds K H [] [] 0 0 := ⟨.nil, by simp only [okDs], by simp only [PyData.bulkAll]; exact Nat.le_refl _, by simp only [PyData.depthAll]; exact Nat.le_refl _⟩
theorem Gds.cons (h : Gd K H x d n k) (t : Gds K H xs ds m j) : Gds K H (x :: xs) (d :: ds) (n + 1 + m) (max k j) := by
  have h1 := h.bk
  have h2 := t.bk
  have h3 := h.dp
  have h4 := t.dp
  refine ⟨.cons h.at_ t.at_, by simp only [okDs, h.ok, t.ok, Bool.and_self], ?_, ?_⟩
  · simp only [PyData.bulkAll]
    omega
  · simp only [PyData.depthAll]
    omega
theorem Gd.lst (h : SqL K H p xs) (t : Gds K H xs ds n k) : Gd K H (.ref p) (.list ds) n (k + 1) := by
  have h3 := t.dp
  exact ⟨.lst h t.at_, by simp only [okD]; exact t.ok, by simp only [PyData.bulk]; exact t.bk, by simp only [PyData.depth]; omega⟩
theorem Gd.tup (h : SqT K H p xs) (t : Gds K H xs ds n k) : Gd K H (.ref p) (.tuple ds) n (k + 1) := by
  have h3 := t.dp
  exact ⟨.tup h t.at_, by simp only [okD]; exact t.ok, by simp only [PyData.bulk]; exact t.bk, by simp only [PyData.depth]; omega⟩
theorem Gds.ints : ∀ l : List Int, (∀ i ∈ l, i.natAbs.log2 < 900) → Gds K H (l.map V.int) (l.map PyData.int) l.length 0
  | [], _ => Gds.nil
  | i :: l, h => by
    have t := Gds.ints l fun x hx => h x (List.mem_cons_of_mem _ hx)
    have c := Gds.cons (Gd.int (K := K) (H := H) (h i (List.mem_cons_self ..))) t
    refine ⟨c.at_, c.ok, ?_, ?_⟩
    · have h1 : PyData.bulkAll ((i :: l).map PyData.int) ≤ 0 + 1 + l.length := c.bk
      rw [List.length_cons]
      omega
    · have h1 : PyData.depthAll ((i :: l).map PyData.int) ≤ max 0 0 := c.dp
      omega
end
theorem log2_nat {n : Nat} (h : n < 1000000) : ((n : Int)).natAbs.log2 < 900 := by
  rw [Int.natAbs_natCast]
  exact log2_of_lt (by decide) (Nat.lt_of_lt_of_le h (Nat.le_trans (by decide : 1000000 ≤ 2 ^ 20) (Nat.pow_le_pow_right (by decide) (by decide))))
/-- the heap behind a statement under a short name -/
theorem next_by {D : Ends} {σ : L2.St} {H0 H : Hp} (s : Same H0 H) (k : ∀ H', Same H0 H' → tNext D σ H') : tNext D σ H := k H s
theorem cutV_tail (xs : List V) (k : Nat) : cutV xs (some (k : Int)) none = xs.drop k := by
  unfold cutV
  have e0 : HT.sIx xs.length 0 (some (k : Int)) = min k xs.length := HT.sIx_nat xs.length 0 k
  rw [HT.sIx_none, e0]
  have e1 : xs.drop (min k xs.length) = xs.drop k := by
    rcases Nat.le_total k xs.length with h | h
    · rw [Nat.min_eq_left h]
    · rw [Nat.min_eq_right h, List.drop_length, List.drop_of_length_le h]
  rw [e1, List.take_of_length_le]
  rw [List.length_drop]
  omega
theorem ixN_of {n i : Nat} (h : i < n) : ixN n (i : Int) = some i := by
  unfold ixN
  rw [if_pos (by omega), if_pos (by omega), Int.toNat_natCast]
/-! ### rules for two kinds -/
theorem op_or {X : Cx} {f : Value → Value → Sem Value} {r1 r2 : R2} (a : OpR X f r1) (b : OpR X f r2) : OpR X f (fun x y H Q => r1 x y H Q ∨ r2 x y H Q) := by
  intro pins s σ H x y v u Q I rx ry h
  rcases h with h | h
  · exact a pins s σ H x y v u Q I rx ry h
  · exact b pins s σ H x y v u Q I rx ry h
theorem cr_or {X : Cx} {f : Value} {r1 r2 : List V → Hp → VK → Prop} (a : CallR X f r1) (b : CallR X f r2) : CallR X f (fun xs H Q => r1 xs H Q ∨ r2 xs H Q) := by
  intro pins s σ H xs us Q I r h
  rcases h with h | h
  · exact a pins s σ H xs us Q I r h
  · exact b pins s σ H xs us Q I r h
theorem sl_or {X : Cx} {r1 r2 : V → Option Int → Option Int → Hp → VK → Prop} (a : SlR X r1) (b : SlR X r2) : SlR X (fun x lo hi H Q => r1 x lo hi H Q ∨ r2 x lo hi H Q) := by
  intro pins s σ H x v vl vu lo hi sl Q I rx hs pl pu h
  rcases h with h | h
  · exact a pins s σ H x v vl vu lo hi sl Q I rx hs pl pu h
  · exact b pins s σ H x v vl vu lo hi sl Q I rx hs pl pu h
end EH

set_option Elab.async false
set_option linter.all false
set_option maxRecDepth 100000
set_option maxHeartbeats 4000000
/-! EH6: an error that is caught and kept beyond its suite: an object of its own; what asks of it. -/
namespace EH
open PySem PySem.Spec PyProof.Rows L2
/-- at a: an error of the class cls, its own dict at d -/
def exH (cls : Value) (d : Option Addr) (a : Addr) : HO := .ext fun h => ∃ (ob : Obj) (fv : Array Value), h.get? a = some ob ∧ Zc cls d ob ∧ ob.data = .fields fv
theorem exH_ok {P : Program} {w : World} {H : Hp} {h : Heap} {a : Addr} {cls : Value} {d : Option Addr} {ob : Obj} {fv : Array Value} (e : h.get? a = some ob) (z : Zc cls d ob) (f : ob.data = .fields fv) : ObjOk P w H h a (exH cls d a) := by
  refine ⟨⟨ob, fv, e, z, f⟩, ⟨ob, e⟩, ?_⟩
  rintro h1 h2 ⟨o1, f1, e1, z1, d1⟩ keeps
  exact ⟨o1, f1, keeps o1 e1, z1, d1⟩
theorem exH_at {P : Program} {w : World} {H : Hp} {h : Heap} {a : Addr} {cls : Value} {d : Option Addr} (k : HOk P w H h) (e : H a = some (exH cls d a)) : ∃ (ob : Obj) (fv : Array Value), h.get? a = some ob ∧ Zc cls d ob ∧ ob.data = .fields fv := by
  have x := k a _ e
  have y : ObjOk P w H h a (.ext fun h => ∃ (ob : Obj) (fv : Array Value), h.get? a = some ob ∧ Zc cls d ob ∧ ob.data = .fields fv) := x
  exact y.1
section
variable {X : Cx} {pins : List (Addr × Obj)} {σ : L2.St} {H : Hp} {s : Shared} {a : Addr} {ob : Obj} {fv : Array Value} {cls : Value} {d : Option Addr}
/-- an untracked error, newer than the def's begin, is tracked from here on -/
theorem Inv.hold (I : Inv X ((a, ob) :: pins) σ H s) (z : Zc cls d ob) (f : ob.data = .fields fv) (n0 : ∀ o, X.s_0.heap.get? a = some o → False) (np : ∀ p ∈ X.pn ++ pins, p.1 ≠ a) : Inv X pins σ (upd H a (exH cls d a)) s := by
  have mine := I.pin (a, ob) (List.mem_append_right _ (List.mem_cons_self ..))
  have ea : s.heap.get? a = some ob := mine.1
  have na : H a = none := mine.2.1
  have old : ∀ {b : Addr} {o : HO}, H b = some o → b ≠ a := fun q e => by
    rw [e, na] at q
    cases q
  refine ⟨I.ok, I.os, I.bare, ⟨I.base.keep, I.base.slot, ?_, I.base.there, ?_, ?_, ?_⟩, I.loc, I.cell, ?_, ?_, ?_, ?_, I.len⟩
  · intro b o q n hx
    have ne : b ≠ a := fun e => by
      subst e
      exact n0 o q
    rw [upd_ne ne]
    exact I.base.free b o q n hx
  · intro b xs q
    have q2 := I.base.tups b xs q
    rw [upd_ne (old q2)]
    exact q2
  · intro b o u q
    have q2 := I.base.frzs b o u q
    rw [upd_ne (old q2)]
    exact q2
  · intro b ps q
    obtain ⟨more, q2⟩ := I.base.tbls b ps q
    refine ⟨more, ?_⟩
    rw [upd_ne (old q2)]
    exact q2
  · have ne : X.env.locals ≠ a := fun e => mine.2.2.1 e.symm
    rw [upd_ne ne]
    exact I.free
  · intro x c q
    have ne : c ≠ a := by
      rintro rfl
      obtain ⟨v, hv⟩ := I.cell x c q
      obtain ⟨o, e1, e2⟩ : ∃ o, s.heap.get? c = some o ∧ o.data = .cell v := by
        first
          | exact hv
          | (obtain ⟨o, e1, e2⟩ := hv; exact ⟨o, e1, e2⟩)
          | exact ⟨_, hv, rfl⟩
      rw [ea] at e1
      cases e1
      rw [f] at e2
      cases e2
    rw [upd_ne ne]
    exact I.freeC x c q
  · intro p hp
    have old_pin : p ∈ X.pn ++ ((a, ob) :: pins) := by
      rcases List.mem_append.mp hp with h | h
      · exact List.mem_append_left _ h
      · exact List.mem_append_right _ (List.mem_cons_of_mem _ h)
    obtain ⟨q1, q2, q3⟩ := I.pin p old_pin
    refine ⟨q1, ?_, q3⟩
    rw [upd_ne (np p hp)]
    exact q2
  · intro b o q
    by_cases e : b = a
    · subst e
      rw [upd_same] at q
      cases q
      exact exH_ok ea z f
    · rw [upd_ne e] at q
      refine (I.hok b o q).stay (fun c v _ r => r) (fun c r => ?_) (fun c xs r => ?_)
      · rw [upd_ne (old r)]
        exact r
      · rw [upd_ne (old r)]
        exact r
end
end EH
namespace EH
open PySem PySem.Spec PyProof.Rows L2
/-- what the clause 'except x as n' wishes, where nothing but the end of its suite comes next and the error is kept -/
def wHold (K : PySem.W.Frag) (c : Value) (i : Nat) (ts : Addr → Value → Option Addr → TS) (D : Ends) : WX := fun cls d σ H =>
  PySem.W.exmOne K cls c = some true ∧ ∀ a, H a = none →
    ts a cls d { nx := fun σ1 H1 => D.nx (σ1.set i none) (upd H1 a (exH cls d a)), rt := fun _ _ => False, bk := fun _ _ => False, ct := fun _ _ => False } (σ.set i (some (.ref a))) H
section
variable {X : Cx} {pins : List (Addr × Obj)} {σ : L2.St} {H : Hp} {s : Shared} {D : Ends}
/-- behind the suite the error stands pinned yet -/
theorem Inv.unsuiteK {a : Addr} {p : Addr × Obj} {more : List (Addr × Obj)} (I : Inv (X.suite a (p :: (X.pn ++ pins))) more σ H s) (ok : X.Ok) : Inv X (p :: pins) σ H s := by
  refine ⟨ok, I.os, I.bare, I.base, I.loc, I.cell, I.free, I.freeC, ?_, I.hok, I.len⟩
  intro q hq
  refine I.pin q (List.mem_append_left _ ?_)
  rcases List.mem_append.mp hq with h | h
  · exact List.mem_cons_of_mem _ (List.mem_append_left _ h)
  · rcases List.mem_cons.mp h with e | h
    · exact e ▸ List.mem_cons_self ..
    · exact List.mem_cons_of_mem _ (List.mem_append_right _ h)
/-- what is in the air of a try: its state, the error apart -/
theorem caught_new {a : Addr} {B : Heap} {sI : Shared} {H : Hp} {σ : L2.St} (I : Inv X pins σ H sI) (hx : X.ex = []) (kept : ∀ b o, sI.heap.get? b = some o → b ∉ frs X.stack → B.get? b = some o) (fresh : B.get? a = none) (nf : a ∉ frs X.stack) :
    sI.heap.get? a = none ∧ (∀ o, X.s_0.heap.get? a = some o → False) ∧ ∀ p ∈ X.pn ++ pins, p.1 ≠ a := by
  have none_ : sI.heap.get? a = none := by
    cases e : sI.heap.get? a with
    | none => rfl
    | some o =>
      rw [kept a o e nf] at fresh
      cases fresh
  refine ⟨none_, fun o e => ?_, fun p hp e => ?_⟩
  · obtain ⟨o2, e2⟩ := I.base.there a o e (by rw [hx]; exact List.not_mem_nil)
    rw [none_] at e2
    cases e2
  · have q := (I.pin p hp).1
    rw [e, none_] at q
    cases q
theorem frames_no_error {h : Heap} {l : List Env} {B : Heap} {a : Addr} {o : Obj} {fv : Array Value} (ff : h.FunFrames B l) (e : h.get? a = some o) (f : o.data = .fields fv) : a ∉ frs l := by
  intro m
  obtain ⟨_, o2, e2, no⟩ := ff.mem m
  rw [e] at e2
  cases e2
  exact no fv f
end
end EH
namespace EH
open PySem PySem.Spec PyProof.Rows L2
section
variable {X : Cx} {x n : Str} {c : Value} {i : Nat} {body suite : List Stmt} {st0 : Stmt} {np pos pos' : Pos} {tb : WX → TS} {ts : Addr → Value → Option Addr → TS}
/-- what is wished of the body's error: it is noted, and the clause takes it -/
abbrev taken (X : Cx) (hd : ExceptHandler) (pins : List (Addr × Obj)) (D : Ends) : Value → Shared → Prop := fun er sA =>
  wpAny (model X.prog X.w) X.A (noteFrame er X.env) (fun _ sB =>
    wpAny (model X.prog X.w) X.A (setFlight er none) (fun _ sC =>
      wpAny (model X.prog X.w) X.A (handleBy er X.env [hd]) (SP X pins D) X.xe sC) X.xe sB) X.xe sA
theorem ps_try_hold (hs : X.stack = X.env :: X.outer) (hf : X.env.frame = some X.env.locals) (hx : X.ex = []) (hN : X.N.Nodup) (hi : X.N[i]? = some n) (hln : X.env.kindOf n = some .local) (hc : Names X x c)
    (hb : ∀ (W : WX) (pn : List (Addr × Obj)) (xe : Value → Shared → Prop), Takes (X.tr pn xe) W → PassesOwn (model X.prog X.w) X.A X.env xe → PSs (X.tr pn xe) body (tb W))
    (hsu : ∀ (a : Addr) (ob : Obj) (cls : Value) (d : Option Addr) (pn : List (Addr × Obj)), Zc cls d ob → (∃ fv, ob.data = .fields fv) → PSs (X.suite a ((a, ob) :: pn)) (st0 :: suite) (ts a cls d)) :
    PS X (.Try body [.ExceptHandler (some (.Name x np)) (some n) (st0 :: suite) pos'] [] [] pos) (fun D σ H => tb (wHold X.K c i ts D) D σ H) := by
  refine ⟨fun pins s σ H D I h => wpAny_Try_except ?_⟩
  have ok := I.ok
  have top_ : X.A.frames = some (X.env :: X.outer) := ok.frames.trans (congrArg some hs)
  have catch_ : Takes (X.tr (X.pn ++ pins) (taken X (.ExceptHandler (some (.Name x np)) (some n) (st0 :: suite) pos') pins D)) (wHold X.K c i ts D) := by
    rintro u sT ⟨a, B, sI, more, σ1, H1, cls, d, rfl, IT, kept, up, sky, na, os, bare, named, wish⟩
    have J := Inv.ofTry IT ok
    have sky1 : Sky B (X.env :: X.outer) a (Zc cls d) X.env.locals sT.heap := hs ▸ sky
    refine Sky.land Zc.steady top_ hf sky1 fun hp1 fly1 up1 => ?_
    have J1 : Inv X pins σ1 H1 { sT with heap := hp1 } := J.landed kept fly1.1 (up.trans up1) os bare
    obtain ⟨ob1, fv1, at1, zc1, fd1⟩ := fly1.there
    have nfr : a ∉ frs (X.env :: X.outer) := frames_no_error fly1.2.2.1 at1 fd1
    have nloc : a ≠ X.env.locals := by
      rintro rfl
      exact nfr (List.mem_filterMap.mpr ⟨X.env, List.mem_cons_self .., hf⟩)
    have nfs : a ∉ X.fs := fun m => by
      obtain ⟨e, he, q⟩ := List.mem_filterMap.mp m
      exact nfr (List.mem_filterMap.mpr ⟨e, List.mem_cons_of_mem _ he, q⟩)
    obtain ⟨_, new0, newp⟩ := caught_new J hx kept fly1.2.1 (hs ▸ nfr)
    have K1 := J1.suite at1 fd1 na nloc nfs
    have ty : PySem.W.Looks (model X.prog X.w) hp1 (typeOf (.ref a)) cls := fun A Q E sQ keeps q => wpAny_typeOf_ref (keeps _ _ at1) (zc1.1 ▸ q)
    have fits := PySem.W.exm_one (M := model X.prog X.w) J1.kIn ty named
    refine wpAny_handleBy_cons (codeAny_handlers_test ?_) (fun z => nomatch z)
    have name_ : ∀ {Q : Value → Shared → Prop} {E : Value → Shared → Prop}, Q c { sT with heap := hp1 } → wpAny (model X.prog X.w) (X.A.mark (some (.ref a))) (eval (.Name x np) X.env) Q E { sT with heap := hp1 } := by
      intro Q E q
      obtain ⟨gl, nd, m | ⟨m, bt, nn⟩⟩ := hc
      · exact ld_glob (X := X.suite a ((a, ob1) :: (X.pn ++ pins))) K1 gl m q nd
      · exact ld_blt (X := X.suite a ((a, ob1) :: (X.pn ++ pins))) K1 gl m bt q nn nd
    refine name_ (fits.here (codeAny_handlers_suite_as ?_))
    refine HandSPX.lands_againZ fly1 fun hp2 fly2 up2 => ?_
    have J2 : Inv X pins σ1 H1 { sT with heap := hp2 } := J.landed kept fly2.1 ((up.trans up1).trans up2) os bare
    obtain ⟨ob2, fv2, at2, zc2, fd2⟩ := fly2.there
    have K2 := J2.suite at2 fd2 na nloc nfs
    refine store_ok (X := X.suite a ((a, ob2) :: (X.pn ++ pins))) (v := .ref a) K2 hN hi (.inl hln) rfl (fun s5 K5 => ?_) (.inr hln)
    refine wpAny_mono ((hsu a ob2 cls d (X.pn ++ pins) zc2 ⟨_, fd2⟩).run [] s5 _ H1 _ K5 (wish a na)) (fun fl s6 out => ?_) (fun _ _ z => z.elim)
    cases fl with
    | next =>
      obtain ⟨σ6, H6, K6, q6⟩ := out
      exact gone_ok (Inv.unsuiteK K6 ok) hN hi hln fun s7 J7 => ⟨_, _, Inv.hold J7 zc2 fd2 new0 newp, q6⟩
    | brk =>
      obtain ⟨_, _, _, q6⟩ := out
      exact q6.elim
    | cont =>
      obtain ⟨_, _, _, q6⟩ := out
      exact q6.elim
    | ret u =>
      obtain ⟨_, _, _, _, _, q6⟩ := out
      exact q6.elim
  have first_ := (hb (wHold X.K c i ts D) (X.pn ++ pins) _ catch_ PassesOwn.looking).run [] s σ H D (I.toTry _) h
  refine wpAny_mono first_ (fun fl sE out => ?_) (fun _ _ z => z)
  cases fl with
  | next =>
    obtain ⟨σ', H', IE, q⟩ := out
    exact wpAny_execs_nil ⟨σ', H', IE.ofTry ok, q⟩
  | brk =>
    obtain ⟨σ', H', IE, q⟩ := out
    exact ⟨σ', H', IE.ofTry ok, q⟩
  | cont =>
    obtain ⟨σ', H', IE, q⟩ := out
    exact ⟨σ', H', IE.ofTry ok, q⟩
  | ret u =>
    obtain ⟨v, σ', H', IE, r, q⟩ := out
    exact ⟨v, σ', H', IE.ofTry ok, r, q⟩
end
end EH
namespace EH
open PySem PySem.Spec PyProof.Rows L2
open SX (S S_len S_cat S_inj join_S S_tl)
/-! ### classes of errors -/
/-- self.f = v, the one row of __init__(self, f) -/
def spInit1 (C : Addr) (f : Str) : Sp := fun vs H Q _ => ∃ (a : Addr) (v : V), vs = [.ref a, v] ∧ H a = some (exo a C none) ∧ ∀ dx, H dx = none → dx ≠ a → Q .non (upd (upd H dx (exd dx [(f, v)])) a (exo a C (some dx)))
/-- self.f = v; self.g = u -/
def spInit2 (C : Addr) (f g : Str) : Sp := fun vs H Q _ => ∃ (a : Addr) (v u : V), vs = [.ref a, v, u] ∧ H a = some (exo a C none) ∧ ∀ dx, H dx = none → dx ≠ a → Q .non (upd (upd (upd H dx (exd dx [(f, v)])) a (exo a C (some dx))) dx (exd dx [(g, u), (f, v)]))
/-- what the class at C says, so that its errors may be asked -/
structure KitE (K : PySem.W.Frag) (C : Addr) : Prop where
  xf : XfC K C
  ca : PySem.W.findIn K (.ref C) "__class__" = some (some (.builtin "object.__class__"))
  cn : PySem.W.specialIn K (.builtin "object.__class__") "__get__" = some (some (.builtin "getset_descriptor.__get__"))
  ct : PySem.W.takesIn K (.builtin "object.__class__") = some true
  cm : PySem.W.mroIn K C (.type "object") = some true
  cl : (PySem.W.clsIn K C).isSome = true
/-- the class of errors that is named x: at C; its __init__ keeps sp -/
structure ErrC (P : Program) (w : World) (K : PySem.W.Frag) (mg : Str → Option Value) (base : Heap) (x : Str) (C : Addr) (ps : List Str) (sp : Sp) : Prop where
  g : mg x = some (.ref C)
  ox : OexC K C
  ini : ∃ (fI : Addr) (fd : FuncData), PySem.W.findIn K (.ref C) "__init__" = some (some (.ref fI)) ∧ PySem.W.typeIn K (.ref fI) = some (.type "function") ∧ FnOk P w K mg base CX0 1 fI fd ps sp ∧ Binds K fd ps []
  kt : KitE K C
/-- E(v) -/
def tErr1 (C : Addr) (f : Str) (ta : TA) : L2.St → Hp → XK → Prop := fun σ H Q => ta σ H fun vs H1 => ∃ v, vs = [v] ∧ ∀ d, H1 d = none → Q (.ref C) (some d) (upd H1 d (.xd [(f, v)]))
def tErr2 (C : Addr) (f g : Str) (ta : TA) : L2.St → Hp → XK → Prop := fun σ H Q => ta σ H fun vs H1 => ∃ v u, vs = [v, u] ∧ ∀ d, H1 d = none → Q (.ref C) (some d) (upd H1 d (.xd [(g, u), (f, v)]))
theorem made_heap {H : Hp} {a d : Addr} {o o2 o3 : HO} {fs : List (Str × V)} (ha : H a = none) (n : d ≠ a) : upd (del (upd (upd (upd H a o) d o2) a o3) a) d (.xd fs) = upd H d (.xd fs) := by
  funext b
  by_cases e : b = d
  · subst e
    rw [upd_same, upd_same]
  · rw [upd_ne e, upd_ne e]
    by_cases e2 : b = a
    · subst e2
      rw [del_same, ha]
    · rw [del_ne e2, upd_ne e2, upd_ne e, upd_ne e2]
theorem made_heap2 {H : Hp} {a d : Addr} {o o2 o3 o4 : HO} {fs : List (Str × V)} (ha : H a = none) (n : d ≠ a) : upd (del (upd (upd (upd (upd H a o) d o2) a o3) d o4) a) d (.xd fs) = upd H d (.xd fs) := by
  funext b
  by_cases e : b = d
  · subst e
    rw [upd_same, upd_same]
  · rw [upd_ne e, upd_ne e]
    by_cases e2 : b = a
    · subst e2
      rw [del_same, ha]
    · rw [del_ne e2, upd_ne e, upd_ne e2, upd_ne e, upd_ne e2]
/-- a reading that may be weakened -/
def tMore (t : TA) : TA := fun σ H Q => ∃ Q0 : List V → Hp → Prop, t σ H Q0 ∧ ∀ vs H1, Q0 vs H1 → Q vs H1
theorem pa_more {X : Cx} {es : List Expr} {t : TA} (h : PA X es t) : PA X es (tMore t) := by
  refine ⟨fun pos pins s σ H Q I ⟨Q0, q0, imp⟩ => wpAny_mono (h.run pos pins s σ H Q0 I q0) (fun us s1 out => ?_) (fun _ _ z => z)⟩
  obtain ⟨vs, H1, I1, r1, q⟩ := out
  exact ⟨vs, H1, I1, r1, imp _ _ q⟩
section
variable {X : Cx} {x f g : Str} {C : Addr} {ps : List Str} {e : Expr} {es : List Expr} {ta : TA} {p pos : Pos} {k : Nat}
theorem pmk_err1 (h : ErrC X.prog X.w X.K X.mg X.base x C ps (spInit1 C f)) (hr : Room k X.A) (hk : 2 ≤ k) (ha : PA X [e] ta) (hg : Gl X x) (hdb : (x == ("__debug__" : Str)) = false := by decide)
    (he : starEach (e :: []) X.env = (false, eval e X.env) :: starEach [] X.env := by rfl) (hpl : (backTo pos (starEach [] X.env)).any (·.1) = false := by rfl) : PMk X (.Call (.Name x p) [e] [] pos) (tErr1 C f ta) := by
  obtain ⟨fI, fd, iC, tI, F, b⟩ := h.ini
  intro pins s σ H Q I wish
  refine pmk_oex (p := p) (pos := pos) (dvs := []) (ds := []) h.ox iC tI F (hr.mono hk) b .nil pass0 hg h.g (pa_more ha) hdb he hpl pins s σ H Q I ⟨_, wish, ?_⟩
  rintro vs H1 ⟨v, e1, q⟩
  subst e1
  refine ⟨by show 1 ≤ 1000; decide, fun a na => ⟨a, v, rfl, upd_same, fun d nd dn => ⟨rfl, d, [(f, v)], upd_same, ?_, ?_, ?_⟩⟩⟩
  · rw [upd_ne dn]
    exact upd_same
  · rw [upd_ne dn] at nd
    exact nd
  · rw [made_heap na dn]
    rw [upd_ne dn] at nd
    exact q d nd
theorem pmk_err2 {e2 : Expr} (h : ErrC X.prog X.w X.K X.mg X.base x C ps (spInit2 C f g)) (hr : Room k X.A) (hk : 2 ≤ k) (ha : PA X [e, e2] ta) (hg : Gl X x) (hdb : (x == ("__debug__" : Str)) = false := by decide)
    (he : starEach (e :: [e2]) X.env = (false, eval e X.env) :: starEach [e2] X.env := by rfl) (hpl : (backTo pos (starEach [e2] X.env)).any (·.1) = false := by rfl) : PMk X (.Call (.Name x p) [e, e2] [] pos) (tErr2 C f g ta) := by
  obtain ⟨fI, fd, iC, tI, F, b⟩ := h.ini
  intro pins s σ H Q I wish
  refine pmk_oex (p := p) (pos := pos) (dvs := []) (ds := []) h.ox iC tI F (hr.mono hk) b .nil pass0 hg h.g (pa_more ha) hdb he hpl pins s σ H Q I ⟨_, wish, ?_⟩
  rintro vs H1 ⟨v, u, e1, q⟩
  subst e1
  refine ⟨by show 2 ≤ 1000; decide, fun a na => ⟨a, v, u, rfl, upd_same, fun d nd dn => ⟨rfl, d, [(g, u), (f, v)], ?_, upd_same, ?_, ?_⟩⟩⟩
  · rw [upd_ne (Ne.symm dn)]
    exact upd_same
  · rw [upd_ne dn] at nd
    exact nd
  · rw [made_heap2 na dn]
    rw [upd_ne dn] at nd
    exact q d nd
end
end EH
namespace EH
open PySem PySem.Spec PyProof.Rows L2
/-! ### defs that may raise, called by name; held in a local -/
structure ClX (P : Program) (w : World) (K : PySem.W.Frag) (mg : Str → Option Value) (base : Heap) (k : Nat) (x : Str) (sp : Sp) : Prop where
  ex : ∃ (f : Addr) (fd : FuncData) (ps : List Str), FnOk P w K mg base (L2.CX P w) k f fd ps sp ∧ mg x = some (.ref f) ∧ PySem.W.keepIn K (.ref f) = true ∧ Binds K fd ps []
structure HeldX (P : Program) (w : World) (K : PySem.W.Frag) (mg : Str → Option Value) (base : Heap) (k : Nat) (f : Addr) (sp : Sp) : Prop where
  ex : ∃ (fd : FuncData) (ps : List Str), FnOk P w K mg base (L2.CX P w) k f fd ps sp ∧ PySem.W.keepIn K (.ref f) = true ∧ Binds K fd ps []
/-- .. where nothing is raised -/
def sp0 (sp : Sp) : Sp := fun vs H Q _ => sp vs H Q E0
section
variable {P : Program} {w : World} {K : PySem.W.Frag} {mg : Str → Option Value} {base : Heap} {k : Nat} {f : Addr} {fd : FuncData} {ps : List Str} {sp : Sp} {x qual : Str} {st : Stmt}
theorem FnOk.quiet (F : FnOk P w K mg base (L2.CX P w) k f fd ps sp) : FnOk P w K mg base CX0 k f fd ps (sp0 sp) := by
  refine ⟨fun vs H Q E h => F.len vs H Q E0 h, fun A outer s H args us vs Q E hr he hb hv hs => ?_⟩
  refine codeAny_mono (F.run A outer s H args us vs Q E0 hr he hb hv hs) fun r s' z => ?_
  rcases r with er | (v | _ | _ | _)
  · obtain ⟨_, _, _, _, _, _, _, _, _, _, _, _, no⟩ := z
    exact no.elim
  all_goals exact z
theorem ClX.mk' (F : Fun K x qual st f fd) (m : mg x = some (.ref f)) (b : Binds K fd ps []) (ok : FnOk P w K mg base (L2.CX P w) k f fd ps sp) : ClX P w K mg base k x sp := ⟨f, fd, ps, ok, m, F.kp, b⟩
theorem ClX.quiet (c : ClX P w K mg base k x sp) : Cl P w K mg base k x (sp0 sp) := by
  obtain ⟨f, fd, ps, F, m, kp, b⟩ := c.ex
  exact ⟨f, fd, ps, FnOk.quiet F, m, kp, b⟩
end
section
variable {X : Cx} {k j i : Nat} {x : Str} {sp : Sp} {W : WX} {p pos : Pos} {e : Expr} {es : List Expr} {t : TA}
def tFX (sp : Sp) (W : WX) (t : TA) : TE := fun σ H Q => t σ H fun vs H1 => sp vs H1 Q (WE W σ)
theorem pe_fX (c : ClX X.prog X.w X.K X.mg X.base k x sp) (hr : Room j X.A) (hk : k ≤ j) (hg : Gl X x) (tk : Takes X W) (ha : PA X (e :: es) t) (hdb : (x == ("__debug__" : Str)) = false := by decide)
    (he : starEach (e :: es) X.env = (false, eval e X.env) :: starEach es X.env := by rfl) (hpl : (backTo pos (starEach es X.env)).any (·.1) = false := by rfl) : PE X (.Call (.Name x p) (e :: es) [] pos) (tFX sp W t) := by
  obtain ⟨f, fd, ps, F, hm, kp, b⟩ := c.ex
  exact pe_callS (p := p) (pos := pos) F (hr.mono hk) hg hm kp b (fun σ => passAt tk σ) ha hdb he hpl
/-- a def as a value -/
def tFn (P : Program) (w : World) (K : PySem.W.Frag) (mg : Str → Option Value) (base : Heap) (k : Nat) (sp : Sp) : TE := fun _ H Q => ∀ f, HeldX P w K mg base k f sp → Q (.ref f) H
theorem pe_fnX (c : ClX X.prog X.w X.K X.mg X.base k x sp) (hg : Gl X x) (hdb : (x == ("__debug__" : Str)) = false := by decide) : PE X (.Name x p) (tFn X.prog X.w X.K X.mg X.base k sp) := by
  obtain ⟨f, fd, ps, F, hm, kp, b⟩ := c.ex
  refine ⟨fun pins s σ H Q I h => (pe_glob hg hm (v := .ref f) rfl hdb).run pins s σ H Q I ?_⟩
  exact h f ⟨fd, ps, F, kp, b⟩
def tHeld (P : Program) (w : World) (K : PySem.W.Frag) (mg : Str → Option Value) (base : Heap) (i k : Nat) (W : WX) (t : TA) : TE := fun σ H Q =>
  ∃ f sp, σ[i]? = some (some (.ref f)) ∧ HeldX P w K mg base k f sp ∧ t σ H fun vs H1 => sp vs H1 Q (WE W σ)
theorem pe_heldX (hr : Room j X.A) (hk : k ≤ j) (hN : X.N[i]? = some x) (hv : Vis X.env.scope x) (tk : Takes X W) (ha : PA X (e :: es) t) (hdb : (x == ("__debug__" : Str)) = false := by decide) (hcd : (x == ("__classdict__" : Str)) = false := by decide)
    (he : starEach (e :: es) X.env = (false, eval e X.env) :: starEach es X.env := by rfl) (hpl : (backTo pos (starEach es X.env)).any (·.1) = false := by rfl) : PE X (.Call (.Name x p) (e :: es) [] pos) (tHeld X.prog X.w X.K X.mg X.base i k W t) := by
  refine ⟨?_⟩
  rintro pins s σ H Q I ⟨f, sp, at_, held, args⟩
  obtain ⟨fd, ps, F, kp, b⟩ := held.ex
  have var_ := (pe_var (X := X) (pos := p) hN hv hdb hcd).run pins s σ H (fun v H1 => v = .ref f ∧ H1 = H) I ⟨_, at_, rfl, rfl⟩
  refine wpAny_Call_Name_kw (thn var_ ?_)
  rintro u s1 ⟨_, _, I1, r1, rfl, rfl⟩
  obtain rfl : u = Value.ref f := r1
  refine PySem.W.callWith_K (h₀ := X.base) I.ok.mod.kin kp (thn (ha.run pos pins s1 σ _ _ I1 args) ?_) he hpl
  rintro us s2 ⟨vs, H2, I2, r2, q2⟩
  refine ⟨I2.kIn, ?_⟩
  have q3 : sp (vs ++ []) H2 Q (WE W σ) := by
    rw [List.append_nil]
    exact q2
  exact run_fnSD (E := WE W) (dvs := []) (ds := []) F (hr.mono hk) b .nil (passAt tk σ) I2 r2 q3
end
/-! ### an error that was kept: isinstance, its fields -/
def rIsH (K : PySem.W.Frag) : List V → Hp → VK → Prop := fun xs H Q => ∃ (a C D dd : Addr) (fs : List (Str × V)) (b : Bool), xs = [.ref a, .ref D] ∧ H a = some (exH (.ref C) (some dd) a) ∧ H dd = some (.xd fs) ∧ KitE K C ∧
  PySem.W.kitOne K (.ref C) (.ref D) = some b ∧ Q (.bl b) H
section
variable {X : Cx} {pins : List (Addr × Obj)} {σ : L2.St} {H : Hp} {s : Shared} {a C dd : Addr} {fs : List (Str × V)}
theorem held_inst (I : Inv X pins σ H s) (ea : H a = some (exH (.ref C) (some dd) a)) (ed : H dd = some (.xd fs)) :
    ∃ (ob od : Obj) (mA : Str → Option Value), PySem.W.InstAt s.heap a ob C (some od) ∧ (∀ f, PySem.W.lookIn f od = some (mA f)) ∧ ∀ f, RelO (fs.lookup f) (mA f) := by
  obtain ⟨ob, fv, at_, zc, fd⟩ := exH_at I.hok ea
  have own : ObjOk X.prog X.w H s.heap dd (.xd fs) := I.hok dd _ ed
  obtain ⟨mA, ns, rel⟩ := own
  obtain ⟨od, at2, look⟩ := lookIn_ns ns
  refine ⟨ob, od, mA, ⟨at_, zc.1, ?_, ?_⟩, fun f => ?_, rel⟩
  · unfold PySem.W.notCls
    rw [fd] <;> rfl
  · rw [zc.2]
    exact at2
  · exact look f
theorem call_isH : CallR X (.builtin "isinstance") (rIsH X.K) := by
  rintro pins s σ H xs us Q I r ⟨a, C, D, dd, fs, b, rfl, ea, ed, kt, one, q⟩
  obtain ⟨ob, od, mA, inst, _, _⟩ := held_inst I ea ed
  cases r with
  | cons r1 r' =>
    cases r' with
    | cons r2 r'' =>
      cases r''
      cases r1
      cases r2
      exact PySem.W.kia_one (PySem.W.kitx_exc kt.cl kt.xf.ga kt.xf.gg kt.xf.exC kt.ca kt.cn kt.ct kt.cm) I.kIn inst one (fun z => nomatch z) fun tk => ⟨.bl b, H, I.kept (t' := tk) fun _ _ z => z, rfl, q⟩
end
def tXh (K : PySem.W.Frag) (f : Str) (te : TE) : TE := fun σ H Q => te σ H fun x H1 => ∃ (a C dd : Addr) (fs : List (Str × V)) (v : V), x = .ref a ∧ H1 a = some (exH (.ref C) (some dd) a) ∧ H1 dd = some (.xd fs) ∧ fs.lookup f = some v ∧ KitE K C ∧
  PySem.W.findIn K (.ref C) f = some none ∧ Q v H1
theorem pe_xh {X : Cx} {e : Expr} {te : TE} {f : Str} {pos : Pos} (he : PE X e te) (hb : attributeBase e f X.env (eval e X.env) = eval e X.env := by rfl) : PE X (.Attribute e f pos) (tXh X.K f te) := by
  refine ⟨fun pins s σ H Q I h => attr_of hb (thn (he.run pins s σ H _ I h) ?_)⟩
  rintro u s1 ⟨x, H1, I1, r, a, C, dd, fs, v, rfl, ea, ed, lk, kt, no, q⟩
  obtain rfl : u = Value.ref a := r
  obtain ⟨ob, od, mA, inst, look, rel⟩ := held_inst I1 ea ed
  obtain ⟨u, hu, ru⟩ := RelO.some_of (v := v) (o := mA f) (by rw [← lk]; exact rel f)
  have found := PySem.W.findObj_own kt.xf.hdC no rfl ((look f).trans (congrArg some hu))
  exact HandSPX.exc_get I1.kIn inst kt.xf.ga kt.xf.gg kt.xf.exC found (handed_of ru) ⟨v, H1, I1.tok _, ru, q⟩
end EH
namespace EH
open PySem PySem.Spec PyProof.Rows L2
/-- a row of a class -/
def meth (st : Stmt) (j : Nat) : Stmt := match st with
  | .ClassDef _ _ _ body _ _ _ _ _ _ _ => body.getD j (.Pass ⟨0, 0, 0, 0⟩)
  | _ => .Pass ⟨0, 0, 0, 0⟩
/-- what a def wishes of what it raises: what its caller does -/
abbrev wDef (E : XK) : WX := fun cls d _ H => E cls d H
end EH
namespace EH
open PySem PySem.Spec PyProof.Rows L2
/-- a class by its name -/
theorem pe_cls {X : Cx} {x : Str} {C : Addr} {pos : Pos} (hg : Gl X x) (hm : X.mg x = some (.ref C)) (hd : (x == ("__debug__" : Str)) = false := by decide) : PE X (.Name x pos) (tC (.ref C)) := pe_glob (v := .ref C) hg hm rfl hd
end EH
namespace EH
open PySem PySem.Spec PyProof.Rows L2
theorem kit_self {K : PySem.W.Frag} {C : Addr} : PySem.W.kitOne K (.ref C) (.ref C) = some true := by
  unfold PySem.W.kitOne
  rw [if_pos (beq_self_eq_true _)]
end EH

set_option Elab.async false
set_option linter.all false
set_option maxRecDepth 100000
set_option maxHeartbeats 2000000
/-! constants of modules that are tuples -/
namespace EH
open PySem PySem.Spec PyProof.Rows L2
structure TCon (K : PySem.W.Frag) (mg : Str → Option Value) (x : Str) (xs : List V) : Prop where
  ex : ∃ B : Addr, mg x = some (.ref B) ∧ ∀ H : Hp, SqT K H B xs
/-- a tuple that stands at the top -/
def tTC (K : PySem.W.Frag) (xs : List V) : TE := fun _ H Q => ∀ B : Addr, (∀ H' : Hp, SqT K H' B xs) → Q (.ref B) H
theorem pe_tcon {X : Cx} {x : Str} {xs : List V} {pos : Pos} (c : TCon X.K X.mg x xs) (hg : Gl X x) (hd : (x == ("__debug__" : Str)) = false := by decide) : PE X (.Name x pos) (tTC X.K xs) := by
  obtain ⟨B, hm, hs⟩ := c.ex
  exact ⟨fun _ _ _ H _ I h => (pe_glob hg hm (v := .ref B) rfl hd).run _ _ _ H _ I (h B hs)⟩
end EH

set_option Elab.async false
set_option linter.all false
set_option maxRecDepth 100000
set_option maxHeartbeats 2000000
/-! EH8: x in a tuple of data -/
namespace EH
open PySem PySem.Spec PyProof.Rows L2
def rInT (K : PySem.W.Frag) : R2 := fun x y H Q => ∃ d ds, GD K H x d ∧ GD K H y (.tuple ds) ∧ Q (.bl (ds.any fun z => PyData.eqv z d)) H
theorem op_inT {X : Cx} (hu : X.A.units + 65 < cLine) : OpR X (compareOp .In) (rInT X.K) := by
  rintro pins s σ H x y v u Q I rx ry ⟨d, ds, gx, gy, q⟩
  obtain ⟨as, rd⟩ := Dp.reads I d x v gx.at_ rx
  obtain ⟨bs, rs⟩ := Dp.reads I (.tuple ds) y u gy.at_ ry
  have layT : (PyData.tuple ds).canLay0 = true := SeqAt.canLay_of_shaped gy.shaped
  refine SeqAt.in_tuple_reads rs rd ?_ (SeqAt.canLay_of_shaped gx.shaped) (room_in_shaped gx.shaped hu) ⟨.bl _, H, I, rfl, q⟩
  simpa only [PyData.canLay0] using layT
/-- x in a list of data -/
def rInL (K : PySem.W.Frag) : R2 := fun x y H Q => ∃ d ds, GD K H x d ∧ GD K H y (.list ds) ∧ Q (.bl (ds.any fun z => PyData.eqv z d)) H
theorem op_inL {X : Cx} (hu : X.A.units + 65 < cLine) : OpR X (compareOp .In) (rInL X.K) := by
  rintro pins s σ H x y v u Q I rx ry ⟨d, ds, gx, gy, q⟩
  exact op_inD hu pins s σ H x y v u Q I rx ry ⟨d, ds, gx.at_, gy.at_, gx.shaped, gy.shaped, q⟩
theorem hu65_of {A : Around} {k : Nat} (hr : Room k A) : A.units + 65 < cLine := by
  have := hr.un
  omega
end EH

set_option Elab.async false
set_option linter.all false
set_option maxRecDepth 100000
set_option maxHeartbeats 8000000
/-! EH9: len(set(xs)), xs a list of unlike texts; t[-1]. -/
namespace EH
open PySem PySem.Spec PyProof.Rows L2
section
variable {prog : Program} {w : World} {A : Around} {R : Result → Shared → Prop} {I : Addr} {fp wr : List Addr} {G : Array GenState → Array GenState → Prop} {n : Nat} {P : Nat → Value → Prop} {St : Nat → Shared → Prop}
/-- what the set at S holds -/
abbrev TxSet (prog : Program) (w : World) (h : Heap) (S : Addr) (l : List Str) : Prop := h.SetOf (strKind prog w) S (fun z => decide (z ∈ l)) l.length
theorem TxSet.stay {h h' : Heap} {S : Addr} {l : List Str} (x : TxSet prog w h S l) (k : ∀ o, h.get? S = some o → h'.get? S = some o) : TxSet prog w h' S l := by
  obtain ⟨o, es, ep, tb, at_, r⟩ := x
  exact ⟨o, es, ep, tb, k o at_, r⟩
theorem tx_loop (W : WalksS prog w A.in1 I fp wr G n P St) (S : Addr) (out : S ∉ fp) (xs : List Str) (nd : xs.Nodup) (len : xs.length = n) (few : n + 1 < scanBound) (val : ∀ i v, P i v → ∃ x t, xs[i]? = some x ∧ v = .str x t)
    (s0 : Shared) (fin : ∀ s', Moved (S :: wr) G s0 s' → TxSet prog w s'.heap S xs → R (.ok (.ret .none)) s') :
    ∀ (m i : Nat) (s : Shared), i + m = n → Moved (S :: wr) G s0 s → St i s → TxSet prog w s.heap S (xs.take i) → codeAny (model prog w) A (.builtin "set.update.loop" ⟨[.ref S, .ref I], []⟩) R s := by
  have Sw : S ∉ wr := fun z => out (W.sub _ z)
  have more : ∀ b ∈ wr, b ∈ S :: wr := fun _ hb => .tail _ hb
  intro m
  induction m with
  | zero =>
    intro i s e mv z hS
    obtain rfl : i = n := e
    refine codeAny_builtin PyProof.Rows.F.entry_set_update_loop ?_
    rw [Around.under_plainId PyProof.Rows.F.plain_set_update_loop _]
    show wpAny _ A.in1 (pyNext (.ref I) >>= _) _ _ _
    refine wpAny_bind (W.done s _ _ z fun s' hm => ?_)
    show wpAny _ A.in1 (ret Value.none) _ _ _
    rw [← len, List.take_length] at hS
    exact wpAny_pure (fin s' (Moved.trans W.gtrans mv (hm.mono more)) (hS.stay fun o q => hm.heap S o Sw q))
  | succ m ih =>
    intro i s e mv z hS
    have il : i < n := by omega
    refine codeAny_builtin PyProof.Rows.F.entry_set_update_loop ?_
    rw [Around.under_plainId PyProof.Rows.F.plain_set_update_loop _]
    show wpAny _ A.in1 (pyNext (.ref I) >>= _) _ _ _
    refine wpAny_bind (W.item i s _ _ il z fun v s' hP z' hm => ?_)
    obtain ⟨x, t, hx, rfl⟩ := val i v hP
    have tk : xs.take (i + 1) = xs.take i ++ [x] := by rw [List.take_add_one, hx]; rfl
    have fresh : x ∉ xs.take i := by
      have n2 : (xs.take (i + 1)).Nodup := nd.sublist (List.take_sublist _ _)
      rw [tk, List.nodup_append] at n2
      exact fun hm => n2.2.2 x hm x (.head _) rfl
    have hS' : TxSet prog w s'.heap S (xs.take i) := hS.stay fun o q => hm.heap S o Sw q
    have tl : (xs.take i).length = i := by rw [List.length_take]; omega
    show wpAny _ A.in1 (holding [Value.str x t] (setAdd S (.str x t)) >>= _) _ _ _
    refine wpAny_bind (wpAny_holding ?_)
    unfold setAdd
    refine wpAny_holding (wpAny_bind ((strKind prog w).pyHash (k := x) (strKind_is _ _ _ _) ?_))
    refine wpAny_setAddHashed_of (knd := strKind prog w) (k := x) (s := { s' with toks := s'.toks + 1 }) (strKind_is _ _ _ _) rfl hS' (by rw [tl]; omega) fun h2 sb new => ?_
    have new' : TxSet prog w h2 S (xs.take (i + 1)) := by
      refine SetOf_congr new (fun k => ?_) ?_
      · rw [tk]
        by_cases e1 : k = x
        · subst e1
          simp
        · simp [e1]
      · rw [decide_eq_false fresh, tk, List.length_append]
        rfl
    have z2 : St (i + 1) { s' with heap := h2, toks := s'.toks + 1 } := W.frame _ s' _ _ z' (Nat.le_succ _) fun b hb o q => by
      rw [sb.2 b (fun e2 => out (e2 ▸ hb))]
      exact q
    refine wpAny_pure ⟨plainId_quiet PyProof.Rows.F.plain_set_update_loop _, ih (i + 1) _ (by omega) (Moved.trans W.gtrans mv ((hm.mono more).then_heap (Nat.le_succ _) fun b o hb q => ?_)) z2 new'⟩
    rw [sb.2 b (fun e2 => hb (e2 ▸ .head _))]
    exact q
end
section
variable {prog : Program} {w : World} {A : Around} {E : Value → Shared → Prop} {s : Shared}
open PySem.F in
/-- set(xs), xs a list of unlike texts -/
theorem call_set_tx {l : Addr} {its : Array Value} {xs : List Str} {Q : Value → Shared → Prop} (hh : A.handled = none) (hl : s.heap.IsList l its) (val : ∀ (i : Nat) (v : Value), its[i]? = some v → ∃ (x : Str) (t : Tok), xs[i]? = some x ∧ v = Value.str x t) (len : xs.length = its.size) (nd : xs.Nodup) (few : its.size + 1 < scanBound)
    (k : ∀ (h2 : Heap) (tk : Nat), TxSet prog w h2 s.heap.objs.size xs → (∀ b o, s.heap.get? b = some o → h2.get? b = some o) → Q (.ref s.heap.objs.size) { s with heap := h2, toks := tk }) :
    wpAny (model prog w) A (call (.type "set") [.ref l]) Q E s := by
  obtain ⟨c, tl, hmro⟩ := called_set.mro
  have hmade := called_set.made
  have hsub := called_set.sub
  have noT := called_set.notType
  have can := called_set.canCreate
  have ct := typeCall_set_1 (.ref l)
  refine wpAny_call (codeAny_of_tree ?_)
  show wpAny _ _ (callAny (.type "set") _) _ _ _
  refine wpAny_pure ⟨Code.quiet_builtin _ (by decide +kernel), codeAny_builtin PySem.F.entry_type_call ?_⟩
  rw [Around.under_plain (weight_type_call_type "set" [.ref l] []) rfl]
  repeat any_goals first | assumption | wp_step
  have size1 : ∀ o : Obj, (s.heap.push o).objs.size = s.heap.objs.size + 1 := fun o => Heap.size_push ..
  refine codeAny_mono (code_set_new_1 (.ref l) (E := E) (Q₁ := fun v t => ∃ led : Bool, v = .ref s.heap.objs.size ∧ t = { s with heap := s.heap.push { cls := .type "set", dict := none, data := .set #[] 0 (.fresh 0 0 led) } }) fun led => ⟨led, rfl, rfl⟩) fun r t hr => ?_
  rcases r with e | fl
  · exact hr
  cases fl with
  | next => exact hr.elim
  | brk => exact hr.elim
  | cont => exact hr.elim
  | ret obj =>
    obtain ⟨led, rfl, rfl⟩ := hr
    generalize hset : ({ cls := .type "set", dict := none, data := .set #[] 0 (.fresh 0 0 led) } : Obj) = so
    have at1 : (s.heap.push so).get? s.heap.objs.size = some so := Heap.get?_push_size _ (by rw [← hset] <;> rfl)
    have ty : Shared.TypeIs { s with heap := s.heap.push so } (.ref s.heap.objs.size) "set" := ⟨so, at1, by rw [← hset]⟩
    have look := called_set.init.lookup
    have bind_ := called_set.init.bind (.ref s.heap.objs.size)
    repeat any_goals first | assumption | wp_step
    refine codeAny_mono (codeAny_call_builtin (R := wants (fun r t => r = .none ∧ ∃ (h2 : Heap) (tk : Nat), t = { s with heap := h2, toks := tk } ∧ TxSet prog w h2 s.heap.objs.size xs ∧ ∀ b o, s.heap.get? b = some o → h2.get? b = some o) E)
      called_set.init.plain entry_set_init (check_set_init_1 ty ?_)) fun r2 t2 hr2 => ?_
    · subst hset
      obtain ⟨⟨cl, dct, dat, sls⟩, hol, hcl, nl, hdl⟩ := hl
      have lS : l < s.heap.objs.size := Heap.lt_size hol
      cases (show cl = Value.type "list" from hcl)
      cases (show dat = Data.seq its nl from hdl)
      have listAt := Heap.get?_push_of_some { cls := .type "set", dict := none, data := .set #[] 0 (.fresh 0 0 led) } hol
      have list1 : (s.heap.push { cls := .type "set", dict := none, data := .set #[] 0 (.fresh 0 0 led) }).IsList l its := ⟨_, listAt, rfl, nl, rfl⟩
      have sub1 := sub_list_set
      have sub2 := sub_list_frozenset
      have notDict : (Value.type "list" == Value.type "dict") = false := by decide
      unfold Builtin.«set.__init__» noKeywords Builtin.Frozenset.updateFrom
      generalize hPI : pyIter = PI
      wp_walk
      subst hPI
      refine wpAny_pyIter_list list1 ?_
      refine wpAny_bind (wpAny_runValue ?_)
      have ne1 : l ≠ (s.heap.push { cls := .type "set", dict := none, data := .set #[] 0 (.fresh 0 0 led) }).objs.size := by
        rw [size1]
        exact Nat.ne_of_lt (Nat.lt_succ_of_lt lS)
      have out1 : s.heap.objs.size ∉ [(s.heap.push { cls := .type "set", dict := none, data := .set #[] 0 (.fresh 0 0 led) }).objs.size, l] := by
        rw [size1, List.mem_cons, List.mem_singleton]
        exact fun z => z.elim (fun e => Nat.lt_irrefl _ (Nat.lt_of_lt_of_eq (Nat.lt_succ_self _) e.symm)) (fun e => Nat.lt_irrefl _ (Nat.lt_of_lt_of_eq lS e))
      have hh3 : A.in1.in1.in1.handled = none := hh
      have new0 : TxSet prog w ((s.heap.push { cls := .type "set", dict := none, data := .set #[] 0 (.fresh 0 0 led) }).push { cls := .type "list_iterator", data := .fields #[.ref l, .int 0 0] }) s.heap.objs.size ([] : List Str) := by
        have at2 := Heap.get?_push_of_some { cls := .type "list_iterator", data := .fields #[.ref l, .int 0 0] } at1
        exact SetOf_congr ((setObjOf_fresh (knd := strKind prog w) led).setOf at2 (by decide)) (fun _ => rfl) rfl
      refine tx_loop ((Walks.list hh3 _ l ne1 its).toS) s.heap.objs.size out1 xs nd len few (fun i v h => val i v h)
        { s with heap := (s.heap.push { cls := .type "set", dict := none, data := .set #[] 0 (.fresh 0 0 led) }).push { cls := .type "list_iterator", data := .fields #[.ref l, .int 0 0] } } ?_ its.size 0 _ (Nat.zero_add _) ⟨fun _ _ _ e => e, rfl, rfl, rfl, Nat.le_refl _⟩ ⟨⟨_, Heap.get?_push_size _ rfl, rfl, rfl⟩, (list1.push _)⟩ new0
      rintro ⟨h2, g2, d2, k2, o2⟩ mv hS
      cases (show g2 = s.gens from mv.gens)
      cases (show d2 = s.drawn from mv.drawn)
      cases (show o2 = s.os from mv.os)
      show wpAny _ _ _ _ _ _
      refine wpAny_pure ?_
      show wpAny _ _ (ret Value.none) _ _ _
      refine wpAny_pure ⟨rfl, h2, k2, rfl, hS, fun b o e => mv.heap b o ?_ (Heap.get?_push_of_some _ (Heap.get?_push_of_some _ e))⟩
      have bl : b < s.heap.objs.size := Heap.lt_size e
      rw [size1, List.mem_cons, List.mem_singleton]
      exact fun z => z.elim (fun e => Nat.lt_irrefl _ (Nat.lt_of_lt_of_eq bl e.symm)) (fun e => by
        have up : s.heap.objs.size < b := by
          rw [e]
          exact Nat.lt_succ_self _
        exact Nat.lt_irrefl _ (Nat.lt_trans bl up))
    · rcases r2 with e | fl2
      · exact hr2
      cases fl2 with
      | next => exact hr2.elim
      | brk => exact hr2.elim
      | cont => exact hr2.elim
      | ret v =>
        obtain ⟨rfl, h2, tk, rfl, hS, keep⟩ := hr2
        repeat any_goals first | assumption | wp_step
        exact k h2 tk hS keep
end
section
open SX (S S_len S_inj)
/-- len(set(e)), e a list of unlike texts -/
def tLenSet (K : PySem.W.Frag) (te : TE) : TE := fun σ H Q => te σ H fun x H1 => ∃ (l : Addr) (ts : List (List Nat)), x = .ref l ∧ SqL K H1 l (ts.map fun t => V.str (S t)) ∧ ts.Nodup ∧ ts.length ≤ 4000 ∧ Q (.int ts.length) H1
theorem pe_lenSet {X : Cx} {e : Expr} {te : TE} {p1 p2 q pos : Pos} (hc : X.calm = true) (g1 : Gl X "len") (m1 : X.mg "len" = none) (g2 : Gl X "set") (m2 : X.mg "set" = none) (he : PE X e te)
    (one : starEach [e] X.env = (false, eval e X.env) :: starEach [] X.env := by rfl) : PE X (.Call (.Name "len" p1) [.Call (.Name "set" p2) [e] [] q] [] pos) (tLenSet X.K te) := by
  refine ⟨fun pins s σ H Q I h => Call_ (ld_blt I g1 m1 boot_len (callWith_builtin1 (args_cons (Call_ (ld_blt I g2 m2 boot_set (callWith_type1 (args_cons (thn (he.run pins s σ H _ I h) ?_) one) one rfl))) rfl) rfl rfl))⟩
  rintro v s1 ⟨x, H1, I1, r1, l, ts, rfl, hl, nd, few, k⟩
  refine args_nil ?_
  cases r1
  obtain ⟨its, rv, pl, hz⟩ := I1.list hl
  have lv := rv.length
  rw [List.length_map] at lv
  have look : ∀ {us : List Value} {zs : List (List Nat)}, Vals (zs.map fun t => V.str (S t)) us → ∀ (i : Nat) (v : Value), us[i]? = some v → ∃ (x : Str) (t : Tok), (zs.map S)[i]? = some x ∧ v = Value.str x t := by
    intro us zs
    induction zs generalizing us with
    | nil =>
      intro r i v e
      rw [List.map_nil] at r
      cases r
      cases i <;> cases e
    | cons z zs ih =>
      intro r i v e
      rw [List.map_cons] at r
      cases r with
      | cons a r =>
        obtain ⟨t, rfl⟩ := a
        cases i with
        | zero => exact ⟨S z, t, rfl, (Option.some.inj e).symm⟩
        | succ i => exact ih r i v e
  have nd2 : (ts.map S).Nodup := by
    have gen : ∀ zs : List (List Nat), zs.Nodup → (zs.map S).Nodup := by
      intro zs
      induction zs with
      | nil => intro _; exact .nil
      | cons z zs ih =>
        intro n
        rw [List.nodup_cons] at n
        rw [List.map_cons, List.nodup_cons]
        refine ⟨fun hm => ?_, ih n.2⟩
        obtain ⟨y, hy, e⟩ := List.mem_map.mp hm
        rw [← S_inj e] at n
        exact n.1 hy
    exact gen ts nd
  refine call_set_tx (I1.ok.hd hc) pl.isList (fun i v e => look rv i v (by simpa using e)) (by rw [List.length_map, List.size_toArray, lv]) nd2 (by rw [List.size_toArray, ← lv]; exact Nat.lt_of_le_of_lt (Nat.succ_le_succ few) (by decide)) fun h2 tk new keep => ?_
  refine args_nil ?_
  obtain ⟨o, es, ep, tb, at_, ex, da, _, _, _, fits, n⟩ := new
  have I2 : L2.Inv X pins σ H1 { s1 with heap := h2, toks := tk } := I1.kept keep
  rw [List.length_map] at n
  refine call_len_set at_ ex da fits (by rw [n]; omega) ⟨.int ts.length, H1, I2.tok _, ⟨_, by rw [n]⟩, k⟩
end

section
/-- a def that wishes that no guard stands on the stack -/
structure ClG (P : Program) (w : World) (K : PySem.W.Frag) (mg : Str → Option Value) (base : Heap) (k : Nat) (x : Str) (sp : Sp) : Prop where
  ex : ∃ (f : Addr) (fd : FuncData) (ps : List Str), FnG P w K mg base CX0 k f fd ps sp ∧ mg x = some (.ref f) ∧ PySem.W.keepIn K (.ref f) = true ∧ Binds K fd ps []
theorem ClG.mk' {P : Program} {w : World} {K : PySem.W.Frag} {mg : Str → Option Value} {base : Heap} {k : Nat} {x qual : Str} {st : Stmt} {f : Addr} {fd : FuncData} {ps : List Str} {sp : Sp} (F : Fun K x qual st f fd) (m : mg x = some (.ref f)) (b : Binds K fd ps []) (ok : FnG P w K mg base CX0 k f fd ps sp) :
    ClG P w K mg base k x sp := ⟨f, fd, ps, ok, m, F.kp, b⟩
theorem pe_fG {X : Cx} {k j : Nat} {x : Str} {sp : Sp} {p pos : Pos} {e : Expr} {es : List Expr} {t : TA} (c : ClG X.prog X.w X.K X.mg X.base k x sp) (gd : X.A.guards = some []) (hr : Room j X.A) (hk : k ≤ j) (hg : Gl X x) (ha : PA X (e :: es) t) (hdb : (x == ("__debug__" : Str)) = false := by decide)
    (he : starEach (e :: es) X.env = (false, eval e X.env) :: starEach es X.env := by rfl) (hpl : (backTo pos (starEach es X.env)).any (·.1) = false := by rfl) : PE X (.Call (.Name x p) (e :: es) [] pos) (tF sp t) := by
  obtain ⟨f, fd, ps, F, hm, kp, b⟩ := c.ex
  refine ⟨fun pins s σ H Q I h => wpAny_Call_Name_kw (ld_glob I hg hm ?_ hdb)⟩
  refine PySem.W.callWith_K (h₀ := X.base) I.ok.mod.kin kp (thn (ha.run pos pins s σ H _ I h) ?_) he hpl
  rintro us s2 ⟨vs, H2, I2, r2, q2⟩
  refine ⟨I2.kIn, ?_⟩
  rw [List.nil_append]
  have bb := b s2 us I2.kIn (by rw [List.append_nil, ← r2.length]; exact F.len _ _ _ _ q2)
  rw [List.append_nil] at bb
  have rc := F.run X.A X.stack s2 H2 ⟨us, []⟩ us vs Q E0 gd (hr.mono hk) I2.env0 bb r2 q2
  refine wpAny_call (codeAny_mono rc fun r s3 hq => ?_)
  rcases r with er | fl
  · exact hq.elim
  · cases fl with
    | ret u => exact I2.after hq
    | next => exact hq.elim
    | brk => exact hq.elim
    | cont => exact hq.elim
end
end EH

set_option Elab.async false
set_option linter.all false
set_option maxRecDepth 100000
set_option maxHeartbeats 4000000
/-! EH10: enumerate(zip(text, text)), the pair kept in a name. -/
namespace EH
open PySem PySem.Spec PyProof.Rows L2
open SX (S S_len S_cat S_inj join_S S_tl)
open Sem (wp)
/-- a zip, its result given out or not, known to be so or not -/
def ZC (h : Heap) (z TI TO : Addr) : Prop := ∃ (f0 : Value) (f1 : Bool), h.get? z = some { cls := .type "zip", dict := none, data := .fields #[f0, .bool f1, .bool false, .ref TI, .ref TO], slots := #[] } ∧ (f0 = .none ∨ ∃ T : Nat, f0 = rawInt T)
theorem ZC.live {h : Heap} {z TI TO : Addr} (c : ZC h z TI TO) : z < h.objs.size := let ⟨_, _, e, _⟩ := c; Heap.lt_size e
theorem ZC.at {h h' : Heap} {z TI TO : Addr} (c : ZC h z TI TO) (k : ∀ o, h.get? z = some o → h'.get? z = some o) : ZC h' z TI TO := let ⟨a, b, e, f⟩ := c; ⟨a, b, k _ e, f⟩
section
variable {prog : Program} {w : World} {A : Around} {E : Value → Shared → Prop} {s : Shared} {z TI TO i1 i2 : Addr} {fp1 fp2 : List Addr} {n1 n2 i : Nat} {P1 P2 : Nat → Value → Prop} {St1 St2 : Nat → Heap → Prop} {a1 a2 : Value} {wr : List Addr}
theorem alive_any {a : Addr} {Q : Option Obj → Shared → Prop} (h : Q (s.heap.get? a) s) : wpAny (model prog w) A (loadIfAlive a) Q E s := fun _ _ _ => h
theorem ZC.tupleFree {f0 : Value} {f1 : Bool} {Q : Bool → Shared → Prop} (hz : s.heap.get? z = some { cls := .type "zip", dict := none, data := .fields #[f0, .bool f1, .bool false, .ref TI, .ref TO], slots := #[] }) (hf : f0 = .none ∨ ∃ T : Nat, f0 = rawInt T)
    (h1 : Q true s) (h0 : ∀ h', ZC h' z TI TO → Heap.SameBut z s.heap h' → Q false { s with heap := h' }) : wpAny (model prog w) A (Builtin.SmallTypes.ownedTupleIsFree (.ref z)) Q E s := by
  unfold Builtin.SmallTypes.ownedTupleIsFree
  rcases hf with rfl | ⟨T, rfl⟩
  · exact wpAny_bind (wpAny_field hz rfl (x := .none) rfl (wpAny_pure h1))
  · refine wpAny_bind (wpAny_field hz rfl (x := rawInt T) rfl ?_)
    show wpAny _ _ (loadIfAlive ((T : Int).toNat) >>= _) _ _ _
    refine wpAny_bind (alive_any ?_)
    cases s.heap.get? ((T : Int).toNat) with
    | none => simp only [Option.isNone_none, if_true]; exact wpAny_pure h1
    | some o =>
      simp only [Option.isNone_some, Bool.false_eq_true, if_false]
      refine wpAny_bind (wpAny_field hz rfl (x := .bool f1) rfl ?_)
      cases f1 with
      | true =>
        rw [if_neg (show ¬ ((Value.bool true != Value.bool true) = true) from Bool.false_ne_true)]
        exact wpAny_pure (h0 s.heap ⟨_, _, hz, .inr ⟨T, rfl⟩⟩ (Heap.SameBut.refl _ _))
      | false =>
        rw [if_pos (show (Value.bool false != Value.bool true) = true from rfl)]
        exact wpAny_bind (wpAny_setField_rec hz (by simp) fun h₁ hz₁ hs₁ => wpAny_pure (h0 h₁ ⟨_, _, hz₁, .inr ⟨T, rfl⟩⟩ hs₁))
/-- the next pair: a new cell, whatever became of the last one -/
theorem ZC.next {Q : Value → Shared → Prop} (S : ZipSep2 z TI TO i1 i2 fp1 fp2) (D1 : Draws prog w A i1 fp1 n1 P1 St1) (D2 : Draws prog w A i2 fp2 n2 P2 St2)
    (hz : ZC s.heap z TI TO) (hTI : IsTupOf2 s.heap TI (.ref i1) (.ref i2)) (hTO : IsTupOf2 s.heap TO a1 a2) (st1 : St1 i s.heap) (st2 : St2 i s.heap) (hlt1 : i < n1) (hlt2 : i < n2)
    (hQ : ∀ x1 x2 b1 b2 h' tk, P1 i x1 → P2 i x2 → ZC h' z TI TO → IsTupOf2 h' TO b1 b2 → St1 (i + 1) h' → St2 (i + 1) h' → IsTupOf2 h' s.heap.objs.size x1 x2 →
      (∀ c o, c ∉ [z, TO, i1, i2] → s.heap.get? c = some o → h'.get? c = some o) → Q (.ref s.heap.objs.size) { s with heap := h', toks := tk }) :
    wpAny (model prog w) A (Builtin.«zip.__next__» ⟨[.ref z], []⟩) (fun fin s' => ∃ v, fin = .done (.ret v) ∧ Q v s') E s := by
  obtain ⟨f0, f1, hz, hf⟩ := hz
  obtain ⟨hp, g, d, tk0, os⟩ := s
  show wpAny _ _ (field (.ref z) 2 >>= _) _ _ _
  refine wpAny_bind (wpAny_field hz rfl (x := .bool false) rfl ?_)
  show wpAny _ _ (field (.ref z) 3 >>= _) _ _ _
  refine wpAny_bind (wpAny_field hz rfl (x := .ref TI) rfl ?_)
  refine wpAny_bind (wpAny_seqItems hTI rfl ?_)
  show wpAny _ _ (Builtin.SmallTypes.ownedTupleIsFree (.ref z) >>= _) _ _ _
  have nz : ∀ {c : Addr} {o : Obj}, hp.get? c = some o → hp.objs.size ≠ c := fun e => Nat.ne_of_gt (Heap.lt_size e)
  refine wpAny_bind (ZC.tupleFree hz hf ?_ fun h1 hz1 hs1 => ?_)
  · simp only [if_true]
    refine wpAny_bind (wpAny_rule ?_)
    refine wpAny_bind (wpAny_field hz rfl (x := .ref TO) rfl ?_)
    refine wpAny_bind (wpAny_setField_rec hz (by simp) fun g0 hz0 hs0 => ?_)
    replace hz0 : g0.get? z = some { cls := .type "zip", dict := none, data := .fields #[.ellipsis, .bool f1, .bool false, .ref TI, .ref TO], slots := #[] } := hz0
    replace hs0 : Heap.SameBut z hp g0 := hs0
    refine wpAny_bind ?_
    simp only [List.zipIdx_cons, List.zipIdx_nil, List.forIn_cons, List.forIn_nil]
    refine wpAny_bind (wpAny_bind (wpAny_onRaise ?_))
    show wpAny _ _ (Builtin.SmallTypes.nextOf (.ref i1) >>= _) _ _ ⟨g0, g, d, tk0, os⟩
    refine wpAny_bind (D1.item i _ _ _ hlt1 (D1.over st1 hs0 S.zf1) fun x1 p1 tk1 hx1 sn1 hp1 => wpAny_pure ?_)
    replace hp1 : Heap.SameBut i1 g0 p1 := hp1
    have hU1 : IsTupOf2 p1 TO a1 a2 := hp1.extBut _ _ S.Ti1 (hs0.extBut _ _ S.TOz hTO)
    refine wpAny_bind (wpAny_seqItems (s := ⟨p1, g, d, tk1, os⟩) hU1 rfl ?_)
    refine wpAny_bind (updateSeq_IsTupOf2 (s := ⟨p1, g, d, tk1, os⟩) hU1 fun g1 hT1 hs1 => ?_)
    replace hT1 : IsTupOf2 g1 TO x1 a2 := hT1
    replace hs1 : Heap.SameBut TO p1 g1 := hs1
    refine wpAny_bind (wpAny_letGo (wpAny_pure ?_))
    refine wpAny_bind (wpAny_bind (wpAny_onRaise ?_))
    show wpAny _ _ (Builtin.SmallTypes.nextOf (.ref i2) >>= _) _ _ ⟨g1, g, d, tk1, os⟩
    refine wpAny_bind (D2.item i _ _ _ hlt2 (D2.over (D2.over (D2.over st2 hs0 S.zf2) hp1 S.sep1_2) hs1 S.Tf2) fun x2 p2 tk2 hx2 sn2 hp2 => wpAny_pure ?_)
    replace hp2 : Heap.SameBut i2 g1 p2 := hp2
    have hU2 : IsTupOf2 p2 TO x1 a2 := hp2.extBut _ _ S.Ti2 hT1
    refine wpAny_bind (wpAny_seqItems (s := ⟨p2, g, d, tk2, os⟩) hU2 rfl ?_)
    refine wpAny_bind (updateSeq_IsTupOf2 (s := ⟨p2, g, d, tk2, os⟩) hU2 fun g2 hT2 hs2 => ?_)
    replace hT2 : IsTupOf2 g2 TO x1 x2 := hT2
    replace hs2 : Heap.SameBut TO p2 g2 := hs2
    refine wpAny_bind (wpAny_letGo (wpAny_pure (wpAny_pure ?_)))
    refine wpAny_bind (wpAny_seqItems (s := ⟨g2, g, d, tk2, os⟩) hT2 rfl ?_)
    refine wpAny_bind (wpAny_newTuple ?_)
    have hsz : g2.objs.size = hp.objs.size := by rw [hs2.1, hp2.1, hs1.1, hp1.1, hs0.1]
    have hzz := hs2.extBut _ _ S.TOz.symm (hp2.extBut _ _ S.zi2 (hs1.extBut _ _ S.TOz.symm (hp1.extBut _ _ S.zi1 hz0)))
    have hkk : ∀ c o, c ∉ [z, TO, i1, i2] → hp.get? c = some o → g2.get? c = some o := fun c o hc e => by
      simp only [List.mem_cons, List.not_mem_nil, or_false, not_or] at hc
      exact hs2.extBut _ _ hc.2.1 (hp2.extBut _ _ hc.2.2.2 (hs1.extBut _ _ hc.2.1 (hp1.extBut _ _ hc.2.2.1 (hs0.extBut _ _ hc.1 e))))
    have hj1 := D1.over (D1.over (D1.over sn1 hs1 S.Tf1) hp2 S.sep2_1) hs2 S.Tf1
    have hj2 := D2.over sn2 hs2 S.Tf2
    have hzlt : z < g2.objs.size := Heap.lt_size hzz
    show wpAny _ _ (Builtin.SmallTypes.ownedTupleHandOut (.ref z) (.ref g2.objs.size) >>= _) _ _ ⟨g2.push { cls := .type "tuple", data := .seq #[x1, x2] }, g, d, tk2, os⟩
    refine wpAny_bind ?_
    unfold Builtin.SmallTypes.ownedTupleHandOut
    have hz6 := Heap.get?_push_of_some { cls := .type "tuple", data := .seq #[x1, x2] } hzz
    refine wpAny_bind (wpAny_setField_rec hz6 (by simp) fun h7 hz7 hs7 => ?_)
    replace hz7 : h7.get? z = some { cls := .type "zip", dict := none, data := .fields #[rawInt g2.objs.size, .bool f1, .bool false, .ref TI, .ref TO], slots := #[] } := hz7
    refine wpAny_setField_rec hz7 (by simp) fun h8 hz8 hs8 => ?_
    replace hs7 : Heap.SameBut z (g2.push { cls := .type "tuple", data := .seq #[x1, x2] }) h7 := hs7
    replace hs8 : Heap.SameBut z h7 h8 := hs8
    have up : ∀ c o, c ≠ z → g2.get? c = some o → h8.get? c = some o := fun c o c1 e => hs8.extBut _ _ c1 (hs7.extBut _ _ c1 (Heap.get?_push_of_some _ e))
    have hT8 : IsTupOf2 h8 g2.objs.size x1 x2 := hs8.extBut _ _ (Nat.ne_of_gt hzlt) (hs7.extBut _ _ (Nat.ne_of_gt hzlt) (Heap.get?_push_size _ rfl))
    refine wpAny_pure ⟨_, rfl, ?_⟩
    show Q (.ref g2.objs.size) ⟨h8, g, d, tk2, os⟩
    rw [hsz] at hT8 ⊢
    refine hQ x1 x2 x1 x2 h8 tk2 hx1 hx2 ⟨_, _, hz8, .inr ⟨_, rfl⟩⟩ (up _ _ S.TOz hT2) (D1.frame _ _ _ hj1 fun b hb o e => up b o (fun q => S.zf1 (q ▸ hb)) e) (D2.frame _ _ _ hj2 fun b hb o e => up b o (fun q => S.zf2 (q ▸ hb)) e) hT8 fun c o hc e => up c o (fun q => hc (by simp [q])) (hkk c o hc e)
  · simp only [Bool.false_eq_true, if_false]
    replace hs1 : Heap.SameBut z hp h1 := hs1
    refine wpAny_bind ?_
    rw [← Array.forIn_toList]
    simp only [List.forIn_cons, List.forIn_nil]
    refine wpAny_bind (wpAny_bind (wpAny_holding ?_))
    show wpAny _ _ (Builtin.SmallTypes.nextOf (.ref i1) >>= _) _ _ ⟨h1, g, d, tk0, os⟩
    refine wpAny_bind (D1.item i _ _ _ hlt1 (D1.over st1 hs1 S.zf1) fun x1 p1 tk1 hx1 sn1 hp1 => wpAny_pure (wpAny_pure ?_))
    replace hp1 : Heap.SameBut i1 h1 p1 := hp1
    refine wpAny_bind (wpAny_bind (wpAny_holding ?_))
    show wpAny _ _ (Builtin.SmallTypes.nextOf (.ref i2) >>= _) _ _ ⟨p1, g, d, tk1, os⟩
    refine wpAny_bind (D2.item i _ _ _ hlt2 (D2.over (D2.over st2 hs1 S.zf2) hp1 S.sep1_2) fun x2 p2 tk2 hx2 sn2 hp2 => wpAny_pure (wpAny_pure (wpAny_pure ?_)))
    replace hp2 : Heap.SameBut i2 p1 p2 := hp2
    show wpAny _ _ (newTuple [x1, x2] >>= _) _ _ ⟨p2, g, d, tk2, os⟩
    refine wpAny_bind (wpAny_newTuple (wpAny_pure ⟨_, rfl, ?_⟩))
    show Q (.ref p2.objs.size) ⟨p2.push { cls := .type "tuple", data := .seq #[x1, x2] }, g, d, tk2, os⟩
    have hsz : p2.objs.size = hp.objs.size := by rw [hp2.1, hp1.1, hs1.1]
    have up : ∀ c o, c ∉ [z, TO, i1, i2] → hp.get? c = some o → p2.get? c = some o := fun c o hc e => by
      simp only [List.mem_cons, List.not_mem_nil, or_false, not_or] at hc
      exact hp2.extBut _ _ hc.2.2.2 (hp1.extBut _ _ hc.2.2.1 (hs1.extBut _ _ hc.1 e))
    have hTp : IsTupOf2 (p2.push { cls := .type "tuple", data := .seq #[x1, x2] }) p2.objs.size x1 x2 := Heap.get?_push_size _ rfl
    rw [hsz] at hTp ⊢
    have hj1 := D1.over sn1 hp2 S.sep2_1
    refine hQ x1 x2 a1 a2 _ tk2 hx1 hx2 (hz1.at fun o e => Heap.get?_push_of_some _ (hp2.extBut _ _ S.zi2 (hp1.extBut _ _ S.zi1 e))) (Heap.get?_push_of_some _ (hp2.extBut _ _ S.Ti2 (hp1.extBut _ _ S.Ti1 (hs1.extBut _ _ S.TOz hTO))))
      (D1.frame _ _ _ hj1 fun b hb o e => Heap.get?_push_of_some _ e) (D2.frame _ _ _ sn2 fun b hb o e => Heap.get?_push_of_some _ e) hTp fun c o hc e => Heap.get?_push_of_some _ (up c o hc e)
/-- no more pairs -/
theorem ZC.stops {Q : Fin → Shared → Prop} (S : ZipSep2 z TI TO i1 i2 fp1 fp2) (D1 : Draws prog w A i1 fp1 n1 P1 St1) (D2 : Draws prog w A i2 fp2 n2 P2 St2)
    (hz : ZC s.heap z TI TO) (hTI : IsTupOf2 s.heap TI (.ref i1) (.ref i2)) (hTO : IsTupOf2 s.heap TO a1 a2) (st1 : St1 i s.heap) (st2 : St2 i s.heap) (hle1 : i ≤ n1) (hle2 : i ≤ n2) (hend : i = n1 ∨ i = n2)
    (hE : ∀ h' tk e, (∀ c o, c ∉ [z, TO, i1, i2] → s.heap.get? c = some o → h'.get? c = some o) → (∃ o, h'.get? e = some o ∧ o.cls = .type "StopIteration") → E (.ref e) { s with heap := h', toks := tk }) :
    wpAny (model prog w) A (Builtin.«zip.__next__» ⟨[.ref z], []⟩) Q E s := by
  obtain ⟨f0, f1, hz, hf⟩ := hz
  obtain ⟨hp, g, d, tk0, os⟩ := s
  show wpAny _ _ (field (.ref z) 2 >>= _) _ _ _
  refine wpAny_bind (wpAny_field hz rfl (x := .bool false) rfl ?_)
  show wpAny _ _ (field (.ref z) 3 >>= _) _ _ _
  refine wpAny_bind (wpAny_field hz rfl (x := .ref TI) rfl ?_)
  refine wpAny_bind (wpAny_seqItems hTI rfl ?_)
  show wpAny _ _ (Builtin.SmallTypes.ownedTupleIsFree (.ref z) >>= _) _ _ _
  have cut : ∀ {c : Addr}, c ∉ [z, TO, i1, i2] → c ≠ z ∧ c ≠ TO ∧ c ≠ i1 ∧ c ≠ i2 := fun hc => by simpa using hc
  refine wpAny_bind (ZC.tupleFree hz hf ?_ fun h1 hz1 hs1 => ?_)
  · simp only [if_true]
    refine wpAny_bind (wpAny_rule ?_)
    refine wpAny_bind (wpAny_field hz rfl (x := .ref TO) rfl ?_)
    refine wpAny_bind (wpAny_setField_rec hz (by simp) fun g0 hz0 hs0 => ?_)
    replace hz0 : g0.get? z = some { cls := .type "zip", dict := none, data := .fields #[.ellipsis, .bool f1, .bool false, .ref TI, .ref TO], slots := #[] } := hz0
    replace hs0 : Heap.SameBut z hp g0 := hs0
    refine wpAny_bind ?_
    simp only [List.zipIdx_cons, List.zipIdx_nil, List.forIn_cons, List.forIn_nil]
    refine wpAny_bind (wpAny_bind (wpAny_onRaise ?_))
    show wpAny _ _ (Builtin.SmallTypes.nextOf (.ref i1) >>= _) _ _ ⟨g0, g, d, tk0, os⟩
    by_cases hlt1 : i < n1
    · refine wpAny_bind (D1.item i _ _ _ hlt1 (D1.over st1 hs0 S.zf1) fun x1 p1 tk1 hx1 sn1 hp1 => wpAny_pure ?_)
      replace hp1 : Heap.SameBut i1 g0 p1 := hp1
      have hU1 : IsTupOf2 p1 TO a1 a2 := hp1.extBut _ _ S.Ti1 (hs0.extBut _ _ S.TOz hTO)
      refine wpAny_bind (wpAny_seqItems (s := ⟨p1, g, d, tk1, os⟩) hU1 rfl ?_)
      refine wpAny_bind (updateSeq_IsTupOf2 (s := ⟨p1, g, d, tk1, os⟩) hU1 fun g1 hT1 hs1 => ?_)
      replace hs1 : Heap.SameBut TO p1 g1 := hs1
      refine wpAny_bind (wpAny_letGo (wpAny_pure ?_))
      have hi2 : i = n2 := by omega
      refine wpAny_bind (wpAny_bind (wpAny_onRaise ?_))
      show wpAny _ _ (Builtin.SmallTypes.nextOf (.ref i2) >>= _) _ _ ⟨g1, g, d, tk1, os⟩
      refine wpAny_bind (D2.done ⟨g1, g, d, tk1, os⟩ _ _ (by rw [← hi2]; exact (D2.over (D2.over (D2.over st2 hs0 S.zf2) hp1 S.sep1_2) hs1 S.Tf2)) fun q e hq he => ?_)
      replace hq : Heap.ExtBut i2 g1 q := hq
      obtain ⟨oe, hoe, hce⟩ := he
      replace hoe : q.get? e = some oe := hoe
      have hzq := hq _ _ S.zi2 (hs1.extBut _ _ S.TOz.symm (hp1.extBut _ _ S.zi1 hz0))
      have hez : e ≠ z := fun x => by subst x; rw [hzq] at hoe; cases hoe; simp at hce
      refine wpAny_setField_rec (s := ⟨q, g, d, tk1, os⟩) hzq (by simp) fun q' _ hq' => ?_
      replace hq' : Heap.SameBut z q q' := hq'
      refine hE q' tk1 e (fun c o hc x => ?_) ⟨oe, hq'.extBut _ _ hez hoe, hce⟩
      have u := cut hc
      exact hq'.extBut _ _ u.1 (hq _ _ u.2.2.2 (hs1.extBut _ _ u.2.1 (hp1.extBut _ _ u.2.2.1 (hs0.extBut _ _ u.1 x))))
    · have hi1 : i = n1 := by omega
      refine wpAny_bind (D1.done ⟨g0, g, d, tk0, os⟩ _ _ (by rw [← hi1]; exact (D1.over st1 hs0 S.zf1)) fun q e hq he => ?_)
      replace hq : Heap.ExtBut i1 g0 q := hq
      obtain ⟨oe, hoe, hce⟩ := he
      replace hoe : q.get? e = some oe := hoe
      have hzq := hq _ _ S.zi1 hz0
      have hez : e ≠ z := fun x => by subst x; rw [hzq] at hoe; cases hoe; simp at hce
      refine wpAny_setField_rec (s := ⟨q, g, d, tk0, os⟩) hzq (by simp) fun q' _ hq' => ?_
      replace hq' : Heap.SameBut z q q' := hq'
      refine hE q' tk0 e (fun c o hc x => ?_) ⟨oe, hq'.extBut _ _ hez hoe, hce⟩
      have u := cut hc
      exact hq'.extBut _ _ u.1 (hq _ _ u.2.2.1 (hs0.extBut _ _ u.1 x))
  · simp only [Bool.false_eq_true, if_false]
    replace hs1 : Heap.SameBut z hp h1 := hs1
    refine wpAny_bind ?_
    rw [← Array.forIn_toList]
    simp only [List.forIn_cons, List.forIn_nil]
    refine wpAny_bind (wpAny_bind (wpAny_holding ?_))
    show wpAny _ _ (Builtin.SmallTypes.nextOf (.ref i1) >>= _) _ _ ⟨h1, g, d, tk0, os⟩
    by_cases hlt1 : i < n1
    · have hi2 : i = n2 := by omega
      refine wpAny_bind (D1.item i _ _ _ hlt1 (D1.over st1 hs1 S.zf1) fun x1 p1 tk1 hx1 sn1 hp1 => wpAny_pure (wpAny_pure ?_))
      replace hp1 : Heap.SameBut i1 h1 p1 := hp1
      refine wpAny_bind (wpAny_bind (wpAny_holding ?_))
      show wpAny _ _ (Builtin.SmallTypes.nextOf (.ref i2) >>= _) _ _ ⟨p1, g, d, tk1, os⟩
      refine wpAny_bind (D2.done ⟨p1, g, d, tk1, os⟩ _ _ (by rw [← hi2]; exact (D2.over (D2.over st2 hs1 S.zf2) hp1 S.sep1_2)) fun q e hq he => ?_)
      replace hq : Heap.ExtBut i2 p1 q := hq
      refine hE q tk1 e (fun c o hc x => ?_) he
      have u := cut hc
      exact hq _ _ u.2.2.2 (hp1.extBut _ _ u.2.2.1 (hs1.extBut _ _ u.1 x))
    · have hi1 : i = n1 := by omega
      refine wpAny_bind (D1.done ⟨h1, g, d, tk0, os⟩ _ _ (by rw [← hi1]; exact (D1.over st1 hs1 S.zf1)) fun q e hq he => ?_)
      replace hq : Heap.ExtBut i1 h1 q := hq
      refine hE q tk0 e (fun c o hc x => ?_) he
      have u := cut hc
      exact hq _ _ u.2.2.1 (hs1.extBut _ _ u.1 x)
theorem ZC.pyIter {Q : Value → Shared → Prop} (hz : ZC s.heap z TI TO) (h : Q (.ref z) s) : wpAny (model prog w) A (pyIter (.ref z)) Q E s := by
  obtain ⟨f0, f1, hz, _⟩ := hz
  have hT : s.TypeIs (.ref z) "zip" := ⟨_, hz, rfl⟩
  refine wpAny_pyIter_slot hT F.slot_zip_iter (wpAny_call_entry F.slot_zip_iter hT F.entry_zip_iter ?_ (F.args_zip_iter_1 _))
  show wpAny _ _ (ret (.ref z)) _ _ s
  exact wpAny_pure ⟨_, rfl, "zip", _, hT, F.slot_zip_next.lookup, h⟩
theorem ZC.nextOf {Q : Value → Shared → Prop} (hz : ZC s.heap z TI TO) (h : wpAny (model prog w) A.in1 (Builtin.«zip.__next__» ⟨[.ref z], []⟩) (fun fin s' => ∃ v, fin = .done (.ret v) ∧ Q v s') E s) : wpAny (model prog w) A (Builtin.SmallTypes.nextOf (.ref z)) Q E s := by
  obtain ⟨f0, f1, hz, _⟩ := hz
  have hT : s.TypeIs (.ref z) "zip" := ⟨_, hz, rfl⟩
  unfold Builtin.SmallTypes.nextOf
  refine wpAny_bind (wpAny_callSpecial?_slot (name := Str.ofString "__next__") hT F.slot_zip_next (wpAny_call_entry F.slot_zip_next hT F.entry_zip_next ?_ (F.args_zip_next_1 _)))
  exact thn h fun fin s' ⟨v, e, q⟩ => ⟨v, e, wpAny_pure q⟩
/-- enumerate, whatever its iterator is: one more pair -/
theorem enumN_item {e it : Addr} {c : Int} {old : Value} {wr : List Addr} {R : Value → Heap → Prop} {Q : Option Value → Shared → Prop} (he : IsEnum s.heap e it c old) (hew : e ∉ wr)
    (hN : ∀ (A' : Around) (Q' : Value → Shared → Prop) (E' : Value → Shared → Prop), A'.handled = A.handled → (∀ x h1 tk, R x h1 → (∀ b o, b ∉ wr → s.heap.get? b = some o → h1.get? b = some o) → Q' x { s with heap := h1, toks := tk }) → wpAny (model prog w) A' (Builtin.SmallTypes.nextOf (.ref it)) Q' E' s)
    (hQ : ∀ x h1 h' tk, R x h1 → (∀ b o, b ∉ wr → s.heap.get? b = some o → h1.get? b = some o) → (∀ b o, b ≠ e → h1.get? b = some o → h'.get? b = some o) → IsEnumOut h' e it (c + 1) x h1.objs.size →
      h'.get? h1.objs.size = some { cls := .type "tuple", data := .seq #[.int c tk, x] } → Q (some (.ref h1.objs.size)) { s with heap := h', toks := tk + 1 }) :
    wpAny (model prog w) A (pyNext (.ref e)) Q E s := by
  have hT : s.TypeIs (.ref e) "enumerate" := ⟨_, he, rfl⟩
  unfold pyNext
  refine wpAny_bind (wpAny_attempt (wpAny_callSpecial?_slot (name := Str.ofString "__next__") hT F.slot_enumerate_next
    (wpAny_call_entry F.slot_enumerate_next hT F.entry_enumerate_next ?_ (F.args_enumerate_next_1 _))))
  obtain ⟨hp, g, d, tk0, os⟩ := s
  show wpAny _ _ (field (.ref e) 2 >>= _) _ _ _
  refine wpAny_bind (wpAny_field he rfl (x := .ref it) rfl ?_)
  refine wpAny_bind (hN _ _ _ rfl fun x h1 tk hR k1 => ?_)
  replace k1 : ∀ b o, b ∉ wr → hp.get? b = some o → h1.get? b = some o := k1
  have he1 : IsEnum h1 e it c old := k1 e _ hew he
  show wpAny _ _ (field (.ref e) 3 >>= _) _ _ ⟨h1, g, d, tk, os⟩
  refine wpAny_bind (wpAny_field he1 rfl (x := rawInt c) rfl ?_)
  show wpAny _ _ (field (.ref e) 4 >>= _) _ _ ⟨h1, g, d, tk, os⟩
  refine wpAny_bind (wpAny_field he1 rfl (x := .none) rfl ?_)
  show wpAny _ _ (mkInt c >>= _) _ _ ⟨h1, g, d, tk, os⟩
  refine wpAny_bind (wpAny_mkInt ?_)
  show wpAny _ _ (setField (.ref e) 3 (rawInt (c + 1)) >>= _) _ _ ⟨h1, g, d, tk + 1, os⟩
  refine wpAny_bind (wpAny_setField_rec he1 (by simp) fun h2 he2 hs2 => ?_)
  replace hs2 : Heap.SameBut e h1 h2 := hs2
  replace he2 : IsEnum h2 e it (c + 1) old := he2
  show wpAny _ _ (setField (.ref e) 4 .none >>= _) _ _ ⟨h2, g, d, tk + 1, os⟩
  refine wpAny_bind (wpAny_setField_rec he2 (by simp) fun h3 he3 hs3 => ?_)
  replace hs3 : Heap.SameBut e h2 h3 := hs3
  replace he3 : IsEnum h3 e it (c + 1) old := he3
  show wpAny _ _ (newTuple [.int c tk, x] >>= _) _ _ ⟨h3, g, d, tk + 1, os⟩
  have hsz : h3.objs.size = h1.objs.size := by rw [hs3.1, hs2.1]
  have hel : e < h3.objs.size := Heap.lt_size he3
  refine wpAny_bind (wpAny_newTuple ?_)
  have he4 : IsEnum (h3.push { cls := .type "tuple", data := .seq #[.int c tk, x] }) e it (c + 1) old := Heap.get?_push_of_some _ he3
  have hT4 : (h3.push { cls := .type "tuple", data := .seq #[.int c tk, x] }).get? h3.objs.size = some { cls := .type "tuple", data := .seq #[.int c tk, x] } := Heap.get?_push_size _ rfl
  have k4 : ∀ b o, b ≠ e → h1.get? b = some o → (h3.push { cls := .type "tuple", data := .seq #[.int c tk, x] }).get? b = some o := fun b o hb q => Heap.get?_push_of_some _ (hs3.extBut b o hb (hs2.extBut b o hb q))
  generalize hh : h3.push { cls := .type "tuple", data := .seq #[.int c tk, x] } = h4 at he4 hT4 k4
  show wpAny _ _ (Builtin.SmallTypes.ownedTupleIsFree (.ref e) >>= _) _ _ ⟨h4, g, d, tk + 1, os⟩
  refine wpAny_bind ?_
  unfold Builtin.SmallTypes.ownedTupleIsFree
  refine wpAny_bind (wpAny_field he4 rfl (x := .none) rfl (wpAny_pure ?_))
  simp only [if_true]
  refine wpAny_bind (wpAny_rule ?_)
  refine wpAny_bind (wpAny_field he4 rfl (x := old) rfl ?_)
  refine wpAny_bind (wpAny_setField_rec he4 (by simp) fun h5 he5 hs5 => ?_)
  replace hs5 : Heap.SameBut e h4 h5 := hs5
  replace he5 : IsEnum h5 e it (c + 1) x := he5
  show wpAny _ _ (Builtin.SmallTypes.ownedTupleHandOut (.ref e) (.ref h3.objs.size) >>= _) _ _ ⟨h5, g, d, tk + 1, os⟩
  refine wpAny_bind ?_
  unfold Builtin.SmallTypes.ownedTupleHandOut
  refine wpAny_bind (wpAny_setField_rec he5 (by simp) fun h6 he6 hs6 => ?_)
  replace hs6 : Heap.SameBut e h5 h6 := hs6
  replace he6 : IsEnumOut h6 e it (c + 1) x h3.objs.size := he6
  refine wpAny_setField_rec he6 (by simp) fun h7 he7 hs7 => ?_
  replace hs7 : Heap.SameBut e h6 h7 := hs7
  replace he7 : IsEnumOut h7 e it (c + 1) x h3.objs.size := he7
  refine wpAny_bind (wpAny_letGo (wpAny_pure ⟨_, rfl, wpAny_pure ?_⟩))
  have up : ∀ b o, b ≠ e → h4.get? b = some o → h7.get? b = some o := fun b o hb q => hs7.extBut b o hb (hs6.extBut b o hb (hs5.extBut b o hb q))
  have hT7 := up _ _ (Nat.ne_of_gt hel) hT4
  rw [hsz] at he7 hT7 ⊢
  exact hQ x h1 h7 tk hR k1 (fun b o hb q => up b o hb (k4 b o hb q)) he7 hT7
theorem enumN_end {e it : Addr} {c : Int} {old : Value} {Q : Option Value → Shared → Prop} (he : IsEnum s.heap e it c old)
    (hN : ∀ (A' : Around) (Q' : Value → Shared → Prop) (E' : Value → Shared → Prop), A'.handled = A.handled → (∀ h' tk x, (∃ o, h'.get? x = some o ∧ o.cls = .type "StopIteration") → (∀ b o, b ∉ wr → s.heap.get? b = some o → h'.get? b = some o) → E' (.ref x) { s with heap := h', toks := tk }) → wpAny (model prog w) A' (Builtin.SmallTypes.nextOf (.ref it)) Q' E' s)
    (hQ : ∀ h' tk, (∀ b o, b ∉ wr → s.heap.get? b = some o → h'.get? b = some o) → Q none { s with heap := h', toks := tk }) : wpAny (model prog w) A (pyNext (.ref e)) Q E s := by
  have hT : s.TypeIs (.ref e) "enumerate" := ⟨_, he, rfl⟩
  unfold pyNext
  refine wpAny_bind (wpAny_attempt (wpAny_callSpecial?_slot (name := Str.ofString "__next__") hT F.slot_enumerate_next
    (wpAny_call_entry F.slot_enumerate_next hT F.entry_enumerate_next ?_ (F.args_enumerate_next_1 _))))
  show wpAny _ _ (field (.ref e) 2 >>= _) _ _ _
  refine wpAny_bind (wpAny_field he rfl (x := .ref it) rfl ?_)
  refine wpAny_bind (hN _ _ _ rfl fun h' tk x hx k => ?_)
  obtain ⟨o, ho, hc⟩ := hx
  refine wpAny_bind (wpAny_isInstance (T := "StopIteration") (b := true) ⟨o, ho, hc⟩ isSubtype_stop ?_)
  exact wpAny_pure (hQ _ _ k)
end
theorem siAt {h h' : Heap} {it : Addr} {ty : String} {x : Str} {t : Tok} {i : Nat} (st : h.IsStrIter it ty x t i) (k : ∀ o, h.get? it = some o → h'.get? it = some o) : h'.IsStrIter it ty x t i := let ⟨o, ho, r⟩ := st; ⟨o, k o ho, r⟩
theorem meets_enumerate_newZ (z TI TO : Addr) :
    Meets (Builtin.«enumerate.__new__» ⟨[.type "enumerate", .ref z], []⟩) (fun _ R s => ZC s.heap z TI TO ∧
      R (.ok (.ret (.ref s.heap.objs.size))) { s with heap := s.heap.push { cls := .type "enumerate", data := .fields #[.none, .bool false, .ref z, rawInt 0, .none, .none] } }) :=
  .of_wp fun prog w A R s h => by
    obtain ⟨hp, g, d, tk, os⟩ := s; obtain ⟨h1, h⟩ := h
    have hsub := sub_enumerate
    have q1 : ∀ {A' : Around} {E : Value → Shared → Prop} {Q : Value → Shared → Prop}, Q (.ref z) ⟨hp, g, d, tk, os⟩ → wpAny (model prog w) A' (pyIter (.ref z)) Q E ⟨hp, g, d, tk, os⟩ :=
      fun q => ZC.pyIter (s := ⟨hp, g, d, tk, os⟩) h1 q
    wp_walk using q1
    refine wpAny_stack_any fun st => wpAny_pure ?_
    split
    · rename_i c _ _ _ _ _
      cases (c == Value.type "enumerate")
      · wp_walk using q1
        exact ⟨_, rfl, h⟩
      · wp_walk using q1
        exact ⟨_, rfl, h⟩
    · wp_walk using q1
      exact ⟨_, rfl, h⟩
section
variable {prog : Program} {w : World} {A : Around} {E : Value → Shared → Prop} {s : Shared}
theorem call_enumZ {z TI TO : Addr} {Q : Value → Shared → Prop} (hz : ZC s.heap z TI TO)
    (h : ∀ h', IsEnum h' s.heap.objs.size z 0 .none → (∀ b o, s.heap.get? b = some o → h'.get? b = some o) → Q (.ref s.heap.objs.size) { s with heap := h' }) :
    wpAny (model prog w) A (call (.type "enumerate") [.ref z]) Q E s := by
  refine callType_new F.called_enumerate (by decide) (F.typeCall_enumerate_1 _) (F.newCall_enumerate_1 _) (fun obj => F.args_object_init_2 obj _) F.entry_enumerate_new (meets_enumerate_newZ z TI TO) ⟨hz, ?_⟩
  have he : IsEnum (s.heap.push { cls := .type "enumerate", data := .fields #[.none, .bool false, .ref z, rawInt 0, .none, .none] }) s.heap.objs.size z 0 .none := Heap.get?_push_size _ rfl
  exact ⟨⟨_, he, rfl⟩, h _ he fun b o q => Heap.get?_push_of_some _ q⟩
end
/-- the places, each with the two signs there in a pair of their own -/
def ItEZ (x y : Str) : It :=
  ⟨fun i _ => i < min x.cps.size y.cps.size, fun i H v H' => ∃ U T c d, v = .ref T ∧ H U = none ∧ upd H U (.tup [.str ⟨#[c]⟩, .str ⟨#[d]⟩]) T = none ∧ H' = upd (upd H U (.tup [.str ⟨#[c]⟩, .str ⟨#[d]⟩])) T (.tup [.int (i : Nat), .ref U]) ∧ x.cps[i]? = some c ∧ y.cps[i]? = some d,
    fun i _ => i = min x.cps.size y.cps.size⟩
theorem turn_enumZ {P : Program} {w : World} {K : PySem.W.Frag} {elts : List Expr} {kk : Nat} {tpos : Pos} (x y : Str) (t1 t2 : Tok) {e z TI TO i1 i2 : Addr} (S : ZipSep2 z TI TO i1 i2 [i1] [i2]) (he0 : e ∉ [z, TI, TO, i1, i2]) :
    Turn P w K (.Tuple elts kk tpos) (ItEZ x y) [e, z, TI, TO, i1, i2] e (fun i h => (∃ old, IsEnum h e z ((i : Nat) : Int) old) ∧ ZC h z TI TO ∧ IsTupOf2 h TI (.ref i1) (.ref i2) ∧ (∃ a1 a2, IsTupOf2 h TO a1 a2) ∧
      h.IsStrIter i1 (strIterType x) x t1 i ∧ h.IsStrIter i2 (strIterType y) y t2 i) where
  mem := by simp
  obj := fun i h st b hb => by
    obtain ⟨⟨old, he⟩, ⟨f0, f1, hz, _⟩, hTI, ⟨a1, a2, hTO⟩, ⟨o1, q1, _, d1⟩, ⟨o2, q2, _, d2⟩⟩ := st
    have e' : b = e ∨ b = z ∨ b = TI ∨ b = TO ∨ b = i1 ∨ b = i2 := by simpa using hb
    rcases e' with q | q | q | q | q | q
    · rw [q]; exact ⟨_, he, fun v q => nomatch q⟩
    · rw [q]; exact ⟨_, hz, fun v q => nomatch q⟩
    · rw [q]; exact ⟨_, hTI, fun v q => nomatch q⟩
    · rw [q]; exact ⟨_, hTO, fun v q => nomatch q⟩
    · rw [q]; exact ⟨o1, q1, fun v q => by rw [d1] at q; cases q⟩
    · rw [q]; exact ⟨o2, q2, fun v q => by rw [d2] at q; cases q⟩
  keep := fun i h h' st k => by
    obtain ⟨⟨old, he⟩, hz, hTI, ⟨a1, a2, hTO⟩, h1, h2⟩ := st
    exact ⟨⟨old, k e (by simp) _ he⟩, hz.at fun o q => k z (by simp) o q, k TI (by simp) _ hTI, ⟨a1, a2, k TO (by simp) _ hTO⟩, siAt h1 fun o q => k i1 (by simp) o q, siAt h2 fun o q => k i2 (by simp) o q⟩
  item := by
    intro X hP hw hK hc i pins s σ H E I hf st hg
    subst hP hw hK
    obtain ⟨⟨old, he⟩, hz, hTI, ⟨a1, a2, hTO⟩, h1, h2⟩ := st
    have hg' : i < min x.cps.size y.cps.size := hg
    have g1 : i < x.cps.size := by omega
    have g2 : i < y.cps.size := by omega
    have hew : e ∉ [z, TO, i1, i2] := fun m => he0 (by simp at m ⊢; rcases m with q | q | q | q <;> simp [q])
    have hsep : ∀ {c : Addr}, c ∈ [z, TI, TO, i1, i2] → c ≠ e := fun hc q => he0 (q ▸ hc)
    refine enumN_item (wr := [z, TO, i1, i2]) (R := fun v g => ∃ c u1 d u2 b1 b2, x.cps[i]? = some c ∧ y.cps[i]? = some d ∧ v = .ref s.heap.objs.size ∧ ZC g z TI TO ∧ IsTupOf2 g TO b1 b2 ∧ g.IsStrIter i1 (strIterType x) x t1 (i + 1) ∧ g.IsStrIter i2 (strIterType y) y t2 (i + 1) ∧
      IsTupOf2 g s.heap.objs.size (.str ⟨#[c]⟩ u1) (.str ⟨#[d]⟩ u2)) he hew (fun A' Q' E' hA q => ?_) fun v g h' tk hR k1 k2 he' hT => ?_
    · have hh : A'.in1.handled = none := hA.trans (I.ok.hd hc)
      refine ZC.nextOf hz (ZC.next S (Draws.text hh i1 x t1) (Draws.text hh i2 y t2) hz hTI hTO h1 h2 g1 g2 fun x1 x2 b1 b2 g tk p1 p2 c1 c2 s1 s2 tt k => ?_)
      obtain ⟨c, u1, hc1, rfl⟩ := p1
      obtain ⟨d, u2, hd1, rfl⟩ := p2
      exact q _ g tk ⟨c, u1, d, u2, b1, b2, hc1, hd1, rfl, c1, c2, s1, s2, tt⟩ k
    · obtain ⟨c, u1, d, u2, b1, b2, hc1, hd1, rfl, c1, c2, s1, s2, tt⟩ := hR
      refine ⟨_, rfl, wpAny_letOwnedTupleGo_enum (s := { s with heap := h', toks := tk + 1 }) he' fun h'' he'' sb => ?_⟩
      have k3 : ∀ b o, b ≠ e → g.get? b = some o → h''.get? b = some o := fun b o hb q => (sb.2 b hb).trans (k2 b o hb q)
      have eg : ∃ o, g.get? e = some o := ⟨_, k1 e _ hew he⟩
      have hel : e < g.objs.size := let ⟨_, q⟩ := eg; Heap.lt_size q
      have hT2 : h''.get? g.objs.size = some { cls := .type "tuple", data := .seq #[.int i tk, .ref s.heap.objs.size] } := (sb.2 _ (Nat.ne_of_gt hel)).trans hT
      have new1 : ObjOk X.prog X.w (upd H s.heap.objs.size (.tup [.str ⟨#[c]⟩, .str ⟨#[d]⟩])) g s.heap.objs.size (.tup [.str ⟨#[c]⟩, .str ⟨#[d]⟩]) :=
        ⟨by show 2 ≤ sizeLine; decide, [.str ⟨#[c]⟩ u1, .str ⟨#[d]⟩ u2], .cons ⟨_, rfl⟩ (.cons ⟨_, rfl⟩ .nil), ⟨_, tt, rfl, _, rfl⟩⟩
      have I1 : L2.Inv X pins σ (upd H s.heap.objs.size (.tup [.str ⟨#[c]⟩, .str ⟨#[d]⟩])) { s with heap := g, toks := tk } :=
        I.turnedNew (ch := [z, TO, i1, i2]) k1 (fun b hb => hf b (by simp at hb ⊢; rcases hb with q | q | q | q <;> simp [q])) (Nat.le_refl _) new1
      have blt : ∀ b ∈ [e, z, TI, TO, i1, i2], b < s.heap.objs.size ∧ b < g.objs.size := fun b hb => by
        have e' : b = e ∨ b = z ∨ b = TI ∨ b = TO ∨ b = i1 ∨ b = i2 := by simpa using hb
        have nTI : TI ∉ [z, TO, i1, i2] := by simp [S.TIz, S.TITO, S.TIi1, S.TIi2]
        rcases e' with q | q | q | q | q | q
        · rw [q]; exact ⟨Heap.lt_size he, hel⟩
        · rw [q]; exact ⟨hz.live, c1.live⟩
        · rw [q]; exact ⟨Heap.lt_size hTI, Heap.lt_size (k1 _ _ nTI hTI)⟩
        · rw [q]; exact ⟨Heap.lt_size hTO, Heap.lt_size c2⟩
        · rw [q]; obtain ⟨_, q1, _⟩ := h1; obtain ⟨_, q2, _⟩ := s1; exact ⟨Heap.lt_size q1, Heap.lt_size q2⟩
        · rw [q]; obtain ⟨_, q1, _⟩ := h2; obtain ⟨_, q2, _⟩ := s2; exact ⟨Heap.lt_size q1, Heap.lt_size q2⟩
      have hf2 : ∀ b ∈ [e], FpOk X pins (upd H s.heap.objs.size (.tup [.str ⟨#[c]⟩, .str ⟨#[d]⟩])) b := fun b hb => by
        have e' : b = e := by simpa using hb
        subst e'
        obtain ⟨f0, f⟩ := hf b (by simp)
        exact ⟨by rw [upd_ne (Nat.ne_of_lt (blt b (by simp)).1)]; exact f0, f⟩
      have new2 : ObjOk X.prog X.w (upd (upd H s.heap.objs.size (.tup [.str ⟨#[c]⟩, .str ⟨#[d]⟩])) g.objs.size (.tup [.int (i : Nat), .ref s.heap.objs.size])) h'' g.objs.size (.tup [.int (i : Nat), .ref s.heap.objs.size]) :=
        ⟨by show 2 ≤ sizeLine; decide, [.int i tk, .ref s.heap.objs.size], .cons ⟨_, rfl⟩ (.cons rfl .nil), ⟨_, hT2, rfl, _, rfl⟩⟩
      have I2 : L2.Inv X pins σ (upd (upd H s.heap.objs.size (.tup [.str ⟨#[c]⟩, .str ⟨#[d]⟩])) g.objs.size (.tup [.int (i : Nat), .ref s.heap.objs.size])) { s with heap := h'', toks := tk + 1 } :=
        I1.turnedNew (ch := [e]) (fun b o hb q => k3 b o (fun z => hb (by simp [z])) q) hf2 (Nat.le_refl _) new2
      refine ⟨.ref g.objs.size, _, I2, rfl, ⟨_, _, c, d, rfl, I.hok.fresh (Nat.le_refl _), I1.hok.fresh (Nat.le_refl _), rfl, hc1, hd1⟩, ⟨⟨.ref s.heap.objs.size, ?_⟩, c1.at fun o q => k3 z o (hsep (by simp)) q, k3 TI _ (hsep (by simp)) (k1 _ _ (by simp [S.TIz, S.TITO, S.TIi1, S.TIi2]) hTI),
        ⟨_, _, k3 TO _ (hsep (by simp)) c2⟩, siAt s1 fun o q => k3 i1 o (hsep (by simp)) q, siAt s2 fun o q => k3 i2 o (hsep (by simp)) q⟩, fun b hb => ?_⟩
      · have e1 : ((i + 1 : Nat) : Int) = (i : Int) + 1 := by omega
        rw [e1]; exact he''
      · rw [upd_ne (Nat.ne_of_lt (blt b hb).2), upd_ne (Nat.ne_of_lt (blt b hb).1)]
        exact (hf b hb).1
  done := by
    intro X hP hw hK hc i pins s σ H E I hf st hg
    subst hP hw hK
    obtain ⟨⟨old, he⟩, hz, hTI, ⟨a1, a2, hTO⟩, h1, h2⟩ := st
    have hi : i = min x.cps.size y.cps.size := hg
    refine enumN_end (wr := [z, TO, i1, i2]) he (fun A' Q' E' hA q => ?_) fun h' tk k => ⟨rfl, I.turnedL (t' := tk) (ch := [z, TO, i1, i2]) k fun b hb => hf b (by simp at hb ⊢; rcases hb with q | q | q | q <;> simp [q])⟩
    have hh : A'.in1.handled = none := hA.trans (I.ok.hd hc)
    exact ZC.nextOf hz (ZC.stops S (Draws.text hh i1 x t1) (Draws.text hh i2 y t2) hz hTI hTO h1 h2 (by omega) (by omega) (by omega) fun h' tk e k hx => q h' tk e hx k)
  self := fun A i s Q E st h => let ⟨⟨_, he⟩, _⟩ := st; wpAny_pyIter_enum he h
def iEnumZ (ta : TA) : TI := fun σ H R => ta σ H fun vs H1 => ∃ a b : List Nat, vs = [.str (S a), .str (S b)] ∧ R (ItEZ (S a) (S b)) H1
theorem pi_enumZ {X : Cx} {e1 e2 : Expr} {ta : TA} {p p2 pos pos2 tpos : Pos} {elts : List Expr} {kk : Nat} (hg : Gl X "enumerate") (hm : X.mg "enumerate" = none) (hg2 : Gl X "zip") (hm2 : X.mg "zip" = none) (ha : PA X [e1, e2] ta)
    (hs : starEach [e1, e2] X.env = (false, eval e1 X.env) :: starEach [e2] X.env := by rfl) (hpl : (backTo pos2 (starEach [e2] X.env)).any (·.1) = false := by rfl)
    (hs1 : starEach [.Call (.Name "zip" p2) [e1, e2] [] pos2] X.env = (false, eval (.Call (.Name "zip" p2) [e1, e2] [] pos2) X.env) :: starEach [] X.env := by rfl) :
    PI X (.Tuple elts kk tpos) (.Call (.Name "enumerate" p) [.Call (.Name "zip" p2) [e1, e2] [] pos2] [] pos) (iEnumZ ta) := by
  refine ⟨fun pins s σ H R I h => ?_⟩
  refine Call_ (ld_blt I hg hm boot_enumerate (PyProof.Rows.callWith_type1 ?_ hs1 rfl))
  refine args_cons (Call_ (ld_blt I hg2 hm2 PyProof.Rows.boot_zip (PyProof.Rows.callWith_type1 (thn (ha.run pos2 pins s σ H _ I h) fun us s1 ⟨vs, H1, I1, r1, q1⟩ => ?_) hs hpl))) hs1
  obtain ⟨a, b, ex, q⟩ := q1
  subst ex
  obtain ⟨u, u2, rfl, ra, rb⟩ := vals2 r1
  obtain ⟨t1, rfl⟩ := ra
  obtain ⟨t2, rfl⟩ := rb
  refine zip_begins2 (begins_text _ _) (begins_text _ _) trivial trivial fun h' hz hTI hTO g1 g2 hsz hk => args_nil ?_
  have hzc : ZC h' (s1.heap.objs.size + 4) (s1.heap.objs.size + 2) (s1.heap.objs.size + 3) := ⟨_, _, hz, .inl rfl⟩
  refine call_enumZ (s := { s1 with heap := h' }) hzc fun h'' he hk2 => wpAny_pyIter_enum he ?_
  have I2 : L2.Inv X pins σ H1 { s1 with heap := h'' } := I1.kept (t' := s1.toks) fun b u e => hk2 b u (hk b u e)
  have hsz' : h'.objs.size = s1.heap.objs.size + 5 := hsz
  have sep : ZipSep2 (s1.heap.objs.size + 4) (s1.heap.objs.size + 2) (s1.heap.objs.size + 3) s1.heap.objs.size (s1.heap.objs.size + 1) [s1.heap.objs.size] [s1.heap.objs.size + 1] := by
    constructor <;> simp
  have he0 : h'.objs.size ∉ [s1.heap.objs.size + 4, s1.heap.objs.size + 2, s1.heap.objs.size + 3, s1.heap.objs.size, s1.heap.objs.size + 1] := by rw [hsz']; simp
  refine ⟨_, [h'.objs.size, s1.heap.objs.size + 4, s1.heap.objs.size + 2, s1.heap.objs.size + 3, s1.heap.objs.size, s1.heap.objs.size + 1], _, _, H1, rfl, I2, turn_enumZ (S a) (S b) t1 t2 sep he0, ⟨⟨_, he⟩, hzc.at fun o q => hk2 _ o q, hk2 _ _ hTI, ⟨_, _, hk2 _ _ hTO⟩, ⟨_, hk2 _ _ g1, rfl, rfl⟩, ⟨_, hk2 _ _ g2, rfl, rfl⟩⟩, fun b hb => ?_, q⟩
  have hle : s1.heap.objs.size ≤ b := by
    simp only [List.mem_cons, List.not_mem_nil, or_false] at hb
    rcases hb with q | q | q | q | q | q
    · rw [q, hsz']; exact Nat.le_add_right _ _
    · rw [q]; exact Nat.le_add_right _ _
    · rw [q]; exact Nat.le_add_right _ _
    · rw [q]; exact Nat.le_add_right _ _
    · rw [q]; exact Nat.le_refl _
    · rw [q]; exact Nat.le_add_right _ _
  exact I1.fpOk hle (I1.hok.fresh hle)
/-- each turn's two pairs: the place and the pair of signs -/
theorem for_EZ {K : PySem.W.Frag} {a b : List Nat} {g : TG} {tb : TS} {D : Ends} {σ : L2.St} {H : Hp} (Pv : Nat → L2.St → Hp → Prop) (h0 : Pv 0 σ H)
    (hs : ∀ i c d σ H U T, a[i]? = some c → b[i]? = some d → Pv i σ H → H U = none → upd H U (.tup [.str (S [c]), .str (S [d])]) T = none → g (.ref T) σ (upd (upd H U (.tup [.str (S [c]), .str (S [d])])) T (.tup [.int (i : Nat), .ref U])) fun σ2 H2 => tb { D with nx := Pv (i + 1), ct := Pv (i + 1), bk := D.nx } σ2 H2)
    (hd : ∀ σ H, Pv (min a.length b.length) σ H → D.nx σ H) :
    ∃ W : Nat → Nat → L2.St → Hp → Prop, (∃ m, W 0 m σ H) ∧ ∀ i m σ H, W i m σ H →
      ((ItEZ (S a) (S b)).stop i H ∧ D.nx σ H) ∨ ((ItEZ (S a) (S b)).go i H ∧ ∃ N : L2.St → Hp → Prop, (∀ σ' H', N σ' H' → ∃ m', m' < m ∧ W (i + 1) m' σ' H') ∧ ∀ x H', (ItEZ (S a) (S b)).yld i H x H' → g x σ H' fun σ2 H2 => tb { D with nx := N, ct := N, bk := D.nx } σ2 H2) := by
  refine ⟨fun i m σ H => m = min a.length b.length - i ∧ i ≤ min a.length b.length ∧ Pv i σ H, ⟨min a.length b.length, by simp, Nat.zero_le _, h0⟩, ?_⟩
  rintro i m σ H ⟨rfl, hi, p⟩
  by_cases hlt : i < min a.length b.length
  · refine .inr ⟨by show i < min (S a).cps.size (S b).cps.size; simpa using hlt, Pv (i + 1), fun σ' H' p' => ⟨min a.length b.length - (i + 1), by omega, rfl, hlt, p'⟩, fun x H' y => ?_⟩
    obtain ⟨U, T, c, d, rfl, hU, hT, rfl, hc, hd⟩ := y
    exact hs i c d σ _ U T (by simpa using hc) (by simpa using hd) p hU hT
  · have e : i = min a.length b.length := by omega
    subst e
    exact .inl ⟨by show min a.length b.length = min (S a).cps.size (S b).cps.size; simp, hd σ H p⟩
theorem lc_EZ {K : PySem.W.Frag} {a b : List Nat} {g : TG} {tt : TT} {te : TE} {vs : List Nat} {σ : L2.St} {H1 : Hp} {D : Addr} {Qd : Hp → Prop} (Pv : Nat → Hp → Prop) (h0 : Pv 0 (upd H1 D (.lst [])))
    (hs : ∀ i c d H U T, a[i]? = some c → b[i]? = some d → Pv i H → H U = none → upd H U (.tup [.str (S [c]), .str (S [d])]) T = none → g (.ref T) (wipe σ vs) (upd (upd H U (.tup [.str (S [c]), .str (S [d])])) T (.tup [.int (i : Nat), .ref U])) fun σ2 H2 => wipe σ2 vs = wipe σ vs ∧ tt σ2 H2 fun b H3 =>
      if b = true then te σ2 H3 fun y H4 => ∃ acc, H4 D = some (.lst acc) ∧ acc.length < sizeLine ∧ Pv (i + 1) (upd H4 D (.lst (acc ++ [y]))) else Pv (i + 1) H3) (hd : ∀ H, Pv (min a.length b.length) H → Qd H) :
    ∃ W : Nat → Nat → Hp → Prop, (∃ m, W 0 m (upd H1 D (.lst []))) ∧ ∀ i m H, W i m H →
      ((ItEZ (S a) (S b)).stop i H ∧ Qd H) ∨ ((ItEZ (S a) (S b)).go i H ∧ ∃ Nx : Hp → Prop, (∀ H', Nx H' → ∃ m', m' < m ∧ W (i + 1) m' H') ∧ ∀ x H', (ItEZ (S a) (S b)).yld i H x H' → g x (wipe σ vs) H' fun σ2 H2 => wipe σ2 vs = wipe σ vs ∧ tt σ2 H2 fun b H3 =>
        if b = true then te σ2 H3 fun y H4 => ∃ acc, H4 D = some (.lst acc) ∧ acc.length < sizeLine ∧ Nx (upd H4 D (.lst (acc ++ [y]))) else Nx H3) := by
  refine ⟨fun i m H => m = min a.length b.length - i ∧ i ≤ min a.length b.length ∧ Pv i H, ⟨min a.length b.length, by simp, Nat.zero_le _, h0⟩, ?_⟩
  rintro i m H ⟨rfl, hi, p⟩
  by_cases hlt : i < min a.length b.length
  · refine .inr ⟨by show i < min (S a).cps.size (S b).cps.size; simpa using hlt, Pv (i + 1), fun H' p' => ⟨min a.length b.length - (i + 1), by omega, rfl, hlt, p'⟩, fun x H' y => ?_⟩
    obtain ⟨U, T, c, d, rfl, hU, hT, rfl, hc, hd⟩ := y
    exact hs i c d _ U T (by simpa using hc) (by simpa using hd) p hU hT
  · have e : i = min a.length b.length := by omega
    subst e
    exact .inl ⟨by show min a.length b.length = min (S a).cps.size (S b).cps.size; simp, hd H p⟩
end EH

set_option Elab.async false
set_option linter.all false
set_option maxRecDepth 100000
set_option maxHeartbeats 4000000
/-! EH11: sorted(list of texts), any number of them. -/
namespace EH
open PySem PySem.Spec PyProof.Rows L2 SrtO Srt
open SX (S S_len S_cat S_inj join_S S_tl)
section
variable {prog : Program} {w : World} {A : Around} {E : Value → Shared → Prop} {s : Shared}
def sv : Value → List Nat
  | .str a _ => a.cps.toList
  | _ => []
def ltSv (v u : Value) : Bool := decide (sv v < sv u)
theorem swo_txt : Swo ltSv := by
  refine ⟨fun x y h => ?_, fun x y z h1 h2 => ?_⟩
  · exact decide_eq_false (List.lt_asymm (of_decide_eq_true (p := sv x < sv y) h))
  · have a : sv x ≤ sv y := List.not_lt.mp (of_decide_eq_false (p := sv y < sv x) h1)
    have b : sv y ≤ sv z := List.not_lt.mp (of_decide_eq_false (p := sv z < sv y) h2)
    exact decide_eq_false (p := sv z < sv x) (List.not_lt.mpr (List.le_trans a b))
theorem strs_mem : ∀ {vs : List Value} {ns : List Str}, StrsAre vs ns → ∀ v ∈ vs, ∃ x t, v = Value.str x t
  | _, _, .nil, v, h => absurd h (by simp)
  | _, _, .cons n t r, v, h => by
    rcases List.mem_cons.mp h with e | h
    · exact ⟨n, t, e⟩
    · exact strs_mem r v h
theorem strs_sv : ∀ {vs : List Value}, (∀ v ∈ vs, ∃ x t, v = Value.str x t) → Vals ((vs.map sv).map fun x => V.str (S x)) vs
  | [], _ => .nil
  | v :: vs, h => by
    obtain ⟨x, t, e⟩ := h v List.mem_cons_self
    subst e
    exact .cons ⟨t, rfl⟩ (strs_sv fun u hu => h u (List.mem_cons_of_mem _ hu))
theorem sv_strs : ∀ {vs : List Value} {ts : List (List Nat)}, StrsAre vs (ts.map S) → vs.map sv = ts
  | _, [], .nil => rfl
  | _, x :: ts, .cons _ t r => congrArg (x :: ·) (sv_strs r)
theorem txt_cmp {vs : List Value} {ns : List Str} (hI : StrsAre vs ns) : Cmp prog w A s oneType' (fun p => p.1 ∈ vs) (lt2 ltSv) := by
  intro p q hm hm'
  obtain ⟨a, t, e⟩ := strs_mem hI _ hm
  obtain ⟨b, u, e'⟩ := strs_mem hI _ hm'
  show wpAny (model prog w) A (keyLt' oneType' p.1 q.1) (fun r s' => s' = s ∧ r = ltSv p.1 q.1) (fun _ _ => False) s
  rw [e, e', keyLt'_oneType]
  exact oneLt_str ⟨rfl, rfl⟩
theorem txts_sortable {a : Addr} {vs : List Value} {ns : List Str} (hI : StrsAre vs ns) (h2 : 2 ≤ vs.length) : SortableO prog w A s a vs ltSv := by
  intro h' _
  refine ⟨oneType', fun Q E hq => ?_, txt_cmp hI⟩
  match vs, hI, h2 with
  | v1 :: v2 :: rest, hI, _ =>
    rw [keyKind_strs hI]
    exact wpAny_pure hq
  | [], _, h => exact absurd h (by decide)
  | [v], _, h => exact absurd h (by simp)
theorem txts_out {vs out : List Value} {ts : List (List Nat)} (hI : StrsAre vs (ts.map S)) (hs : Srtd ltSv out) (hb : Stb ltSv out vs) : Vals ((out.map sv).map fun x => V.str (S x)) out ∧ (out.map sv).Perm ts ∧ (out.map sv).Pairwise (fun x y => ¬ y < x) := by
  refine ⟨strs_sv fun v hv => strs_mem hI v (hb.perm.mem_iff.mp hv), ?_, ?_⟩
  · have q := hb.perm.map sv
    rw [sv_strs hI] at q
    exact q
  · exact List.pairwise_map.mpr (hs.imp fun {x y} h => of_decide_eq_false (p := sv y < sv x) h)
end
/-- sorted(xs), texts, any number of them -/
def rSortedT (K : PySem.W.Frag) : List V → Hp → VK → Prop := fun vs H Q => ∃ (a : Addr) (ts : List (List Nat)), vs = [V.ref a] ∧ SqL K H a (ts.map fun x => V.str (S x)) ∧
  ∀ (ts' : List (List Nat)) (p : Addr), ts'.Perm ts → ts'.Pairwise (fun x y => ¬ y < x) → H p = none → Q (.ref p) (upd H p (.lst (ts'.map fun x => V.str (S x))))
theorem cr_sortedT {X : Cx} : CallR X (.builtin "sorted") (rSortedT X.K) := by
  intro pins s σ H vs us Q I r h
  obtain ⟨a, ts, rfl, hs, q⟩ := h
  obtain ⟨its, rv, hl, hz⟩ := I.list hs
  rw [Vals.ref1 r]
  have hi : StrsAre its (ts.map S) := Vals.strs (xs := ts.map S) (by rw [List.map_map]; exact rv)
  refine SrtO.sorted_ord swo_txt hl.isList (by rw [← rv.length]; exact hz) (fun h2 h₁ a' _ _ => txts_sortable hi h2) fun out h1 h2 => ?_
  obtain ⟨k1, k2, k3⟩ := txts_out hi h1 h2
  obtain ⟨ep, he'⟩ := PyProof.Rows.sortedAll_at s.heap its out.toArray
  have hlen : ((out.map sv).map fun x => V.str (S x)).length ≤ sizeLine := by
    rw [List.length_map, k2.length_eq]
    rw [List.length_map] at hz
    exact hz
  exact ⟨.ref _, upd H (s.heap.objs.size + 1) (.lst ((out.map sv).map fun x => V.str (S x))), I.laid (t' := s.toks) (fun _ _ => PyProof.Rows.sortedAll_old) (Nat.le_succ _) ⟨hlen, out, ep, k1, he'⟩, rfl, q _ _ k2 k3 (I.hok.fresh (Nat.le_succ _))⟩
/-- two ascending rows of unlike things with the same members are one -/
theorem asc_uniq : ∀ {a b : List (List Nat)}, a.Pairwise (fun x y => ¬ y < x) → b.Pairwise (fun x y => ¬ y < x) → a.Perm b → a = b := by
  intro a b ha hb p
  refine p.eq_of_pairwise (fun x y hx hy h1 h2 => ?_) ha hb
  exact List.le_antisymm (List.not_lt.mp h1) (List.not_lt.mp h2)
end EH

set_option Elab.async false
set_option linter.all false
set_option maxRecDepth 100000
set_option maxHeartbeats 40000000
namespace EH
open PySem PySem.Spec PyProof.Rows L2
def top (i : Nat) : Stmt := PySem.Challenge.pw_everyhalf_k22_whole_each_state_at_one_ho.main.body.getD i (.Pass ⟨0, 0, 0, 0⟩)

structure Txt (K : PySem.W.Frag) (mg : Str → Option Value) : Prop where
  n_abs : mg "abs" = none
  n_bool : mg "bool" = none
  n_enumerate : mg "enumerate" = none
  n_int : mg "int" = none
  n_isinstance : mg "isinstance" = none
  n_len : mg "len" = none
  n_list : mg "list" = none
  n_max : mg "max" = none
  n_min : mg "min" = none
  n_range : mg "range" = none
  n_repr : mg "repr" = none
  n_set : mg "set" = none
  n_sorted : mg "sorted" = none
  n_str : mg "str" = none
  n_tuple : mg "tuple" = none
  c_MOST_PAIRS : Cst mg "MOST_PAIRS" (.int 200)
  c_MOST_PAIRS_OF_STATES : Cst mg "MOST_PAIRS_OF_STATES" (.int 5)
  m_comb : mg "comb" = some (.builtin "math.comb")

abbrev s_is_integer : Stmt := top 8
abbrev N_is_integer : List Str := ["value"]
theorem sc_is_integer : FnScope N_is_integer ["value"] (defScope s_is_integer) :=
  ⟨rfl, rfl, rfl, by decide +kernel, rfl, by decide +kernel, by decide +kernel⟩
abbrev s_is_within : Stmt := top 9
abbrev N_is_within : List Str := ["value", "least", "most"]
theorem sc_is_within : FnScope N_is_within ["value", "least", "most"] (defScope s_is_within) :=
  ⟨rfl, rfl, rfl, by decide +kernel, rfl, by decide +kernel, by decide +kernel⟩
abbrev s_is_signs : Stmt := top 10
abbrev N_is_signs : List Str := ["value"]
theorem sc_is_signs : FnScope N_is_signs ["value"] (defScope s_is_signs) :=
  ⟨rfl, rfl, rfl, by decide +kernel, rfl, by decide +kernel, by decide +kernel⟩
abbrev s_check_number : Stmt := top 11
abbrev N_check_number : List Str := ["value", "least", "most", "part"]
theorem sc_check_number : FnScope N_check_number ["value", "least", "most", "part"] (defScope s_check_number) :=
  ⟨rfl, rfl, rfl, by decide +kernel, rfl, by decide +kernel, by decide +kernel⟩
abbrev s_is_word : Stmt := top 14
abbrev N_is_word : List Str := ["value", "height", "sign"]
theorem sc_is_word : FnScope N_is_word ["value"] (defScope s_is_word) :=
  ⟨rfl, rfl, rfl, by decide +kernel, rfl, by decide +kernel, by decide +kernel⟩
abbrev s_check_word : Stmt := top 15
abbrev N_check_word : List Str := ["value", "part"]
theorem sc_check_word : FnScope N_check_word ["value", "part"] (defScope s_check_word) :=
  ⟨rfl, rfl, rfl, by decide +kernel, rfl, by decide +kernel, by decide +kernel⟩
abbrev s_exchanged_signs : Stmt := top 17
abbrev N_exchanged_signs : List Str := ["signs", "sign"]
theorem sc_exchanged_signs : FnScope N_exchanged_signs ["signs"] (defScope s_exchanged_signs) :=
  ⟨rfl, rfl, rfl, by decide +kernel, rfl, by decide +kernel, by decide +kernel⟩
abbrev s_mirrored_word : Stmt := top 16
abbrev N_mirrored_word : List Str := ["word"]
theorem sc_mirrored_word : FnScope N_mirrored_word ["word"] (defScope s_mirrored_word) :=
  ⟨rfl, rfl, rfl, by decide +kernel, rfl, by decide +kernel, by decide +kernel⟩
abbrev s_moved_round : Stmt := top 18
abbrev N_moved_round : List Str := ["items", "many", "start"]
theorem sc_moved_round : FnScope N_moved_round ["items", "many"] (defScope s_moved_round) :=
  ⟨rfl, rfl, rfl, by decide +kernel, rfl, by decide +kernel, by decide +kernel⟩
abbrev s_is_state : Stmt := top 21
abbrev N_is_state : List Str := ["value"]
theorem sc_is_state : FnScope N_is_state ["value"] (defScope s_is_state) :=
  ⟨rfl, rfl, rfl, by decide +kernel, rfl, by decide +kernel, by decide +kernel⟩
abbrev s_check_state : Stmt := top 22
abbrev N_check_state : List Str := ["value", "part"]
theorem sc_check_state : FnScope N_check_state ["value", "part"] (defScope s_check_state) :=
  ⟨rfl, rfl, rfl, by decide +kernel, rfl, by decide +kernel, by decide +kernel⟩
abbrev s__behind_first_lowest : Stmt := top 35
abbrev N__behind_first_lowest : List Str := ["row", "depths", "sign"]
theorem sc__behind_first_lowest : FnScope N__behind_first_lowest ["row"] (defScope s__behind_first_lowest) :=
  ⟨rfl, rfl, rfl, by decide +kernel, rfl, by decide +kernel, by decide +kernel⟩
abbrev s__low_home : Stmt := top 34
abbrev N__low_home : List Str := ["row", "shift"]
theorem sc__low_home : FnScope N__low_home ["row"] (defScope s__low_home) :=
  ⟨rfl, rfl, rfl, by decide +kernel, rfl, by decide +kernel, by decide +kernel⟩
abbrev s_state_of : Stmt := top 36
abbrev N_state_of : List Str := ["place", "word", "shift", "high"]
theorem sc_state_of : FnScope N_state_of ["place"] (defScope s_state_of) :=
  ⟨rfl, rfl, rfl, by decide +kernel, rfl, by decide +kernel, by decide +kernel⟩
abbrev s_place_of : Stmt := top 33
abbrev N_place_of : List Str := ["state", "word", "shift"]
theorem sc_place_of : FnScope N_place_of ["state"] (defScope s_place_of) :=
  ⟨rfl, rfl, rfl, by decide +kernel, rfl, by decide +kernel, by decide +kernel⟩
abbrev s_home_of : Stmt := top 29
abbrev N_home_of : List Str := ["state", "word", "shift", "_"]
theorem sc_home_of : FnScope N_home_of ["state"] (defScope s_home_of) :=
  ⟨rfl, rfl, rfl, by decide +kernel, rfl, by decide +kernel, by decide +kernel⟩
abbrev s__check_home : Stmt := top 32
abbrev N__check_home : List Str := ["word", "shift"]
theorem sc__check_home : FnScope N__check_home ["word", "shift"] (defScope s__check_home) :=
  ⟨rfl, rfl, rfl, by decide +kernel, rfl, by decide +kernel, by decide +kernel⟩
abbrev s_low_state : Stmt := top 30
abbrev N_low_state : List Str := ["word", "shift"]
theorem sc_low_state : FnScope N_low_state ["word", "shift"] (defScope s_low_state) :=
  ⟨rfl, rfl, rfl, by decide +kernel, rfl, by decide +kernel, by decide +kernel⟩
abbrev s_high_state : Stmt := top 31
abbrev N_high_state : List Str := ["word", "shift"]
theorem sc_high_state : FnScope N_high_state ["word", "shift"] (defScope s_high_state) :=
  ⟨rfl, rfl, rfl, by decide +kernel, rfl, by decide +kernel, by decide +kernel⟩
abbrev s_is_high : Stmt := top 23
abbrev N_is_high : List Str := ["state"]
theorem sc_is_high : FnScope N_is_high ["state"] (defScope s_is_high) :=
  ⟨rfl, rfl, rfl, by decide +kernel, rfl, by decide +kernel, by decide +kernel⟩
abbrev s_check_pairs : Stmt := top 12
abbrev N_check_pairs : List Str := ["pairs"]
theorem sc_check_pairs : FnScope N_check_pairs ["pairs"] (defScope s_check_pairs) :=
  ⟨rfl, rfl, rfl, by decide +kernel, rfl, by decide +kernel, by decide +kernel⟩
abbrev s_moved : Stmt := top 24
abbrev N_moved : List Str := ["state", "many"]
theorem sc_moved : FnScope N_moved ["state", "many"] (defScope s_moved) :=
  ⟨rfl, rfl, rfl, by decide +kernel, rfl, by decide +kernel, by decide +kernel⟩
abbrev s_exchanged : Stmt := top 25
abbrev N_exchanged : List Str := ["state"]
theorem sc_exchanged : FnScope N_exchanged ["state"] (defScope s_exchanged) :=
  ⟨rfl, rfl, rfl, by decide +kernel, rfl, by decide +kernel, by decide +kernel⟩
abbrev s_how_many_states : Stmt := top 26
abbrev N_how_many_states : List Str := ["pairs"]
theorem sc_how_many_states : FnScope N_how_many_states ["pairs"] (defScope s_how_many_states) :=
  ⟨rfl, rfl, rfl, by decide +kernel, rfl, by decide +kernel, by decide +kernel⟩
abbrev s_all_states : Stmt := top 27
abbrev N_all_states : List Str := ["pairs", "rows", "_", "row", "sign"]
theorem sc_all_states : FnScope N_all_states ["pairs"] (defScope s_all_states) :=
  ⟨rfl, rfl, rfl, by decide +kernel, rfl, by decide +kernel, by decide +kernel⟩
abbrev s__law_registry : Stmt := top 38
abbrev N__law_registry : List Str := ["script", "cell"]
theorem sc__law_registry : FnScope N__law_registry ["script"] (defScope s__law_registry) :=
  ⟨rfl, rfl, rfl, by decide +kernel, rfl, by decide +kernel, by decide +kernel⟩
abbrev s__law_enter : Stmt := top 39
abbrev N__law_enter : List Str := ["registry", "many", "rest", "turn", "cell", "mixed"]
theorem sc__law_enter : FnScope N__law_enter ["registry", "many"] (defScope s__law_enter) :=
  ⟨rfl, rfl, rfl, by decide +kernel, rfl, by decide +kernel, by decide +kernel⟩
abbrev s__law_one : Stmt := top 40
abbrev N__law_one : List Str := ["registry", "some"]
theorem sc__law_one : FnScope N__law_one ["registry", "some"] (defScope s__law_one) :=
  ⟨rfl, rfl, rfl, by decide +kernel, rfl, by decide +kernel, by decide +kernel⟩
abbrev s__law_all_words : Stmt := top 41
abbrev N__law_all_words : List Str := ["pairs", "found", "at", "later", "word", "ups", "depth"]
theorem sc__law_all_words : FnScope N__law_all_words ["pairs"] (defScope s__law_all_words) :=
  ⟨rfl, rfl, rfl, by decide +kernel, rfl, by decide +kernel, by decide +kernel⟩
abbrev s__law_state : Stmt := top 42
abbrev N__law_state : List Str := ["word", "shift", "burns", "signs", "wide", "lamp"]
theorem sc__law_state : FnScope N__law_state ["word", "shift", "burns"] (defScope s__law_state) :=
  ⟨rfl, rfl, rfl, by decide +kernel, rfl, by decide +kernel, by decide +kernel⟩
abbrev s__law_mirrored : Stmt := top 43
abbrev N__law_mirrored : List Str := ["word", "sign"]
theorem sc__law_mirrored : FnScope N__law_mirrored ["word"] (defScope s__law_mirrored) :=
  ⟨rfl, rfl, rfl, by decide +kernel, rfl, by decide +kernel, by decide +kernel⟩
abbrev s_law : Stmt := top 44
abbrev N_law : List Str := ["script", "registry", "pairs", "words", "wide", "lows", "highs", "word", "shift", "low", "high", "turn", "state", "many", "other"]
theorem sc_law : FnScope N_law ["script"] (defScope s_law) :=
  ⟨rfl, rfl, rfl, by decide +kernel, rfl, by decide +kernel, by decide +kernel⟩
/-! ### the drawing object: a list of the cells, how many were begun, what is left -/
/-- at g stands what draws, at most n cells begun -/
def GA (H : Hp) (g : Addr) (n : Nat) : Prop :=
  ∃ (c : Addr) (cs : List Int) (b : Nat) (r : Int), H g = some (.lst [.ref c, .int b, .int r]) ∧ H c = some (.lst (cs.map V.int)) ∧ c ≠ g ∧ b ≤ n ∧ 0 ≤ r
theorem GA.mono {H : Hp} {g : Addr} {n m : Nat} (h : GA H g n) (l : n ≤ m) : GA H g m := by
  obtain ⟨c, cs, b, r, h1, h2, h3, h4, h5⟩ := h
  exact ⟨c, cs, b, r, h1, h2, h3, Nat.le_trans h4 l, h5⟩
/-- g's cells stand at c -/
def Ce (H : Hp) (g c : Addr) : Prop := ∃ b r : Int, H g = some (.lst [.ref c, .int b, .int r])
theorem Ce.upd {H : Hp} {g c : Addr} {x y b r : Int} (h : H g = some (.lst [.ref c, .int x, .int y])) : ∀ d, Ce H g d → Ce (upd H g (.lst [.ref c, .int b, .int r])) g d := fun d ⟨_, _, e⟩ => by
  rw [h] at e
  cases e
  exact ⟨_, _, upd_same⟩
/-- all that was tracked is as it was, but what stands at g -/
structure Fm (g : Addr) (H H' : Hp) : Prop where
  k : ∀ b o, b ≠ g → H b = some o → H' b = some o
  c : ∀ d, Ce H g d → Ce H' g d
instance {g : Addr} {H H' : Hp} : CoeFun (Fm g H H') (fun _ => ∀ b o, b ≠ g → H b = some o → H' b = some o) := ⟨Fm.k⟩
theorem Fm.refl (g : Addr) (H : Hp) : Fm g H H := ⟨fun _ _ _ h => h, fun _ h => h⟩
theorem Fm.trans {g : Addr} {H H1 H2 : Hp} (a : Fm g H H1) (b : Fm g H1 H2) : Fm g H H2 := ⟨fun c o n h => b.k c o n (a.k c o n h), fun d h => b.c d (a.c d h)⟩
theorem Fm.of {g : Addr} {H H' : Hp} (s : Same H H') : Fm g H H' := ⟨fun c o _ h => s c o h, fun d ⟨b, r, e⟩ => ⟨b, r, s _ _ e⟩⟩
theorem Fm.upd {g : Addr} {H : Hp} {o : HO} (k : ∀ d, Ce H g d → Ce (upd H g o) g d) : Fm g H (upd H g o) := ⟨fun c u n h => by
  rw [upd_ne n]
  exact h, k⟩
theorem Fm.new {g : Addr} {H : Hp} {p : Addr} {o : HO} (h : H p = none) : Fm g H (L2.upd H p o) := Fm.of fun b x e => by
  rw [upd_ne (ne_of_none e h)]
  exact e
/-- where the cells stand, apart from what isn't there yet -/
theorem GA.off {H : Hp} {g D : Addr} {n : Nat} (h : GA H g n) (hD : H D = none) : ∃ c, Ce H g c ∧ D ≠ c := by
  obtain ⟨c, cs, b, r, h1, h2, h3, h4, h5⟩ := h
  exact ⟨c, ⟨_, _, h1⟩, fun e => by subst e; rw [hD] at h2; cases h2⟩
theorem GA.put {H : Hp} {g D c : Addr} {n : Nat} {o : HO} (h : GA H g n) (k : Ce H g c) (nc : D ≠ c) (ng : D ≠ g) : GA (L2.upd H D o) g n := by
  obtain ⟨c', cs, b, r, h1, h2, h3, h4, h5⟩ := h
  obtain ⟨b', r', e⟩ := k
  rw [h1] at e
  cases e
  exact ⟨c, cs, b, r, by rw [upd_ne (Ne.symm ng)]; exact h1, by rw [upd_ne (Ne.symm nc)]; exact h2, h3, h4, h5⟩
theorem Ce.put {H : Hp} {g D c : Addr} {o : HO} (k : Ce H g c) (ng : D ≠ g) : Ce (L2.upd H D o) g c := by
  obtain ⟨b', r', e⟩ := k
  exact ⟨b', r', by rw [upd_ne (Ne.symm ng)]; exact e⟩
theorem GA.new {H : Hp} {g p : Addr} {n : Nat} {o : HO} (h : GA H g n) (hp : H p = none) : GA (upd H p o) g n := by
  obtain ⟨c, cs, b, r, h1, h2, h3, h4, h5⟩ := h
  exact ⟨c, cs, b, r, by rw [upd_ne (ne_of_none h1 hp)]; exact h1, by rw [upd_ne (ne_of_none h2 hp)]; exact h2, h3, h4, h5⟩
theorem GA.same {H H' : Hp} {g : Addr} {n : Nat} (h : GA H g n) (s : Same H H') : GA H' g n := by
  obtain ⟨c, cs, b, r, h1, h2, h3, h4, h5⟩ := h
  exact ⟨c, cs, b, r, s _ _ h1, s _ _ h2, h3, h4, h5⟩
theorem same_new {H : Hp} {p : Addr} {o : HO} (h : H p = none) : Same H (upd H p o) := fun b x e => by
  rw [upd_ne (ne_of_none e h)]
  exact e
theorem Fm.none {g : Addr} {H H' : Hp} (h : Fm g H H') (hg : H g ≠ Option.none) {p : Addr} (hp : H' p = Option.none) (hg' : H' g ≠ Option.none) : H p = Option.none := by
  cases e : H p with
  | none => rfl
  | some o =>
    by_cases q : p = g
    · subst q
      exact absurd hp hg'
    · rw [h.k p o q e] at hp
      cases hp
theorem GA.some {H : Hp} {g : Addr} {n : Nat} (h : GA H g n) : H g ≠ Option.none := by
  obtain ⟨c, cs, b, r, h1, _⟩ := h
  rw [h1]
  exact Option.some_ne_none _
theorem Fm.sq {K : PySem.W.Frag} {g : Addr} {H H' : Hp} {a : Addr} {xs : List V} (h : Fm g H H') (n : a ≠ g) (s : SqL K H a xs) : SqL K H' a xs := by
  rcases s with (s | ⟨o, s⟩) | s
  · exact .inl (.inl (h.k _ _ n s))
  · exact .inl (.inr ⟨o, h.k _ _ n s⟩)
  · exact .inr s
theorem Fm.sqT {K : PySem.W.Frag} {g : Addr} {H H' : Hp} {a : Addr} {xs : List V} (h : Fm g H H') (n : a ≠ g) (s : SqT K H a xs) : SqT K H' a xs := by
  rcases s with (s | ⟨o, s⟩) | s
  · exact .inl (.inl (h.k _ _ n s))
  · exact .inl (.inr ⟨o, h.k _ _ n s⟩)
  · exact .inr s
def spGauge (K : PySem.W.Frag) : Sp := fun vs H Q _ => ∃ (a : Addr) (ns : List Int), vs = [.ref a] ∧ SqL K H a (ns.map V.int) ∧ ns.length ≤ 63 ∧
  ∀ (g : Addr) (H' : Hp), Same H H' → H g = none → GA H' g 0 → Q (.ref g) H'
def spTick : Sp := fun vs H Q _ => ∃ (g : Addr) (n : Nat) (m : Int), vs = [.ref g, .int m] ∧ GA H g n ∧ n < 1000000 ∧ 0 < m ∧ m.natAbs < 2 ^ 2000 ∧
  ∀ (H' : Hp) (v : Int), 0 ≤ v → v < m → Fm g H H' → GA H' g (n + 1) → Q (.int v) H'
def spDial (K : PySem.W.Frag) : Sp := fun vs H Q _ => ∃ (g a : Addr) (n : Nat) (xs : List V), vs = [.ref g, .ref a] ∧ GA H g n ∧ n < 1000000 ∧ SqL K H a xs ∧ a ≠ g ∧ 0 < xs.length ∧ xs.length < 1000 ∧
  ∀ (H' : Hp) (v : V), v ∈ xs → Fm g H H' → GA H' g (n + 1) → Q v H'
theorem cut_upto (xs : List V) (k : Nat) : cutV xs none (some (k : Int)) = xs.take k := by
  unfold cutV
  rw [HT.sIx_none, show HT.sIx xs.length xs.length (some (k : Int)) = min k xs.length from HT.sIx_nat xs.length xs.length k, List.drop_zero, Nat.sub_zero]
  rcases Nat.le_total k xs.length with h | h
  · rw [Nat.min_eq_left h]
  · rw [Nat.min_eq_right h, List.take_of_length_le (Nat.le_refl _), List.take_of_length_le h]
theorem natAbs_pow_lt {x : Int} {b : Int} (h0 : 0 ≤ x) (h1 : x < b) : x.natAbs < b.toNat := by omega
section
variable {P : Program} {w : World} {K : PySem.W.Frag} {mg : Str → Option Value} {base : Heap}
theorem ok__law_registry {f : Addr} {fd : FuncData} (F : Fun K "_law_registry" "_law_registry" s__law_registry f fd) (T : Txt K mg) : FnOk P w K mg base CX0 1 f fd ["script"] (spGauge K) := by
  have nd := sc__law_registry.nd
  refine F.ok sc__law_registry (fun vs H Q E h => ?_) (fun cdv A outer s H vs Q E hr h => ?_)
  · obtain ⟨a, ns, rfl, _⟩ := h
    rfl
  · obtain ⟨a, ns, rfl, hS, hl, q⟩ := h
    refine ⟨_, (pss_one (ps_ret (pe_lst (pa_cons (pe_lc (own := [("cell", 1)]) rfl nd (pi_list (pe_slice sl_list (pv 0) po_none (po_some pe_int))) (blkOk_by (N := N__law_registry) (sc := defScope s__law_registry) (by decide +kernel)) (fun _ _ _ _ _ => (pg_name (i := 1) nd rfl (by first | exact Or.inl rfl | exact Or.inr rfl))) (fun _ _ _ _ _ => pts_nil) (fun _ _ _ _ _ => (pe_callTy call_int1 (by rfl) T.n_int (by decide +kernel) (pa_cons (pv 1) pa_nil)))) (pa_cons pe_int (pa_cons pe_int pa_nil)))))), ?_⟩
    refine ⟨_, rfl, _, rfl, a, _, rfl, hS, fun p np => ?_⟩
    have e60 : cutV (ns.map V.int) none (some (60 : Int)) = (ns.take 60).map V.int := by
      rw [List.map_take]
      exact cut_upto (ns.map V.int) 60
    rw [e60]
    have hcl : (ns.take 60).length ≤ 60 := List.length_take_le ..
    generalize ns.take 60 = cs at hcl ⊢
    refine ⟨p, rfl, ⟨_, SqL.of upd_same⟩, fun D nD => ?_⟩
    have s1 : Same H (upd H p (.lst (cs.map V.int))) := same_new np
    have npD : p ≠ D := fun e => by
      rw [← e, upd_same] at nD
      cases nD
    refine lc_list (K := K) (a := p) (xs := cs.map V.int) (fun i H' => Same H H' ∧ H' p = some (.lst (cs.map V.int)) ∧ H' D = some (.lst ((cs.take i).map V.int)))
      ⟨s1.trans (same_new nD), by rw [upd_ne npD]; exact upd_same, upd_same⟩ (fun i H' _ h => SqL.of h.2.1) ?_ ?_
    · rintro i x H' hx ⟨sm, hp, hD⟩
      have hi : i < cs.length := by
        have := (List.getElem?_eq_some_iff.mp hx).1
        rw [List.length_map] at this
        exact this
      have ex : x = .int cs[i] := by
        rw [List.getElem?_map, List.getElem?_eq_getElem hi] at hx
        exact (Option.some.inj hx).symm
      subst ex
      refine ⟨rfl, ?_⟩
      dsimp only [tYes]
      rw [if_pos rfl]
      refine ⟨_, rfl, .inl ⟨_, rfl, _, hD, ?_, ?_⟩⟩
      · rw [List.length_map, List.length_take]
        exact Nat.lt_of_le_of_lt (Nat.min_le_right _ _) (small1000 (by omega))
      · refine ⟨fun b o e => ?_, by rw [upd_ne npD]; exact hp, ?_⟩
        · have nb : b ≠ D := fun z => by
            subst z
            rw [same_new np _ _ e] at nD
            cases nD
          rw [upd_ne nb]
          exact sm _ _ e
        · rw [upd_same, List.take_add_one, List.getElem?_eq_getElem hi, List.map_append]
          rfl
    · rintro H' ⟨sm, hp, hD⟩
      refine ⟨by show 3 ≤ sizeLine; decide, fun g ng => ?_⟩
      have ncg : D ≠ g := ne_of_none hD ng
      have eD : (cs.take (cs.map V.int).length).map V.int = cs.map V.int := by
        rw [List.length_map, List.take_length]
      refine q g _ (sm.trans (same_new ng)) (sm.free ng) ⟨D, cs, 0, 0, upd_same, ?_, ncg, Nat.le_refl _, by decide⟩
      rw [upd_ne ncg, hD, eD]

theorem ok__law_enter {f : Addr} {fd : FuncData} (F : Fun K "_law_enter" "_law_enter" s__law_enter f fd) (T : Txt K mg) : FnOk P w K mg base CX0 1 f fd ["registry", "many"] spTick := by
  have nd := sc__law_enter.nd
  refine F.ok sc__law_enter (fun vs H Q E h => ?_) (fun cdv A outer s H vs Q E hr h => ?_)
  · obtain ⟨g, n, m, rfl, _⟩ := h
    rfl
  · obtain ⟨g, n, m, rfl, ⟨c, cs, b, r, hg, hc, ncg, hb, hr0⟩, hn, hm0, hm1, q⟩ := h
    have hu64 := hr.units
    have nmod : ∀ x : Int, 0 ≤ x % m := fun x => Int.emod_nonneg _ (by omega)
    have lmod : ∀ x : Int, x % m < m := fun x => Int.emod_lt_of_pos _ hm0
    have wd : ∀ x : Int, CDivW x m := fun x => wide_div hm0 hm1 (by decide) (by decide)
    have ix2 : ∀ (b r : Int), atI [V.ref c, V.int b, V.int r] 2 = some (V.int r) := fun _ _ => rfl
    have ix1 : ∀ (b r : Int), atI [V.ref c, V.int b, V.int r] 1 = some (V.int b) := fun _ _ => rfl
    have ix0 : ∀ (b r : Int), atI [V.ref c, V.int b, V.int r] 0 = some (V.ref c) := fun _ _ => rfl
    refine ⟨_, (pss_cons (ps_if (pt_cmpR (op_eqD hu64) (pe_ix (show IxR _ (rIxL K) from ix_list) (pv 0) pe_int (fun _ _ => rfl)) (pe_lst pa_nil) (nomark _))
 (pss_one (ps_ret pe_int))
 pss_nil)
 (pss_cons (ps_if (pt_cmpR op_gt (pe_ix (show IxR _ (rIxL K) from ix_list) (pv 0) pe_int (fun _ _ => rfl)) pe_int (nomark _))
 (pss_cons (ps_set (i := 2) nd rfl (by first | exact Or.inl rfl | exact Or.inr rfl) (pe_callTy call_int1 (by rfl) T.n_int (by decide +kernel) (pa_cons (pe_ix (show IxR _ (rIxL K) from ix_list) (pv 0) pe_int (fun _ _ => rfl)) pa_nil)))
 (pss_cons (ps_asg (pe_op op_fdivW (pv 2) (pv 1)) (pg_sub (pv 0) pe_int set_list))
 (pss_one (ps_ret (pe_op op_mod (pe_callTy call_int1 (by rfl) T.n_int (by decide +kernel) (pa_cons (pv 2) pa_nil)) (pv 1))))))
 pss_nil)
 (pss_cons (ps_set (i := 3) nd rfl (by first | exact Or.inl rfl | exact Or.inr rfl) (pe_ix (show IxR _ (rIxL K) from ix_list) (pv 0) pe_int (fun _ _ => rfl)))
 (pss_cons (ps_asg (pe_op op_add (pv 3) pe_int) (pg_sub (pv 0) pe_int set_list))
 (pss_cons (ps_set (i := 4) nd rfl (by first | exact Or.inl rfl | exact Or.inr rfl) (pe_ix (show IxR _ (rIxL K) from ix_list) (pe_ix (show IxR _ (rIxL K) from ix_list) (pv 0) pe_int (fun _ _ => rfl)) (pe_op op_mod (pe_callTy call_int1 (by rfl) T.n_int (by decide +kernel) (pa_cons (pv 3) pa_nil)) (pe_callB (show CallR _ (.builtin "len") (rLenSq K) from call_len_seq) (by rfl) T.n_len (by decide +kernel) (pa_cons (pe_ix (show IxR _ (rIxL K) from ix_list) (pv 0) pe_int (fun _ _ => rfl)) pa_nil))) (fun _ _ => rfl)))
 (pss_cons (ps_if (PW.pt (pw_and (pt_cmpR op_lt (pv 3) (pe_callB (show CallR _ (.builtin "len") (rLenSq K) from call_len_seq) (by rfl) T.n_len (by decide +kernel) (pa_cons (pe_ix (show IxR _ (rIxL K) from ix_list) (pv 0) pe_int (fun _ _ => rfl)) pa_nil)) (nomark _)) (pw_and1 (pt_cmpR op_ge (pe_callB call_abs (by rfl) T.n_abs (by decide +kernel) (pa_cons (pv 4) pa_nil)) (pe_op op_pow pe_int pe_int) (nomark _)))))
 (pss_cons (ps_set (i := 2) nd rfl (by first | exact Or.inl rfl | exact Or.inr rfl) (pe_op op_add (pe_op op_mul pe_int (pe_op op_sub (pe_callB call_abs (by rfl) T.n_abs (by decide +kernel) (pa_cons (pv 4) pa_nil)) (pe_op op_pow pe_int pe_int))) (pe_callTy call_int1 (by rfl) T.n_int (by decide +kernel) (pa_cons (pe_cmpR op_lt (pv 4) pe_int (nomark _)) pa_nil))))
 (pss_cons (ps_asg (pe_op op_fdivW (pe_callTy call_int1 (by rfl) T.n_int (by decide +kernel) (pa_cons (pv 2) pa_nil)) (pv 1)) (pg_sub (pv 0) pe_int set_list))
 (pss_one (ps_ret (pe_op op_mod (pe_callTy call_int1 (by rfl) T.n_int (by decide +kernel) (pa_cons (pv 2) pa_nil)) (pv 1))))))
 pss_nil)
 (pss_cons (ps_set (i := 5) nd rfl (by first | exact Or.inl rfl | exact Or.inr rfl) (pe_op op_mod (pe_callTy call_int1 (by rfl) T.n_int (by decide +kernel) (pa_cons (pe_op op_pow (pe_op op_add (pe_op op_add (pe_op op_mod (pe_callTy call_int1 (by rfl) T.n_int (by decide +kernel) (pa_cons (pv 4) pa_nil)) pe_int) (pe_op op_mul pe_int (pv 3))) pe_int) pe_int) pa_nil)) pe_int))
 (pss_cons (ps_set (i := 5) nd rfl (by first | exact Or.inl rfl | exact Or.inr rfl) (pe_op op_mod (pe_callTy call_int1 (by rfl) T.n_int (by decide +kernel) (pa_cons (pe_op op_pow (pe_op op_add (pe_op op_add (pe_op op_mul (pv 5) (pe_op op_add (pe_op op_mul pe_int (pv 3)) pe_int)) (pe_op op_mul (pe_op op_mul pe_int (pv 3)) (pv 3))) pe_int) pe_int) pa_nil)) pe_int))
 (pss_one (ps_ret (pe_op op_mod (pe_callTy call_int1 (by rfl) T.n_int (by decide +kernel) (pa_cons (pe_op op_fdiv (pv 5) pe_int) pa_nil)) (pv 1)))))))))))), ?_⟩
    -- nothing to draw from
    refine ⟨_, rfl, g, _, _, _, rfl, rfl, SqL.of hg, ix0 _ _, Nat.zero_le _, fun l nl => ?_⟩
    have hgl : (upd H l (.lst [])) g = some (.lst [.ref c, .int b, .int r]) := by
      rw [upd_ne (ne_of_none hg nl)]
      exact hg
    have hcl : (upd H l (.lst [])) c = some (.lst (cs.map V.int)) := by
      rw [upd_ne (ne_of_none hc nl)]
      exact hc
    have hll : (upd H l (.lst [])) l = some (.lst []) := upd_same
    have fml : Fm g H (upd H l (.lst [])) := Fm.new nl
    generalize upd H l (.lst []) = H0 at hgl hcl hll fml ⊢
    refine ⟨.list (cs.map .int), .list [], .lst (SqL.of hcl) (dp_ints cs), .lst (SqL.of hll) .nil, sh_ints cs, rfl, _, rfl, ?_⟩
    refine ite2 (fun e0 => ?_) (fun e0 => ?_)
    · exact q H0 0 (by decide) hm0 fml ⟨c, cs, b, r, hgl, hcl, ncg, by omega, hr0⟩
    have hcs : 0 < cs.length := by
      cases cs with
      | nil => exact absurd (SeqAt.eqv_refl _ (by decide)) e0
      | cons x y => exact Nat.zero_lt_succ _
    -- what is left of a great cell
    refine ⟨_, rfl, g, _, _, _, rfl, rfl, SqL.of hgl, ix2 _ _, _, _, rfl, rfl, _, rfl, ?_⟩
    refine ite2 (fun e => ?_) (fun e => ?_)
    · refine ⟨_, rfl, g, _, _, _, rfl, rfl, SqL.of hgl, ix2 _ _, .inl ⟨_, rfl, ?_⟩⟩
      first
        | refine ⟨_, rfl, _, rfl, _, _, rfl, rfl, wd r, _, rfl, g, _, _, 2, rfl, rfl, hgl, rfl, ?_⟩
        | refine ⟨_, rfl, .inl ⟨_, rfl, _, rfl, _, _, rfl, rfl, wd r, _, rfl, g, _, _, 2, rfl, rfl, hgl, rfl, ?_⟩⟩
      refine ⟨_, rfl, .inl ⟨_, rfl, _, rfl, _, _, rfl, rfl, hm0, ?_⟩⟩
      refine q _ _ (nmod _) (lmod _) (fml.trans (Fm.upd (Ce.upd hgl))) ⟨c, cs, b, r / m, upd_same, ?_, ncg, by omega, Int.ediv_nonneg hr0 (by omega)⟩
      rw [upd_ne ncg]
      exact hcl
    -- the next cell
    refine ⟨_, rfl, g, _, _, _, rfl, rfl, SqL.of hgl, ix1 _ _, ?_⟩
    refine ⟨_, rfl, _, _, rfl, rfl, _, rfl, g, _, _, 1, rfl, rfl, hgl, rfl, ?_⟩
    have hg2 : (upd H0 g (.lst [.ref c, .int ((b : Int) + 1), .int r])) g = some (.lst [.ref c, .int ((b : Int) + 1), .int r]) := upd_same
    have hc2 : (upd H0 g (.lst [.ref c, .int ((b : Int) + 1), .int r])) c = some (.lst (cs.map V.int)) := by
      rw [upd_ne ncg]
      exact hcl
    have fm2 : Fm g H (upd H0 g (.lst [.ref c, .int ((b : Int) + 1), .int r])) := fml.trans (Fm.upd (Ce.upd hgl))
    show tSeq _ _ _ _ (upd H0 g (.lst [.ref c, .int ((b : Int) + 1), .int r]))
    generalize upd H0 g (.lst [.ref c, .int ((b : Int) + 1), .int r]) = H2 at hg2 hc2 fm2 ⊢
    have hbl : (b : Int) % ((cs.map V.int).length : Nat) = ((b % cs.length : Nat) : Int) := by
      rw [List.length_map]
      exact (Int.natCast_emod b cs.length).symm
    have hj : b % cs.length < cs.length := Nat.mod_lt _ hcs
    refine ⟨_, rfl, g, _, _, _, rfl, rfl, SqL.of hg2, ix0 _ _, _, rfl, .inl ⟨_, rfl, _, rfl, g, _, _, _, rfl, rfl, SqL.of hg2, ix0 _ _, c, _, rfl, .inl (SqL.of hc2), _, _, rfl, rfl, ?_, c, _, _, .int cs[b % cs.length], rfl, rfl, SqL.of hc2, ?_, ?_⟩⟩
    · rw [List.length_map]
      omega
    · rw [hbl]
      exact atI_nat (by rw [List.getElem?_map, List.getElem?_eq_getElem hj]; rfl)
    · generalize cs[b % cs.length] = cell
      refine ⟨_, rfl, _, rfl, g, _, _, _, rfl, rfl, SqL.of hg2, ix0 _ _, c, _, rfl, .inl (SqL.of hc2), _, _, rfl, rfl, _, rfl, ?_⟩
      refine ite2 (fun e3 => ?_) (fun e3 => iteF ?_)
      · refine ⟨_, rfl, _, rfl, _, _, rfl, rfl, ⟨by decide, by decide, by decide⟩, _, _, rfl, rfl, _, rfl, ?_⟩
        refine ite2 (fun e4 => ?_) (fun e4 => ?_)
        · have e5 := of_decide_eq_true e4
          first
            | refine ⟨_, rfl, _, rfl, _, _, rfl, rfl, ⟨by decide, by decide, by decide⟩, _, _, rfl, rfl, _, _, rfl, rfl, .inl ⟨by decide, by decide⟩, _, rfl, _, _, rfl, rfl, .inr ⟨_, rfl, _, _, rfl, rfl, ?_⟩⟩
            | refine ⟨_, rfl, .inl ⟨_, rfl, _, rfl, _, _, rfl, rfl, ⟨by decide, by decide, by decide⟩, _, _, rfl, rfl, _, _, rfl, rfl, .inl ⟨by decide, by decide⟩, _, rfl, _, _, rfl, rfl, .inr ⟨_, rfl, _, _, rfl, rfl, ?_⟩⟩⟩
          have r0 : 0 ≤ 2 * ((if cell < 0 then -cell else cell) - 10 ^ (18 : Int).toNat) + (if decide (cell < 0) = true then (1 : Int) else 0) := by
            have e6 : (10 : Int) ^ (18 : Int).toNat ≤ (if cell < 0 then -cell else cell) := e5
            split <;> omega
          dsimp only
          generalize 2 * ((if cell < 0 then -cell else cell) - 10 ^ (18 : Int).toNat) + (if decide (cell < 0) = true then (1 : Int) else 0) = r2 at r0 ⊢
          first
            | refine ⟨_, rfl, _, rfl, _, _, rfl, rfl, wd r2, _, rfl, g, _, _, 2, rfl, rfl, hg2, rfl, ?_⟩
            | refine ⟨_, rfl, .inl ⟨_, rfl, _, rfl, _, _, rfl, rfl, wd r2, _, rfl, g, _, _, 2, rfl, rfl, hg2, rfl, ?_⟩⟩
          refine ⟨_, rfl, .inl ⟨_, rfl, _, rfl, _, _, rfl, rfl, hm0, ?_⟩⟩
          refine q _ _ (nmod _) (lmod _) (fm2.trans (Fm.upd (Ce.upd hg2))) ⟨c, cs, b + 1, r2 / m, upd_same, ?_, ncg, by omega, Int.ediv_nonneg r0 (by omega)⟩
          rw [upd_ne ncg]
          exact hc2
        · refine ⟨_, rfl, .inl ⟨_, rfl, _, _, rfl, rfl, by show (0 : Int) < _; decide, _, rfl, _, _, rfl, rfl, .inl ⟨by decide, by decide⟩, _, _, rfl, rfl, _, _, rfl, rfl, _, _, rfl, rfl, ⟨by decide, by decide, by omega⟩, .inl ⟨_, rfl, _, _, rfl, rfl, by show (0 : Int) < _; decide, ?_⟩⟩⟩
          dsimp only
          have mx0 : 0 ≤ (cell % 2147483549 + 63073 * (b : Int) + 9679) ^ (5 : Int).toNat % 2147483629 := Int.emod_nonneg _ (by decide)
          have mx1 : (cell % 2147483549 + 63073 * (b : Int) + 9679) ^ (5 : Int).toNat % 2147483629 < 2147483629 := Int.emod_lt_of_pos _ (by decide)
          generalize (cell % 2147483549 + 63073 * (b : Int) + 9679) ^ (5 : Int).toNat % 2147483629 = mx at mx0 mx1 ⊢
          have t1 := tick_b1 (x := mx) (b := b) (C := 4643) mx0 (by omega) (by omega) (by omega) (by omega) (by omega)
          have t2 := tick_b2 (D := 93199) (b := b) (by omega) (by omega) (by omega) (by omega)
          refine ⟨_, rfl, _, rfl, _, _, rfl, rfl, .inl ⟨by decide, by decide⟩, _, _, rfl, rfl, _, _, rfl, rfl, .inl ⟨by omega, by omega⟩, _, rfl, _, _, rfl, rfl, .inl ⟨by decide, by decide⟩, _, rfl, _, _, rfl, rfl, .inr ⟨by omega, by omega⟩, _, _, rfl, rfl, _, _, rfl, rfl, _, _, rfl, rfl, ⟨by decide, by decide, by omega⟩, .inl ⟨_, rfl, _, _, rfl, rfl, by show (0 : Int) < _; decide, ?_⟩⟩
          refine ⟨_, rfl, _, _, rfl, rfl, ⟨by decide, by decide⟩, .inl ⟨_, rfl, _, rfl, _, _, rfl, rfl, hm0, ?_⟩⟩
          exact q _ _ (nmod _) (lmod _) fm2 ⟨c, cs, b + 1, r, hg2, hc2, ncg, by omega, hr0⟩
      · refine ⟨_, rfl, .inl ⟨_, rfl, _, _, rfl, rfl, by show (0 : Int) < _; decide, _, rfl, _, _, rfl, rfl, .inl ⟨by decide, by decide⟩, _, _, rfl, rfl, _, _, rfl, rfl, _, _, rfl, rfl, ⟨by decide, by decide, by omega⟩, .inl ⟨_, rfl, _, _, rfl, rfl, by show (0 : Int) < _; decide, ?_⟩⟩⟩
        dsimp only
        have mx0 : 0 ≤ (cell % 2147483549 + 63073 * (b : Int) + 9679) ^ (5 : Int).toNat % 2147483629 := Int.emod_nonneg _ (by decide)
        have mx1 : (cell % 2147483549 + 63073 * (b : Int) + 9679) ^ (5 : Int).toNat % 2147483629 < 2147483629 := Int.emod_lt_of_pos _ (by decide)
        generalize (cell % 2147483549 + 63073 * (b : Int) + 9679) ^ (5 : Int).toNat % 2147483629 = mx at mx0 mx1 ⊢
        have t1 := tick_b1 (x := mx) (b := b) (C := 4643) mx0 (by omega) (by omega) (by omega) (by omega) (by omega)
        have t2 := tick_b2 (D := 93199) (b := b) (by omega) (by omega) (by omega) (by omega)
        refine ⟨_, rfl, _, rfl, _, _, rfl, rfl, .inl ⟨by decide, by decide⟩, _, _, rfl, rfl, _, _, rfl, rfl, .inl ⟨by omega, by omega⟩, _, rfl, _, _, rfl, rfl, .inl ⟨by decide, by decide⟩, _, rfl, _, _, rfl, rfl, .inr ⟨by omega, by omega⟩, _, _, rfl, rfl, _, _, rfl, rfl, _, _, rfl, rfl, ⟨by decide, by decide, by omega⟩, .inl ⟨_, rfl, _, _, rfl, rfl, by show (0 : Int) < _; decide, ?_⟩⟩
        refine ⟨_, rfl, _, _, rfl, rfl, ⟨by decide, by decide⟩, .inl ⟨_, rfl, _, rfl, _, _, rfl, rfl, hm0, ?_⟩⟩
        exact q _ _ (nmod _) (lmod _) fm2 ⟨c, cs, b + 1, r, hg2, hc2, ncg, by omega, hr0⟩

theorem ok__law_one {f : Addr} {fd : FuncData} (F : Fun K "_law_one" "_law_one" s__law_one f fd) (T : Txt K mg) (c__law_enter : Cl P w K mg base 1 "_law_enter" spTick) : FnOk P w K mg base CX0 2 f fd ["registry", "some"] (spDial K) := by
  have nd := sc__law_one.nd
  refine F.ok sc__law_one (fun vs H Q E h => ?_) (fun cdv A outer s H vs Q E hr h => ?_)
  · obtain ⟨g, a, n, xs, rfl, _⟩ := h
    rfl
  · obtain ⟨g, a, n, xs, rfl, hG, hn, hS, nag, hl0, hl1, q⟩ := h
    refine ⟨_, (pss_one (ps_ret (pe_ix (show IxR _ (rIxL K) from ix_list) (pv 1) (pe_f c__law_enter hr (by decide) (by rfl) (pa_cons (pv 0) (pa_cons (pe_callB (show CallR _ (.builtin "len") (rLenSq K) from call_len_seq) (by rfl) T.n_len (by decide +kernel) (pa_cons (pv 1) pa_nil)) pa_nil))) (fun _ _ => rfl)))), ?_⟩
    have p2 : 1000 < 2 ^ 2000 := Nat.lt_of_lt_of_le (by decide : 1000 < 2 ^ 10) (Nat.pow_le_pow_right (by decide) (by decide))
    refine ⟨_, rfl, _, rfl, _, rfl, a, xs, rfl, .inl hS, g, n, xs.length, rfl, hG, hn, by omega, ?_, fun H' v hv0 hv1 fm ga => ?_⟩
    · rw [Int.natAbs_natCast]
      exact Nat.lt_trans hl1 p2
    · obtain ⟨j, rfl⟩ : ∃ j : Nat, v = (j : Int) := ⟨v.toNat, by omega⟩
      have hj : j < xs.length := by omega
      exact ⟨a, xs, _, xs[j], rfl, rfl, fm.sq nag hS, atI_nat (List.getElem?_eq_getElem hj), q H' _ (List.getElem_mem hj) fm ga⟩
end

open SX (S S_len S_cat S_inj join_S S_tl)
/-! ### checks of numbers -/
/-- a bound: none, or an integer -/
def Bd (x : V) : Prop := x = .non ∨ ∃ a, x = .int a
def isW (v lo hi : V) : Bool :=
  match v with
  | .int i => (match lo with | .int a => decide (a ≤ i) | _ => true) && (match hi with | .int b => decide (i ≤ b) | _ => true)
  | _ => false
def spIsInt (K : PySem.W.Frag) : Sp := fun vs H Q _ => ∃ (v : V) (t : String), vs = [v] ∧ TyB K H v t ∧ Q (.bl (t == "int")) H
def spWithin (K : PySem.W.Frag) : Sp := fun vs H Q _ => ∃ (v lo hi : V) (t : String), vs = [v, lo, hi] ∧ TyB K H v t ∧ Bd lo ∧ Bd hi ∧ Q (.bl (isW v lo hi)) H
def spCheck (K : PySem.W.Frag) : Sp := fun vs H Q _ => ∃ (v lo hi p : V) (t : String), vs = [v, lo, hi, p] ∧ TyB K H v t ∧ Bd lo ∧ Bd hi ∧ isW v lo hi = true ∧ Q .non H
theorem ty_only : ∀ t ∈ kinds, (if isSub t "int" = true then !isSub t "bool" else false) = (t == "int") := by decide
theorem tyb_int {K : PySem.W.Frag} {H : Hp} {v : V} {t : String} (h : TyB K H v t) (e : (t == "int") = true) : ∃ i, v = .int i := by
  cases h with
  | int i => exact ⟨i, rfl⟩
  | _ => exact absurd e (by decide)
theorem tyb_noint {K : PySem.W.Frag} {H : Hp} {v : V} {t : String} (h : TyB K H v t) (e : ¬ (t == "int") = true) (lo hi : V) : isW v lo hi = false := by
  cases h with
  | int i => exact absurd (by decide) e
  | _ => rfl
section
variable {P : Program} {w : World} {K : PySem.W.Frag} {mg : Str → Option Value} {base : Heap}
theorem ok_is_integer {f : Addr} {fd : FuncData} (F : Fun K "is_integer" "is_integer" s_is_integer f fd) (T : Txt K mg) : FnOk P w K mg base CX0 1 f fd ["value"] (spIsInt K) := by
  have nd := sc_is_integer.nd
  refine F.ok sc_is_integer (fun vs H Q E h => ?_) (fun cdv A outer s H vs Q E hr h => ?_)
  · obtain ⟨v, t, rfl, _⟩ := h
    rfl
  · obtain ⟨v, t, rfl, ht, q⟩ := h
    refine ⟨_, (pss_one (ps_ret (pe_and (pe_callB call_is (by rfl) T.n_isinstance (by decide +kernel) (pa_cons (pv 0) (pa_cons (pe_bltn (v := .ty "int") (by rfl) T.n_int (by decide +kernel) rfl) pa_nil))) (pe_one (pe_not (pe_callB call_is (by rfl) T.n_isinstance (by decide +kernel) (pa_cons (pv 0) (pa_cons (pe_bltn (v := .ty "bool") (by rfl) T.n_bool (by decide +kernel) rfl) pa_nil)))))))), ?_⟩
    rw [← ty_only t (tyb_kind ht)] at q
    refine ⟨_, rfl, v, t, "int", rfl, ht, by decide, _, rfl, ?_⟩
    refine ite2 (fun e => ?_) (fun e => ?_)
    · rw [if_pos e] at q
      exact ⟨_, rfl, v, t, "bool", rfl, ht, by decide, _, rfl, q⟩
    · rw [if_neg e] at q
      exact q
theorem ok_is_within {f : Addr} {fd : FuncData} (F : Fun K "is_within" "is_within" s_is_within f fd) (T : Txt K mg) (c_is_integer : Cl P w K mg base 1 "is_integer" (spIsInt K)) :
    FnOk P w K mg base CX0 2 f fd ["value", "least", "most"] (spWithin K) := by
  have nd := sc_is_within.nd
  refine F.ok sc_is_within (fun vs H Q E h => ?_) (fun cdv A outer s H vs Q E hr h => ?_)
  · obtain ⟨v, lo, hi, t, rfl, _⟩ := h
    rfl
  · obtain ⟨v, lo, hi, t, rfl, ht, hlo, hhi, q⟩ := h
    refine ⟨_, (pss_cons (ps_if (pt_not (pt_val (pe_f c_is_integer hr (by decide) (by rfl) (pa_cons (pv 0) pa_nil))))
 (pss_one (ps_ret pe_bl))
 pss_nil)
 (pss_cons (ps_if (PW.pt (pw_and (pt_cmpR op_notN (pv 1) pe_non (nomark _)) (pw_and1 (pt_cmpR op_lt (pv 0) (pv 1) (nomark _)))))
 (pss_one (ps_ret pe_bl))
 pss_nil)
 (pss_one (ps_ret (pe_or (pe_cmpR op_isN (pv 2) pe_non (nomark _)) (pe_one (pe_cmpR op_le (pv 0) (pv 2) (nomark _)))))))), ?_⟩
    refine ⟨_, rfl, v, t, rfl, ht, _, rfl, ?_⟩
    by_cases ei : (t == "int") = true
    · obtain ⟨i, rfl⟩ := tyb_int ht ei
      rw [ei]
      refine iteF ?_
      have up : ∀ lo', isW (.int i) lo' hi = isW (.int i) .non hi → Q (.bl (isW (.int i) lo' hi)) H → (tOrV (tOp (fun x y H Q => y = V.non ∧ Q (.bl (decide (x = .non))) H) (tVar 2) (tC .non)) (tOp (rI0 fun i j => .bl (decide (i ≤ j))) (tVar 0) (tVar 2))) [some (.int i), some lo', some hi] H Q := by
        intro lo' e1 q
        rw [e1] at q
        refine ⟨hi, rfl, rfl, _, rfl, ?_⟩
        rcases hhi with rfl | ⟨b, rfl⟩
        · exact q
        · refine (if_neg (by simp)).mpr ?_
          exact ⟨_, rfl, _, rfl, _, _, rfl, rfl, by simpa [isW] using q⟩
      refine ⟨lo, rfl, rfl, _, rfl, ?_⟩
      rcases hlo with rfl | ⟨a, rfl⟩
      · refine (if_neg (by decide)).mpr ?_
        refine iteF ?_
        exact up _ rfl q
      · refine (if_pos (by simp)).mpr ?_
        refine ⟨_, rfl, _, rfl, _, _, rfl, rfl, _, rfl, ?_⟩
        refine ite2 (fun e => ?_) (fun e => ?_)
        · have e2 : i < a := of_decide_eq_true e
          have e3 : isW (.int i) (.int a) hi = false := by
            show (decide (a ≤ i) && _) = false
            rw [decide_eq_false (by omega), Bool.false_and]
          rw [e3] at q
          exact q
        · have e2 : ¬ i < a := fun z => e (decide_eq_true z)
          refine up _ ?_ q
          show (decide (a ≤ i) && _) = (true && _)
          rw [decide_eq_true (by omega)]
          rfl
    · rw [Bool.eq_false_iff.mpr ei]
      refine iteT ?_
      rw [tyb_noint ht ei] at q
      exact q
theorem ok_check_number {f : Addr} {fd : FuncData} (F : Fun K "check_number" "check_number" s_check_number f fd) (T : Txt K mg) (c_is_within : Cl P w K mg base 2 "is_within" (spWithin K)) :
    FnOk P w K mg base CX0 3 f fd ["value", "least", "most", "part"] (spCheck K) := by
  have nd := sc_check_number.nd
  refine F.ok sc_check_number (fun vs H Q E h => ?_) (fun cdv A outer s H vs Q E hr h => ?_)
  · obtain ⟨v, lo, hi, p, t, rfl, _⟩ := h
    rfl
  · obtain ⟨v, lo, hi, p, t, rfl, ht, hlo, hhi, e, q⟩ := h
    refine ⟨_, (pss_one (ps_if (pt_not (pt_val (pe_f c_is_within hr (by decide) (by rfl) (pa_cons (pv 0) (pa_cons (pv 1) (pa_cons (pv 2) pa_nil))))))
 (pss_one ps_never)
 pss_nil)), ?_⟩
    refine ⟨_, rfl, _, rfl, _, rfl, v, lo, hi, t, rfl, ht, hlo, hhi, _, rfl, ?_⟩
    rw [e]
    exact iteF q
end

def spPairs : Sp := fun vs H Q _ => ∃ n : Nat, vs = [.int n] ∧ 1 ≤ n ∧ n ≤ 200 ∧ Q .non H
/-- in how many ways a word goes on -/
def wayI (o : Nat) (z : Int) : Int := if o = 0 then 1 else (chs (o + z.toNat) o : Int) - (chs (o + z.toNat) (o - 1) : Int)
def catI (n : Nat) : Int := (chs (n + n) n : Int) - (chs (n + n) (n - 1) : Int)
def spWays : Sp := fun vs H Q _ => ∃ (o : Nat) (z : Int), vs = [.int o, .int z] ∧ (o = 0 ∨ (0 ≤ z ∧ z ≤ 1000 ∧ o ≤ 1000)) ∧ Q (.int (wayI o z)) H
def spWords : Sp := fun vs H Q _ => ∃ n : Nat, vs = [.int n] ∧ 1 ≤ n ∧ n ≤ 200 ∧ Q (.int (catI n)) H
section
variable {P : Program} {w : World} {K : PySem.W.Frag} {mg : Str → Option Value} {base : Heap}
theorem ok_check_pairs {f : Addr} {fd : FuncData} (F : Fun K "check_pairs" "check_pairs" s_check_pairs f fd) (T : Txt K mg) (c_check_number : Cl P w K mg base 3 "check_number" (spCheck K)) :
    FnOk P w K mg base CX0 4 f fd ["pairs"] spPairs := by
  have nd := sc_check_pairs.nd
  refine F.ok sc_check_pairs (fun vs H Q E h => ?_) (fun cdv A outer s H vs Q E hr h => ?_)
  · obtain ⟨n, rfl, _⟩ := h
    rfl
  · obtain ⟨n, rfl, h1, h2, q⟩ := h
    refine ⟨_, (pss_one (ps_expr (pe_f c_check_number hr (by decide) (by rfl) (pa_cons (pv 0) (pa_cons pe_int (pa_cons (pe_cst T.c_MOST_PAIRS (by rfl)) (pa_cons (pe_lit (l := [112, 97, 105, 114, 115]) (by decide +kernel)) pa_nil))))))), ?_⟩
    refine ⟨_, rfl, _, _, _, _, "int", rfl, .int _, .inr ⟨_, rfl⟩, .inr ⟨_, rfl⟩, ?_, q⟩
    show (decide ((1 : Int) ≤ n) && decide ((n : Int) ≤ 200)) = true
    rw [decide_eq_true (by omega), decide_eq_true (by omega)]
    rfl
end

/-! ### rows of signs, words -/
/-- all signs are 0 or 1 -/
def sg (a : List Nat) : Bool := a.all fun c => c == 48 || c == 49
/-- how high it stands behind these signs; none, where it went below -/
def hgt : Nat → List Nat → Option Nat
  | h, [] => some h
  | h, c :: r => if c = 49 then hgt (h + 1) r else match h with
    | 0 => none
    | k + 1 => hgt k r
theorem hgt_up (h : Nat) (r : List Nat) : hgt h (49 :: r) = hgt (h + 1) r := rfl
theorem hgt_zero {c : Nat} (e : c ≠ 49) (r : List Nat) : hgt 0 (c :: r) = none := by
  show (if c = 49 then _ else _) = _
  rw [if_neg e]
theorem hgt_down {c : Nat} (e : c ≠ 49) (k : Nat) (r : List Nat) : hgt (k + 1) (c :: r) = hgt k r := by
  show (if c = 49 then _ else _) = _
  rw [if_neg e]
theorem hgt_app : ∀ (a b : List Nat) (h : Nat), hgt h (a ++ b) = (hgt h a).bind fun k => hgt k b
  | [], b, h => rfl
  | c :: a, b, h => by
    rw [List.cons_append]
    by_cases e : c = 49
    · subst e
      rw [hgt_up, hgt_up]
      exact hgt_app a b _
    · cases h with
      | zero => rw [hgt_zero e, hgt_zero e]; rfl
      | succ k => rw [hgt_down e, hgt_down e]; exact hgt_app a b k
theorem hgt_len : ∀ (a : List Nat) (h : Nat), hgt h a = some 0 → h ≤ a.length ∧ (h + a.length) % 2 = 0
  | [], h, e => by
    have : h = 0 := Option.some.inj e
    subst this
    exact ⟨Nat.le_refl _, rfl⟩
  | c :: r, h, e => by
    rw [List.length_cons]
    by_cases ec : c = 49
    · subst ec
      rw [hgt_up] at e
      have := hgt_len r _ e
      omega
    · cases h with
      | zero => rw [hgt_zero ec] at e; cases e
      | succ k =>
        rw [hgt_down ec] at e
        have := hgt_len r _ e
        omega
theorem sg_app (a b : List Nat) : sg (a ++ b) = (sg a && sg b) := List.all_append
def isWd (a : List Nat) : Bool := (sg a && (decide (2 ≤ a.length) && decide (a.length ≤ 400))) && (hgt 0 a == some 0)
theorem isWd_mk {a : List Nat} (h1 : sg a = true) (h2 : 2 ≤ a.length) (h3 : a.length ≤ 400) (h4 : hgt 0 a = some 0) : isWd a = true := by
  unfold isWd
  rw [h1, h4, decide_eq_true h2, decide_eq_true h3]
  rfl
theorem isWd_of {a : List Nat} (h : isWd a = true) : sg a = true ∧ 2 ≤ a.length ∧ a.length ≤ 400 ∧ hgt 0 a = some 0 := by
  unfold isWd at h
  simp only [Bool.and_eq_true, decide_eq_true_eq, beq_iff_eq] at h
  exact ⟨h.1.1, h.1.2.1, h.1.2.2, h.2⟩
def sgV : V → Bool
  | .str z => sg z.cps.toList
  | _ => false
def wdV : V → Bool
  | .str z => isWd z.cps.toList
  | _ => false
/-- a text, if it is one, is no longer than a line -/
def Sht (v : V) : Prop := ∀ z, v = .str z → z.length ≤ sizeLine
theorem sht_S {a : List Nat} (h : a.length ≤ sizeLine) : Sht (.str (S a)) := fun z e => by
  cases e
  rw [S_len]
  exact h
theorem count_two : ∀ a : List Nat, a.count 48 + a.count 49 ≤ a.length ∧ (sg a = decide (a.count 48 + a.count 49 = a.length))
  | [] => ⟨Nat.le_refl _, rfl⟩
  | c :: a => by
    obtain ⟨h1, h2⟩ := count_two a
    have e : sg (c :: a) = ((c == 48 || c == 49) && sg a) := rfl
    rw [e, h2, List.count_cons, List.count_cons, List.length_cons]
    by_cases e0 : c = 48
    · subst e0
      refine ⟨by simp; omega, ?_⟩
      simp
      omega
    · by_cases e1 : c = 49
      · subst e1
        refine ⟨by simp; omega, ?_⟩
        simp
        omega
      · have f0 : (c == 48) = false := beq_false_of_ne e0
        have f1 : (c == 49) = false := beq_false_of_ne e1
        rw [f0, f1]
        refine ⟨by simp; omega, ?_⟩
        simp
        omega
theorem drop_at {α : Type} {a : List α} {i : Nat} {c : α} (h : a[i]? = some c) : a.drop i = c :: a.drop (i + 1) := by
  obtain ⟨hi, e⟩ := List.getElem?_eq_some_iff.mp h
  rw [List.drop_eq_getElem_cons hi, e]
theorem tyb_str {K : PySem.W.Frag} {H : Hp} {v : V} {t : String} (h : TyB K H v t) (e : (t == "str") = true) : ∃ a, v = .str (S a) := by
  cases h with
  | str z => exact ⟨z.cps.toList, by rw [S_tl]⟩
  | _ => exact absurd e (by decide)
theorem tyb_nostr {K : PySem.W.Frag} {H : Hp} {v : V} {t : String} (h : TyB K H v t) (e : ¬ (t == "str") = true) : sgV v = false ∧ wdV v = false := by
  cases h with
  | str z => exact absurd (by decide) e
  | _ => exact ⟨rfl, rfl⟩
theorem sub_str : ∀ t ∈ kinds, isSub t "str" = (t == "str") := by decide
def spSigns (K : PySem.W.Frag) : Sp := fun vs H Q _ => ∃ (v : V) (t : String), vs = [v] ∧ TyB K H v t ∧ Sht v ∧ Q (.bl (sgV v)) H
def spWord (K : PySem.W.Frag) : Sp := fun vs H Q _ => ∃ (v : V) (t : String), vs = [v] ∧ TyB K H v t ∧ Sht v ∧ Q (.bl (wdV v)) H
def spCkWord : Sp := fun vs H Q _ => ∃ (a : List Nat) (p : V), vs = [.str (S a), p] ∧ isWd a = true ∧ Q .non H
def spPairsIn : Sp := fun vs H Q _ => ∃ a : List Nat, vs = [.str (S a)] ∧ isWd a = true ∧ Q (.int (a.length / 2 : Nat)) H
section
variable {P : Program} {w : World} {K : PySem.W.Frag} {mg : Str → Option Value} {base : Heap}
theorem ok_is_signs {f : Addr} {fd : FuncData} (F : Fun K "is_signs" "is_signs" s_is_signs f fd) (T : Txt K mg) : FnOk P w K mg base CX0 1 f fd ["value"] (spSigns K) := by
  have nd := sc_is_signs.nd
  refine F.ok sc_is_signs (fun vs H Q E h => ?_) (fun cdv A outer s H vs Q E hr h => ?_)
  · obtain ⟨v, t, rfl, _⟩ := h
    rfl
  · obtain ⟨v, t, rfl, ht, hz, q⟩ := h
    refine ⟨_, (pss_one (ps_ret (pe_and (pe_callB call_is (by rfl) T.n_isinstance (by decide +kernel) (pa_cons (pv 0) (pa_cons (pe_bltn (v := .ty "str") (by rfl) T.n_str (by decide +kernel) rfl) pa_nil))) (pe_one (pe_cmpR op_eq (pe_op op_add (pe_m1 PySem.F.slot_str_count PySem.F.type_str_count mt_countS (pv 0) (pe_lit (l := [48]) (by decide +kernel))) (pe_m1 PySem.F.slot_str_count PySem.F.type_str_count mt_countS (pv 0) (pe_lit (l := [49]) (by decide +kernel)))) (pe_callB call_len_S (by rfl) T.n_len (by decide +kernel) (pa_cons (pv 0) pa_nil)) (nomark _)))))), ?_⟩
    refine ⟨_, rfl, v, t, "str", rfl, ht, by decide, _, rfl, ?_⟩
    rw [sub_str t (tyb_kind ht)]
    refine ite2 (fun e => ?_) (fun e => ?_)
    · obtain ⟨a, rfl⟩ := tyb_str ht e
      have ha : a.length ≤ sizeLine := by
        have := hz _ rfl
        rwa [S_len] at this
      have e2 : decide (V.int (((a.count 48 : Nat) : Int) + ((a.count 49 : Nat) : Int)) = V.int ((a.length : Nat) : Int)) = sg a := by
        rw [(count_two a).2]
        by_cases e3 : a.count 48 + a.count 49 = a.length
        · rw [decide_eq_true e3, decide_eq_true (by rw [← e3]; rfl)]
        · rw [decide_eq_false e3, decide_eq_false]
          intro z
          have := V.int.inj z
          omega
      refine ⟨_, rfl, ⟨_, rfl⟩, a, 48, rfl, rfl, _, rfl, ⟨_, rfl⟩, a, 49, rfl, rfl, _, _, rfl, rfl, _, rfl, a, rfl, ha, rfl, ?_⟩
      rw [e2]
      exact q
    · rw [(tyb_nostr ht e).1] at q
      exact q
theorem ok_is_word {f : Addr} {fd : FuncData} (F : Fun K "is_word" "is_word" s_is_word f fd) (T : Txt K mg) (c_is_signs : Cl P w K mg base 1 "is_signs" (spSigns K)) : FnOk P w K mg base CX0 2 f fd ["value"] (spWord K) := by
  have nd := sc_is_word.nd
  refine F.ok sc_is_word (fun vs H Q E h => ?_) (fun cdv A outer s H vs Q E hr h => ?_)
  · obtain ⟨v, t, rfl, _⟩ := h
    rfl
  · obtain ⟨v, t, rfl, ht, hz, q⟩ := h
    refine ⟨_, (pss_cons (ps_if (PW.pt (pw_or (pt_not (pt_val (pe_f c_is_signs hr (by decide) (by rfl) (pa_cons (pv 0) pa_nil)))) (pw_or1 (pt_not (pt_chain op_le op_le pe_int (pe_callB call_len_S (by rfl) T.n_len (by decide +kernel) (pa_cons (pv 0) pa_nil)) (pe_op op_mul pe_int (pe_cst T.c_MOST_PAIRS (by rfl))))))))
 (pss_one (ps_ret pe_bl))
 pss_nil)
 (pss_cons (ps_set (i := 1) nd rfl (by first | exact Or.inl rfl | exact Or.inr rfl) pe_int)
 (pss_cons (ps_for PassesOwn.never rfl (pi_str (pv 0)) (pg_name (i := 2) nd rfl (by first | exact Or.inl rfl | exact Or.inr rfl))
 (pss_cons (ps_aug (i := 1) nd rfl (by first | exact Or.inl rfl | exact Or.inr rfl) (pe_ifExp (pt_cmpR op_eq_S (pv 2) (pe_lit (l := [49]) (by decide +kernel)) (nomark _)) pe_int (pe_un un_neg pe_int)) ip_add)
 (pss_one (ps_if (pt_cmpR op_lt (pv 1) pe_int (nomark _))
 (pss_one (ps_ret pe_bl))
 pss_nil))))
 (pss_one (ps_ret (pe_cmpR op_eq (pv 1) pe_int (nomark _))))))), ?_⟩
    refine ⟨_, rfl, v, t, rfl, ht, hz, _, rfl, ?_⟩
    by_cases e0 : (t == "str") = true
    · obtain ⟨a, rfl⟩ := tyb_str ht e0
      have ha : a.length ≤ sizeLine := by
        have := hz _ rfl
        rwa [S_len] at this
      have es : sgV (.str (S a)) = sg a := rfl
      have ew : wdV (.str (S a)) = isWd a := rfl
      rw [ew] at q
      rw [es]
      by_cases e1 : sg a = true
      · rw [e1]
        refine iteF ?_
        have out : ∀ (b : Bool), isWd a = b → Q (.bl b) H := fun b e => by rw [← e]; exact q
        refine ⟨_, rfl, a, rfl, ha, _, _, rfl, rfl, _, rfl, ?_⟩
        refine ite2 (fun e2 => ?_) (fun e2 => ?_)
        · have l2 : 2 ≤ a.length := by have := of_decide_eq_true e2; omega
          refine ⟨_, _, rfl, rfl, .inl ⟨by decide, by decide⟩, _, _, rfl, rfl, _, rfl, ?_⟩
          refine ite2 (fun e3 => ?_) (fun e3 => ?_)
          · refine out false ?_
            have hn : ¬ a.length ≤ 400 := fun z => by
              rw [decide_eq_true (show ((a.length : Nat) : Int) ≤ 2 * 200 by omega)] at e3
              exact absurd e3 (by decide)
            unfold isWd
            rw [decide_eq_false hn, Bool.and_false, Bool.and_false, Bool.false_and]
          · have l3 : a.length ≤ 400 := by
              rcases Nat.lt_or_ge 400 a.length with h | h
              · rw [decide_eq_false (show ¬ ((a.length : Nat) : Int) ≤ 2 * 200 by omega)] at e3
                exact absurd rfl e3
              · exact h
            have out2 : ∀ (b : Bool), (hgt 0 a == some 0) = b → Q (.bl b) H := fun b e => out b (by
              unfold isWd
              rw [e1, decide_eq_true l2, decide_eq_true l3, e]
              rfl)
            refine ⟨_, rfl, S a, rfl, for_S (a := a) (fun i σ H' => H' = H ∧ ∃ (k : Nat) (v2 : Option V), σ = [some (.str (S a)), some (.int k), v2] ∧ hgt 0 a = hgt k (a.drop i)) ⟨rfl, 0, none, rfl, rfl⟩ ?_ ?_⟩
            · rintro i c σ H' hc ⟨rfl, k, v2, rfl, hk⟩
              rw [drop_at hc] at hk
              refine ⟨_, rfl, _, rfl, [c], [49], rfl, rfl, _, rfl, ?_⟩
              by_cases ec : c = 49
              · subst ec
                rw [decide_eq_true rfl]
                refine iteT ?_
                refine ⟨_, _, rfl, rfl, _, rfl, _, _, rfl, rfl, _, rfl, ?_⟩
                rw [decide_eq_false (show ¬ (k : Int) + 1 < 0 by omega)]
                refine iteF ?_
                exact ⟨rfl, k + 1, _, rfl, hk⟩
              · rw [decide_eq_false (show ¬ [c] = [49] from fun z => ec (List.cons.inj z).1)]
                refine iteF ?_
                refine ⟨_, rfl, _, _, rfl, rfl, _, rfl, _, _, rfl, rfl, _, rfl, ?_⟩
                cases k with
                | zero =>
                  refine iteT ?_
                  rw [hgt_zero ec] at hk
                  refine out2 false ?_
                  rw [hk]
                  rfl
                | succ k =>
                  rw [hgt_down ec] at hk
                  rw [decide_eq_false (show ¬ ((k + 1 : Nat) : Int) + -1 < 0 by omega)]
                  refine iteF ?_
                  refine ⟨rfl, k, some (.str (S [c])), ?_, hk⟩
                  have e5 : ((k + 1 : Nat) : Int) + -1 = (k : Int) := by omega
                  show [some (V.str (S a)), some (V.int (((k + 1 : Nat) : Int) + -1)), some (V.str (S [c]))] = _
                  rw [e5]
            · rintro σ H' ⟨rfl, k, v2, rfl, hk⟩
              rw [List.drop_length] at hk
              refine ⟨_, rfl, rfl, ?_⟩
              refine out2 _ ?_
              rw [hk]
              show (some k == some 0) = _
              cases k with
              | zero => rfl
              | succ k =>
                rw [decide_eq_false (show ¬ V.int ((k + 1 : Nat) : Int) = V.int 0 from fun z => by have := V.int.inj z; omega)]
                rfl
        · refine ⟨_, rfl, iteT ?_⟩
          refine out false ?_
          have hn : ¬ 2 ≤ a.length := fun z => e2 (decide_eq_true (by omega))
          unfold isWd
          rw [decide_eq_false hn, Bool.false_and, Bool.and_false, Bool.false_and]
      · rw [Bool.eq_false_iff.mpr e1]
        refine iteT ?_
        have : isWd a = false := by
          unfold isWd
          rw [Bool.eq_false_iff.mpr e1]
          rfl
        rw [this] at q
        exact q
    · rw [(tyb_nostr ht e0).1]
      rw [(tyb_nostr ht e0).2] at q
      refine iteT ?_
      exact q
theorem ok_check_word {f : Addr} {fd : FuncData} (F : Fun K "check_word" "check_word" s_check_word f fd) (T : Txt K mg) (c_is_word : Cl P w K mg base 2 "is_word" (spWord K)) : FnOk P w K mg base CX0 3 f fd ["value", "part"] spCkWord := by
  have nd := sc_check_word.nd
  refine F.ok sc_check_word (fun vs H Q E h => ?_) (fun cdv A outer s H vs Q E hr h => ?_)
  · obtain ⟨a, p, rfl, _⟩ := h
    rfl
  · obtain ⟨a, p, rfl, ha, q⟩ := h
    have l := (isWd_of ha).2.2.1
    refine ⟨_, (pss_one (ps_if (pt_not (pt_val (pe_f c_is_word hr (by decide) (by rfl) (pa_cons (pv 0) pa_nil))))
 (pss_one ps_never)
 pss_nil)), ?_⟩
    refine ⟨_, rfl, _, _, rfl, .str _, sht_S (Nat.le_trans l (by decide)), _, rfl, ?_⟩
    have e : wdV (.str (S a)) = isWd a := rfl
    rw [e, ha]
    exact iteF q
end

/-! ### small data -/
theorem gd2b {K : PySem.W.Frag} {H : Hp} {p : Addr} {a b : Bool} (h : SqL K H p [.bl a, .bl b]) : GD K H (.ref p) (.list [.bool a, .bool b]) :=
  GD.of h (.cons (.bl _) (.cons (.bl _) .nil)) (by simp only [okDs, okD, Bool.and_self]) (by simp only [PyData.bulkAll, PyData.bulk]; decide) (by simp only [PyData.depthAll, PyData.depth]; decide)
theorem gd2i {K : PySem.W.Frag} {H : Hp} {p : Addr} {a b : Int} (h : SqL K H p [.int a, .int b]) (ha : a.natAbs.log2 < 900) (hb : b.natAbs.log2 < 900) : GD K H (.ref p) (.list [.int a, .int b]) :=
  GD.of h (.cons (.int _) (.cons (.int _) .nil)) (by simp only [okDs, okD, decide_eq_true ha, decide_eq_true hb, Bool.and_self]) (by simp only [PyData.bulkAll, PyData.bulk]; decide) (by simp only [PyData.depthAll, PyData.depth]; decide)
theorem dp_sgs {K : PySem.W.Frag} {H : Hp} : ∀ a : List Nat, DpAll K H (sgs a) (a.map fun c => PyData.str (S [c]))
  | [] => .nil
  | c :: cs => .cons (.str _) (dp_sgs cs)
theorem sh_sgs (a : List Nat) (ha : a.all (fun c => decide (c < 1114112)) = true) : SeqAt.shaped (.list (a.map fun c => PyData.str (S [c]))) = true := by
  have h : ∀ a : List Nat, a.all (fun c => decide (c < 1114112)) = true → PyData.canLayAll0 (a.map fun c => PyData.str (S [c])) = true ∧ PyData.depthAll (a.map fun c => PyData.str (S [c])) = 0 := by
    intro a
    induction a with
    | nil => exact fun _ => ⟨rfl, rfl⟩
    | cons c cs ih =>
      intro h
      rw [List.all_cons, Bool.and_eq_true] at h
      have e1 : PyData.canLay0 (PyData.str (S [c])) = true := by
        simp only [PyData.canLay0, PyData.strOk]
        rw [← Array.all_toList, List.all_eq_true]
        intro x hx
        have : x = c := by simpa using hx
        subst this
        exact h.1
      simp only [List.map_cons, PyData.canLayAll0, PyData.depthAll, PyData.depth, e1, (ih h.2).1, (ih h.2).2, Bool.and_self, Nat.max_self, and_self]
  unfold SeqAt.shaped
  simp only [PyData.canLay0, PyData.depth, (h a ha).1, (h a ha).2]
  rfl
theorem gdb {K : PySem.W.Frag} {H : Hp} {b : Bool} : GD K H (.bl b) (.bool b) := ⟨.bl _, by simp only [okD], by simp only [PyData.bulk]; decide, by simp only [PyData.depth]; decide⟩
theorem eqv_nil : ∀ ys : List Nat, PyData.eqv (.list (ys.map fun c => PyData.str (S [c]))) (.list []) = decide (ys = [])
  | [] => by rw [List.map_nil, decide_eq_true rfl]; exact SeqAt.eqv_refl _ (by decide)
  | c :: cs => by
    rw [decide_eq_false (List.cons_ne_nil _ _), List.map_cons]
    simp only [PyData.eqv, PyData.eqvAll]
def offs (r : List Nat) : List Nat := r.filter fun c => !decide (c ∈ [48, 49])
theorem offs_sg : ∀ r : List Nat, decide (offs r = []) = sg r
  | [] => rfl
  | c :: r => by
    have ih := offs_sg r
    unfold offs at ih ⊢
    have e : sg (c :: r) = ((c == 48 || c == 49) && sg r) := rfl
    rw [e, List.filter_cons]
    by_cases h : c ∈ [48, 49]
    · rw [decide_eq_true h]
      have h2 : (c == 48 || c == 49) = true := by simpa using h
      rw [h2, Bool.true_and, ← ih]
      rfl
    · rw [decide_eq_false h]
      have h2 : (c == 48 || c == 49) = false := by simpa using h
      rw [h2]
      simp
theorem flat_ones : ∀ ys : List Nat, (ys.map fun c => [c]).flatten = ys
  | [] => rfl
  | c :: r => by rw [List.map_cons, List.flatten_cons, flat_ones r]; rfl
theorem sgs_map (ys : List Nat) : sgs ys = (ys.map fun c => [c]).map fun y => V.str (S y) := by
  unfold sgs
  rw [List.map_map]
  rfl

/-! ### signs exchanged -/
def exch (a : List Nat) : List Nat := a.map fun c => if c = 49 then 48 else 49
def spExch : Sp := fun vs H Q _ => ∃ a : List Nat, vs = [.str (S a)] ∧ a.length ≤ 900 ∧ ∀ H', Same H H' → Q (.str (S (exch a))) H'
section
variable {P : Program} {w : World} {K : PySem.W.Frag} {mg : Str → Option Value} {base : Heap}
theorem ok_exchanged_signs {f : Addr} {fd : FuncData} (F : Fun K "exchanged_signs" "exchanged_signs" s_exchanged_signs f fd) (T : Txt K mg) : FnOk P w K mg base CX0 1 f fd ["signs"] spExch := by
  have nd := sc_exchanged_signs.nd
  refine F.ok sc_exchanged_signs (fun vs H Q E h => ?_) (fun cdv A outer s H vs Q E hr h => ?_)
  · obtain ⟨a, rfl, _⟩ := h
    rfl
  · obtain ⟨a, rfl, ha, q⟩ := h
    refine ⟨_, (pss_one (ps_ret (pe_m1 PySem.F.slot_str_join PySem.F.type_str_join mt_joinS (pe_lit (l := []) (by decide +kernel)) (pe_lc (own := [("sign", 1)]) rfl nd (pi_str (pv 0)) (blkOk_by (N := N_exchanged_signs) (sc := defScope s_exchanged_signs) (by decide +kernel)) (fun _ _ _ _ _ => (pg_name (i := 1) nd rfl (by first | exact Or.inl rfl | exact Or.inr rfl))) (fun _ _ _ _ _ => pts_nil) (fun _ _ _ _ _ => (pe_ifExp (pt_cmpR op_eq_S (pv 1) (pe_lit (l := [49]) (by decide +kernel)) (nomark _)) (pe_lit (l := [48]) (by decide +kernel)) (pe_lit (l := [49]) (by decide +kernel)))))))), ?_⟩
    refine ⟨⟨_, rfl⟩, _, rfl, S a, rfl, fun D nD => ?_⟩
    refine lc_S (a := a) (fun j H1 => Same H H1 ∧ H1 D = some (.lst (sgs (exch (a.take j))))) ⟨same_new nD, upd_same⟩ ?_ ?_
    · rintro j c H1 hc ⟨sm, hD⟩
      refine ⟨rfl, ?_⟩
      dsimp only [tYes]
      rw [if_pos rfl]
      have tk : a.take (j + 1) = a.take j ++ [c] := by rw [List.take_add_one, hc]; rfl
      have ln : (sgs (exch (a.take j))).length < sizeLine := by
        unfold sgs exch
        rw [List.length_map, List.length_map, List.length_take]
        exact small1000 (by omega)
      have pu : ∀ d : Nat, d = (if c = 49 then 48 else 49) → (upd H1 D (.lst (sgs (exch (a.take j)) ++ [.str (S [d])]))) D = some (.lst (sgs (exch (a.take (j + 1))))) := fun d e => by
        rw [upd_same, tk, e]
        unfold sgs exch
        rw [List.map_append, List.map_append]
        rfl
      refine ⟨_, rfl, [c], [49], rfl, rfl, _, rfl, ?_⟩
      by_cases e : c = 49
      · rw [decide_eq_true (by rw [e])]
        exact iteT ⟨_, hD, ln, same_put sm nD, pu 48 (by rw [if_pos e])⟩
      · rw [decide_eq_false (fun z => e (List.cons.inj z).1)]
        exact iteF ⟨_, hD, ln, same_put sm nD, pu 49 (by rw [if_neg e])⟩
    · rintro H1 ⟨sm, hD⟩
      rw [List.take_length, sgs_map] at hD
      refine ⟨D, _, rfl, rfl, .inl (SqL.of hD), ?_, ?_⟩
      · rw [flat_ones]
        unfold exch
        rw [List.length_map]
        omega
      · rw [flat_ones]
        exact q H1 sm
end

/-! ### states -/
def isSt (a : List Nat) : Bool := sg a && (decide (3 ≤ a.length) && decide (a.length ≤ 401)) && (decide (a.length % 2 = 1) && (decide (a.count 49 = a.length / 2) || decide (a.count 49 = a.length / 2 + 1)))
theorem isSt_of {a : List Nat} (h : isSt a = true) : sg a = true ∧ 3 ≤ a.length ∧ a.length ≤ 401 ∧ a.length % 2 = 1 ∧ (a.count 49 = a.length / 2 ∨ a.count 49 = a.length / 2 + 1) := by
  unfold isSt at h
  simp only [Bool.and_eq_true, Bool.or_eq_true, decide_eq_true_eq] at h
  exact ⟨h.1.1, h.1.2.1, h.1.2.2, h.2.1, h.2.2⟩
theorem isSt_mk {a : List Nat} (h1 : sg a = true) (h2 : 3 ≤ a.length) (h3 : a.length ≤ 401) (h4 : a.length % 2 = 1) (h5 : a.count 49 = a.length / 2 ∨ a.count 49 = a.length / 2 + 1) : isSt a = true := by
  unfold isSt
  simp only [Bool.and_eq_true, Bool.or_eq_true, decide_eq_true_eq]
  exact ⟨⟨h1, h2, h3⟩, h4, h5⟩
def stV : V → Bool
  | .str z => isSt z.cps.toList
  | _ => false
def spState (K : PySem.W.Frag) : Sp := fun vs H Q _ => ∃ (v : V) (t : String), vs = [v] ∧ TyB K H v t ∧ Sht v ∧ ∀ H', Same H H' → Q (.bl (stV v)) H'
/-- value, part: nothing, or BadState(part), its class at C -/
theorem tyb_st {K : PySem.W.Frag} {H : Hp} {v : V} {t : String} (h : TyB K H v t) (e : ¬ (t == "str") = true) : stV v = false := by
  cases h with
  | str z => exact absurd (by decide) e
  | _ => rfl
theorem stV_S {v : V} (h : stV v = true) : ∃ a, v = .str (S a) ∧ isSt a = true := by
  cases v with
  | str z =>
    refine ⟨z.cps.toList, by rw [S_tl], h⟩
  | _ => cases h
section
variable {P : Program} {w : World} {K : PySem.W.Frag} {mg : Str → Option Value} {base : Heap}
theorem ok_is_state {f : Addr} {fd : FuncData} (F : Fun K "is_state" "is_state" s_is_state f fd) (T : Txt K mg) (c_is_signs : Cl P w K mg base 1 "is_signs" (spSigns K)) : FnOk P w K mg base CX0 2 f fd ["value"] (spState K) := by
  have nd := sc_is_state.nd
  refine F.ok sc_is_state (fun vs H Q E h => ?_) (fun cdv A outer s H vs Q E hr h => ?_)
  · obtain ⟨v, t, rfl, _⟩ := h
    rfl
  · obtain ⟨v, t, rfl, ht, hz, q⟩ := h
    refine ⟨_, (pss_cons (ps_if (PW.pt (pw_or (pt_not (pt_val (pe_f c_is_signs hr (by decide) (by rfl) (pa_cons (pv 0) pa_nil)))) (pw_or1 (pt_not (pt_chain op_le op_le pe_int (pe_callB call_len_S (by rfl) T.n_len (by decide +kernel) (pa_cons (pv 0) pa_nil)) (pe_op op_add (pe_op op_mul pe_int (pe_cst T.c_MOST_PAIRS (by rfl))) pe_int))))))
 (pss_one (ps_ret pe_bl))
 pss_nil)
 (pss_one (ps_ret (pe_and (pe_cmpR op_eq (pe_op op_mod (pe_callB call_len_S (by rfl) T.n_len (by decide +kernel) (pa_cons (pv 0) pa_nil)) pe_int) pe_int (nomark _)) (pe_one (pe_cmpR (show OpR _ _ (rIn K false) from op_in_seq) (pe_op op_sub (pe_m1 PySem.F.slot_str_count PySem.F.type_str_count mt_countS (pv 0) (pe_lit (l := [49]) (by decide +kernel))) (pe_op op_fdiv (pe_callB call_len_S (by rfl) T.n_len (by decide +kernel) (pa_cons (pv 0) pa_nil)) pe_int)) (pe_tup (pa_cons pe_int (pa_cons pe_int pa_nil))) (by rfl))))))), ?_⟩
    refine ⟨_, rfl, v, t, rfl, ht, hz, _, rfl, ?_⟩
    by_cases e0 : (t == "str") = true
    · obtain ⟨a, rfl⟩ := tyb_str ht e0
      have ha : a.length ≤ sizeLine := by
        have := hz _ rfl
        rwa [S_len] at this
      have es : sgV (.str (S a)) = sg a := rfl
      have ew : stV (.str (S a)) = isSt a := rfl
      rw [ew] at q
      rw [es]
      have out : ∀ (b : Bool), isSt a = b → ∀ H', Same H H' → Q (.bl b) H' := fun b e => by rw [← e]; exact q
      by_cases e1 : sg a = true
      · rw [e1]
        refine iteF ?_
        refine ⟨_, rfl, a, rfl, ha, _, _, rfl, rfl, _, rfl, ?_⟩
        refine ite2 (fun e2 => ?_) (fun e2 => ?_)
        · refine ⟨_, _, rfl, rfl, .inl ⟨by decide, by decide⟩, _, _, rfl, rfl, _, _, rfl, rfl, _, rfl, ?_⟩
          have c2 := (decide_eq_true_eq.mp e2 : (3 : Int) ≤ ((a.length : Nat) : Int))
          refine ite2 (fun e3 => ?_) (fun e3 => ?_)
          · refine out false ?_ _ fun _ _ e => e
            have hn : ¬ a.length ≤ 401 := fun z => by
              rw [decide_eq_true (show ((a.length : Nat) : Int) ≤ 2 * 200 + 1 by omega)] at e3
              exact absurd e3 (by decide)
            unfold isSt
            rw [decide_eq_false hn, Bool.and_false, Bool.and_false, Bool.false_and]
          · have l3 : a.length ≤ 401 := by
              rcases Nat.lt_or_ge 401 a.length with h | h
              · rw [decide_eq_false (show ¬ ((a.length : Nat) : Int) ≤ 2 * 200 + 1 by omega)] at e3
                exact absurd rfl e3
              · exact h
            have l2 : 3 ≤ a.length := by omega
            have out2 : ∀ (b : Bool), (decide (a.length % 2 = 1) && (decide (a.count 49 = a.length / 2) || decide (a.count 49 = a.length / 2 + 1))) = b → ∀ H', Same H H' → Q (.bl b) H' := fun b e => out b (by
              unfold isSt
              rw [e1, decide_eq_true l2, decide_eq_true l3, e]
              rfl)
            refine ⟨_, rfl, a, rfl, ha, _, _, rfl, rfl, by show (0 : Int) < 2; decide, rfl, _, rfl, ?_⟩
            dsimp only
            by_cases e4 : a.length % 2 = 1
            · rw [decide_eq_true (show V.int (((a.length : Nat) : Int) % 2) = V.int 1 from congrArg V.int (by omega))]
              refine iteT ?_
              refine ⟨_, rfl, ⟨_, rfl⟩, a, 49, rfl, rfl, _, rfl, a, rfl, ha, _, _, rfl, rfl, ⟨by decide, by decide⟩, _, _, rfl, rfl, by show 2 ≤ sizeLine; decide, fun p np => ⟨p, _, rfl, .inr (SqT.of upd_same), rfl, rfl, ?_⟩⟩
              refine out2 _ ?_ _ (same_new np)
              rw [decide_eq_true e4, Bool.true_and]
              have i1 : ∀ z : Int, inV (.int z) [.int 0, .int 1] = (decide (z = 0) || decide (z = 1)) := fun z => by
                show (eqV (.int 0) (.int z) || (eqV (.int 1) (.int z) || false)) = _
                have h : ∀ k : Int, eqV (.int k) (.int z) = decide (z = k) := fun k => by
                  by_cases e : z = k
                  · subst e
                    rw [decide_eq_true rfl]
                    first | exact beq_self_eq_true _ | simp [eqV]
                  · rw [decide_eq_false e]
                    first | exact beq_false_of_ne (Ne.symm e) | (simp [eqV]; omega)
                rw [h, h, Bool.or_false]
              show _ = inV (.int (((a.count 49 : Nat) : Int) - ((a.length : Nat) : Int) / 2)) [.int 0, .int 1]
              rw [i1]
              have h1 : decide (a.count 49 = a.length / 2) = decide (((a.count 49 : Nat) : Int) - ((a.length : Nat) : Int) / 2 = 0) := decide_eq_decide.mpr (by omega)
              have h2 : decide (a.count 49 = a.length / 2 + 1) = decide (((a.count 49 : Nat) : Int) - ((a.length : Nat) : Int) / 2 = 1) := decide_eq_decide.mpr (by omega)
              rw [h1, h2]
            · rw [decide_eq_false (show ¬ V.int (((a.length : Nat) : Int) % 2) = V.int 1 from fun z => by have := V.int.inj z; omega)]
              refine iteF ?_
              refine out2 false ?_ _ fun _ _ e => e
              rw [decide_eq_false e4, Bool.false_and]
        · refine ⟨_, rfl, iteT ?_⟩
          refine out false ?_ _ fun _ _ e => e
          have hn : ¬ 3 ≤ a.length := fun z => e2 (decide_eq_true (by omega))
          unfold isSt
          rw [decide_eq_false hn, Bool.false_and, Bool.and_false, Bool.false_and]
      · rw [Bool.eq_false_iff.mpr e1]
        refine iteT ?_
        refine out false ?_ _ fun _ _ e => e
        unfold isSt
        rw [Bool.eq_false_iff.mpr e1]
        rfl
    · rw [(tyb_nostr ht e0).1]
      rw [tyb_st ht e0] at q
      refine iteT ?_
      exact q _ fun _ _ e => e
end

/-! ### states, where nothing is refused -/
def spCkSt0 : Sp := fun vs H Q _ => ∃ (a : List Nat) (p : V), vs = [.str (S a), p] ∧ isSt a = true ∧ ∀ H', Same H H' → Q .non H'
section
variable {P : Program} {w : World} {K : PySem.W.Frag} {mg : Str → Option Value} {base : Heap}
theorem ok_check_state {f : Addr} {fd : FuncData} (F : Fun K "check_state" "check_state" s_check_state f fd) (T : Txt K mg) (c_is_state : Cl P w K mg base 2 "is_state" (spState K)) : FnOk P w K mg base CX0 3 f fd ["value", "part"] spCkSt0 := by
  have nd := sc_check_state.nd
  refine F.ok sc_check_state (fun vs H Q E h => ?_) (fun cdv A outer s H vs Q E hr h => ?_)
  · obtain ⟨a, p, rfl, _⟩ := h
    rfl
  · obtain ⟨a, p, rfl, ha, q⟩ := h
    refine ⟨_, (pss_one (ps_if (pt_not (pt_val (pe_f c_is_state hr (by decide) (by rfl) (pa_cons (pv 0) pa_nil))))
 (pss_one ps_never)
 pss_nil)), ?_⟩
    refine ⟨_, rfl, _, "str", rfl, .str _, sht_S (Nat.le_trans (isSt_of ha).2.2.1 (by decide)), fun H1 s1 => ⟨_, rfl, ?_⟩⟩
    have e : stV (.str (S a)) = isSt a := rfl
    rw [e, ha]
    exact iteF (q H1 s1)
end

/-! ### words as rows of trees; the gaps of their pairs -/
inductive Bw where
  | nil : Bw
  | node : Bw → Bw → Bw
namespace Bw
def w : Bw → List Nat
  | nil => []
  | node u v => 49 :: (u.w ++ 48 :: v.w)
def n (b : Bw) : Nat := b.w.length
theorem n_node (u v : Bw) : (node u v).n = u.n + v.n + 2 := by
  show (49 :: (u.w ++ 48 :: v.w)).length = _
  rw [List.length_cons, List.length_append, List.length_cons]
  unfold n
  omega
theorem n_nil : nil.n = 0 := rfl
theorem w_ok : ∀ (b : Bw) (h : Nat), sg b.w = true ∧ hgt h b.w = some h
  | nil, h => ⟨rfl, rfl⟩
  | node u v, h => by
    refine ⟨?_, ?_⟩
    · show ((49 == 48 || 49 == 49) && sg (u.w ++ 48 :: v.w)) = true
      rw [sg_app, (w_ok u 0).1]
      show (true && (true && ((48 == 48 || 48 == 49) && sg v.w))) = true
      rw [(w_ok v 0).1]
      rfl
    · show hgt h (49 :: (u.w ++ 48 :: v.w)) = some h
      rw [hgt_up, hgt_app, (w_ok u (h + 1)).2]
      show hgt (h + 1) (48 :: v.w) = some h
      rw [hgt_down (by decide)]
      exact (w_ok v h).2
theorem sg_tail {c : Nat} {r : List Nat} (h : sg (c :: r) = true) : (c = 48 ∨ c = 49) ∧ sg r = true := by
  have : ((c == 48 || c == 49) && sg r) = true := h
  simp only [Bool.and_eq_true, Bool.or_eq_true, beq_iff_eq] at this
  exact this
theorem parse : ∀ (k : Nat) (a : List Nat) (h : Nat), a.length ≤ k → sg a = true → hgt h a = some 0 → ∃ (b : Bw) (r : List Nat), a = b.w ++ r ∧ (h = 0 → r = []) ∧ (∀ j, h = j + 1 → ∃ r', r = 48 :: r' ∧ hgt j r' = some 0 ∧ sg r' = true)
  | k, [], h, _, _, e => by
    have : h = 0 := Option.some.inj e
    subst this
    exact ⟨nil, [], rfl, (fun _ => rfl), (fun j hj => nomatch hj)⟩
  | 0, c :: t, h, hl, _, _ => absurd hl (by rw [List.length_cons]; omega)
  | k + 1, c :: t, h, hl, hs, e => by
    rw [List.length_cons] at hl
    obtain ⟨h2, st⟩ := sg_tail hs
    rcases h2 with rfl | rfl
    · cases h with
      | zero => rw [hgt_zero (by decide)] at e; cases e
      | succ j =>
        rw [hgt_down (by decide)] at e
        exact ⟨nil, 48 :: t, rfl, (fun z => nomatch z), fun i hi => ⟨t, rfl, by rw [← Nat.succ.inj hi]; exact e, st⟩⟩
    · rw [hgt_up] at e
      obtain ⟨u, r, e1, _, e3⟩ := parse k t (h + 1) (by omega) st e
      obtain ⟨r', rfl, e4, s4⟩ := e3 h rfl
      have ll : t.length = u.w.length + (r'.length + 1) := by rw [e1, List.length_append, List.length_cons]
      obtain ⟨v, r2, e5, e6, e7⟩ := parse k r' h (by omega) s4 e4
      refine ⟨node u v, r2, ?_, e6, e7⟩
      rw [e1, e5]
      show _ = 49 :: (u.w ++ 48 :: v.w) ++ r2
      simp
theorem of_word {a : List Nat} (hs : sg a = true) (h : hgt 0 a = some 0) : ∃ b : Bw, a = b.w := by
  obtain ⟨b, r, e, e0, _⟩ := parse a.length a 0 (Nat.le_refl _) hs h
  rw [e0 rfl, List.append_nil] at e
  exact ⟨b, e⟩
/-- from a sign to its partner's: how far, on or back -/
def gf : Bw → Nat → Int
  | nil, _ => 0
  | node u v, i => if i = 0 then (u.n + 1 : Nat) else if i ≤ u.n then gf u (i - 1) else if i = u.n + 1 then -((u.n + 1 : Nat) : Int) else gf v (i - u.n - 2)
theorem gf_0 (u v : Bw) : gf (node u v) 0 = (u.n + 1 : Nat) := by
  show (if 0 = 0 then _ else _) = _
  rw [if_pos rfl]
theorem gf_u (u v : Bw) {i : Nat} (h1 : 1 ≤ i) (h2 : i ≤ u.n) : gf (node u v) i = gf u (i - 1) := by
  show (if i = 0 then _ else if i ≤ u.n then _ else _) = _
  rw [if_neg (by omega), if_pos h2]
theorem gf_m (u v : Bw) : gf (node u v) (u.n + 1) = -((u.n + 1 : Nat) : Int) := by
  show (if u.n + 1 = 0 then _ else if u.n + 1 ≤ u.n then _ else if u.n + 1 = u.n + 1 then _ else _) = _
  rw [if_neg (by omega), if_neg (by omega), if_pos rfl]
theorem gf_v (u v : Bw) {i : Nat} (h : u.n + 2 ≤ i) : gf (node u v) i = gf v (i - u.n - 2) := by
  show (if i = 0 then _ else if i ≤ u.n then _ else if i = u.n + 1 then _ else _) = _
  rw [if_neg (by omega), if_neg (by omega), if_neg (by omega)]
theorem gf_in : ∀ (b : Bw) (k : Nat), k < b.n → 0 ≤ (k : Int) + gf b k ∧ (k : Int) + gf b k < b.n ∧ ((b.w[k]? = some 49 ∧ 0 < gf b k) ∨ (b.w[k]? = some 48 ∧ gf b k < 0))
  | nil, k, h => absurd h (Nat.not_lt_zero _)
  | node u v, k, h => by
    rw [n_node] at h ⊢
    have e : (node u v).w = 49 :: (u.w ++ 48 :: v.w) := rfl
    rw [e]
    have un : u.w.length = u.n := rfl
    have vn : v.w.length = v.n := rfl
    by_cases h0 : k = 0
    · subst h0
      rw [gf_0]
      refine ⟨by omega, by omega, .inl ⟨rfl, by omega⟩⟩
    · obtain ⟨j, rfl⟩ : ∃ j, k = j + 1 := ⟨k - 1, by omega⟩
      rw [List.getElem?_cons_succ]
      by_cases h1 : j + 1 ≤ u.n
      · rw [gf_u u v (by omega) h1, Nat.add_sub_cancel, List.getElem?_append_left (by omega)]
        obtain ⟨a1, a2, a3⟩ := gf_in u j (by omega)
        exact ⟨by omega, by omega, a3⟩
      · rw [List.getElem?_append_right (by omega), un]
        by_cases h2 : j = u.n
        · subst h2
          rw [gf_m, Nat.sub_self]
          exact ⟨by omega, by omega, .inr ⟨rfl, by omega⟩⟩
        · rw [gf_v u v (by omega)]
          obtain ⟨i, rfl⟩ : ∃ i, j = u.n + 1 + i := ⟨j - u.n - 1, by omega⟩
          have e1 : u.n + 1 + i - u.n = i + 1 := by omega
          have e2 : u.n + 1 + i + 1 - u.n - 2 = i := by omega
          rw [e1, e2, List.getElem?_cons_succ]
          obtain ⟨a1, a2, a3⟩ := gf_in v i (by omega)
          exact ⟨by omega, by omega, a3⟩
/-- one behind another -/
def app : Bw → Bw → Bw
  | nil, c => c
  | node u v, c => node u (app v c)
theorem app_w : ∀ b c : Bw, (app b c).w = b.w ++ c.w
  | nil, c => rfl
  | node u v, c => by
    show 49 :: (u.w ++ 48 :: (app v c).w) = 49 :: (u.w ++ 48 :: v.w) ++ c.w
    rw [app_w v c]
    simp
theorem app_n (b c : Bw) : (app b c).n = b.n + c.n := by
  unfold n
  rw [app_w, List.length_append]
theorem gf_app : ∀ (b c : Bw) (i : Nat), gf (app b c) i = if i < b.n then gf b i else gf c (i - b.n)
  | nil, c, i => by
    rw [n_nil, if_neg (Nat.not_lt_zero _)]
    rfl
  | node u v, c, i => by
    show gf (node u (app v c)) i = _
    rw [n_node]
    by_cases h0 : i = 0
    · subst h0
      rw [gf_0, if_pos (by omega), gf_0]
    · by_cases h1 : i ≤ u.n
      · rw [gf_u _ _ (by omega) h1, if_pos (by omega), gf_u _ _ (by omega) h1]
      · by_cases h2 : i = u.n + 1
        · subst h2
          rw [gf_m, if_pos (by omega), gf_m]
        · rw [gf_v _ _ (by omega), gf_app v c]
          by_cases h3 : i < u.n + v.n + 2
          · rw [if_pos (by omega), if_pos h3, gf_v _ _ (by omega)]
          · rw [if_neg (by omega), if_neg h3]
            congr 1
            omega
/-- turned: 1 u 0 v becomes u 1 v 0 -/
def turn : Bw → Bw
  | nil => nil
  | node u v => app u (node v nil)
theorem turn_w (u v : Bw) : (turn (node u v)).w = u.w ++ 49 :: (v.w ++ [48]) := app_w _ _
theorem turn_n : ∀ b : Bw, (turn b).n = b.n
  | nil => rfl
  | node u v => by
    show (app u (node v nil)).n = _
    rw [app_n, n_node, n_node, n_nil]
    omega
/-- the gap on, all around -/
def gap (b : Bw) (k : Nat) : Int := if 0 < gf b k then gf b k else (b.n : Int) + gf b k
theorem gap_turn (b : Bw) (k : Nat) (h : k < b.n) : gap (turn b) k = gap b ((k + 1) % b.n) := by
  cases b with
  | nil => exact absurd h (Nat.not_lt_zero _)
  | node u v =>
    have e : gf (turn (node u v)) k = if k < u.n then gf u k else gf (node v nil) (k - u.n) := gf_app _ _ _
    have hn := turn_n (node u v)
    unfold gap
    rw [hn, e]
    rw [n_node] at h ⊢
    by_cases h1 : k < u.n
    · rw [if_pos h1, Nat.mod_eq_of_lt (by omega), gf_u u v (by omega) (by omega), Nat.add_sub_cancel]
    · rw [if_neg h1]
      by_cases h2 : k = u.n
      · subst h2
        rw [Nat.sub_self, gf_0, Nat.mod_eq_of_lt (by omega), gf_m, if_pos (by omega), if_neg (by omega)]
        omega
      · by_cases h3 : k < u.n + v.n + 1
        · rw [gf_u v nil (by omega) (by omega), Nat.mod_eq_of_lt (by omega), gf_v u v (by omega)]
          have e1 : k - u.n - 1 = k + 1 - u.n - 2 := by omega
          rw [e1]
        · have e1 : k - u.n = v.n + 1 := by omega
          have e2 : k + 1 = u.n + v.n + 2 := by omega
          rw [e1, gf_m, e2, Nat.mod_self, gf_0, if_neg (by omega), if_pos (by omega)]
          omega
def turns : Nat → Bw → Bw
  | 0, b => b
  | s + 1, b => turns s (turn b)
theorem turns_n : ∀ (s : Nat) (b : Bw), (turns s b).n = b.n
  | 0, b => rfl
  | s + 1, b => by
    show (turns s (turn b)).n = b.n
    rw [turns_n s, turn_n]
theorem turns_add : ∀ (s t : Nat) (b : Bw), turns (s + t) b = turns t (turns s b)
  | 0, t, b => by rw [Nat.zero_add]; rfl
  | s + 1, t, b => by
    have e : s + 1 + t = (s + t) + 1 := by omega
    rw [e]
    exact turns_add s t (turn b)
theorem gap_turns : ∀ (s : Nat) (b : Bw) (k : Nat), k < b.n → gap (turns s b) k = gap b ((k + s) % b.n)
  | 0, b, k, h => by rw [Nat.add_zero, Nat.mod_eq_of_lt h]; rfl
  | s + 1, b, k, h => by
    show gap (turns s (turn b)) k = _
    have hp : 0 < b.n := by omega
    rw [gap_turns s (turn b) k (by rw [turn_n]; exact h), turn_n, gap_turn b _ (Nat.mod_lt _ hp)]
    congr 1
    rw [Nat.mod_add_mod]
    rfl
/-- the signs that gaps tell -/
theorem sign_gap (b : Bw) (k : Nat) (h : k < b.n) : b.w[k]? = some (if (k : Int) + gap b k < b.n then 49 else 48) := by
  obtain ⟨a1, a2, a3⟩ := gf_in b k h
  unfold gap
  rcases a3 with ⟨e, p⟩ | ⟨e, p⟩
  · rw [if_pos p, if_pos a2, e]
  · rw [if_neg (show ¬ 0 < gf b k by omega), if_neg (show ¬ (k : Int) + ((b.n : Int) + gf b k) < b.n by omega), e]
theorem w_of_gap {b c : Bw} (hn : b.n = c.n) (h : ∀ k, k < b.n → gap b k = gap c k) : b.w = c.w := by
  refine List.ext_getElem? fun k => ?_
  by_cases hk : k < b.n
  · rw [sign_gap b k hk, sign_gap c k (by omega), h k hk, hn]
  · have h1 : b.w.length = b.n := rfl
    have h2 : c.w.length = c.n := rfl
    rw [List.getElem?_eq_none (by omega), List.getElem?_eq_none (by omega)]
theorem w_inj : ∀ b c : Bw, b.w = c.w → b = c
  | nil, nil, _ => rfl
  | nil, node _ _, h => nomatch h
  | node _ _, nil, h => nomatch h
  | node u v, node x y, h => by
    have e : u.w ++ 48 :: v.w = x.w ++ 48 :: y.w := (List.cons.inj h).2
    have key : ∀ (a b : Bw) (r t : List Nat), a.w ++ 48 :: r = b.w ++ 48 :: t → a.w.length < b.w.length → False := by
      intro a b r t e hl
      have h1 : b.w.take (a.w.length + 1) = a.w ++ [48] := by
        have := congrArg (List.take (a.w.length + 1)) e
        rw [List.take_append_of_le_length (l₁ := b.w) (by omega)] at this
        rw [← this, List.take_append, List.take_of_length_le (Nat.le_succ _)]
        have e9 : a.w.length + 1 - a.w.length = 1 := by omega
        rw [e9]
        rfl
      have h2 := (w_ok b 0).2
      have h3 : b.w = (a.w ++ [48]) ++ b.w.drop (a.w.length + 1) := by rw [← h1, List.take_append_drop]
      rw [h3, hgt_app, hgt_app, (w_ok a 0).2] at h2
      cases h2
    have hl : u.w.length = x.w.length := by
      rcases Nat.lt_trichotomy u.w.length x.w.length with h1 | h1 | h1
      · exact (key u x _ _ e h1).elim
      · exact h1
      · exact (key x u _ _ e.symm h1).elim
    obtain ⟨e1, e2⟩ := List.append_inj e hl
    rw [w_inj u x e1, w_inj v y (List.cons.inj e2).2]
instance : DecidableEq Bw := fun a b => decidable_of_iff (a.w = b.w) ⟨w_inj a b, fun h => by rw [h]⟩
theorem turns_full (b : Bw) : turns b.n b = b := by
  refine w_inj _ _ (w_of_gap (turns_n _ _) fun k hk => ?_)
  rw [turns_n] at hk
  rw [gap_turns _ _ _ hk, Nat.add_mod_right, Nat.mod_eq_of_lt hk]
theorem gap_inj {b c : Bw} (hn : b.n = c.n) (h : ∀ k, k < b.n → gap b k = gap c k) : b = c := w_inj _ _ (w_of_gap hn h)
end Bw

/-! ### the program's gaps, and its turns -/
def fset (F : Nat → Int) (i : Nat) (v : Int) : Nat → Int := fun k => if k = i then v else F k
def runF (L : Nat) : List Nat → Nat → (Nat → Int) → List Nat → (Nat → Int)
  | [], _, F, _ => F
  | c :: r, p, F, sk => if c = 49 then runF L r (p + 1) F (p :: sk) else match sk with
    | [] => F
    | s :: t => runF L r (p + 1) (fset (fset F s ((p : Int) - (s : Int))) p ((L : Int) - ((p : Int) - (s : Int)))) t
def putD (L : Nat) : Bw → Nat → (Nat → Int) → (Nat → Int)
  | .nil, _, F => F
  | .node u v, p, F => putD L v (p + u.n + 2) (fset (fset (putD L u (p + 1) F) p (((p + u.n + 1 : Nat) : Int) - (p : Int))) (p + u.n + 1) ((L : Int) - (((p + u.n + 1 : Nat) : Int) - (p : Int))))
theorem run_b (L : Nat) : ∀ (b : Bw) (r : List Nat) (p : Nat) (F : Nat → Int) (sk : List Nat), runF L (b.w ++ r) p F sk = runF L r (p + b.n) (putD L b p F) sk
  | .nil, r, p, F, sk => rfl
  | .node u v, r, p, F, sk => by
    have e : (Bw.node u v).w ++ r = 49 :: (u.w ++ (48 :: (v.w ++ r))) := by
      show (49 :: (u.w ++ 48 :: v.w)) ++ r = _
      simp
    rw [e, Bw.n_node]
    show runF L (u.w ++ (48 :: (v.w ++ r))) (p + 1) F (p :: sk) = _
    rw [run_b L u]
    show runF L (v.w ++ r) (p + 1 + u.n + 1) (fset (fset (putD L u (p + 1) F) p (((p + 1 + u.n : Nat) : Int) - (p : Int))) (p + 1 + u.n) ((L : Int) - (((p + 1 + u.n : Nat) : Int) - (p : Int)))) sk = _
    rw [run_b L v]
    have e1 : p + 1 + u.n = p + u.n + 1 := by omega
    have e2 : p + 1 + u.n + 1 + v.n = p + (u.n + v.n + 2) := by omega
    have e3 : p + 1 + u.n + 1 = p + u.n + 2 := by omega
    rw [e2, e3, e1]
    rfl
theorem putD_at (L : Nat) : ∀ (b : Bw) (p : Nat) (F : Nat → Int) (i : Nat), putD L b p F i = if p ≤ i ∧ i < p + b.n then (if 0 < Bw.gf b (i - p) then Bw.gf b (i - p) else (L : Int) + Bw.gf b (i - p)) else F i
  | .nil, p, F, i => by
    rw [Bw.n_nil, if_neg (by omega)]
    rfl
  | .node u v, p, F, i => by
    show putD L v (p + u.n + 2) _ i = _
    rw [putD_at L v, Bw.n_node]
    by_cases h1 : p + u.n + 2 ≤ i ∧ i < p + u.n + 2 + v.n
    · have e : i - (p + u.n + 2) = i - p - u.n - 2 := by omega
      rw [if_pos h1, if_pos (show p ≤ i ∧ i < p + (u.n + v.n + 2) by omega), Bw.gf_v u v (by omega), e]
    · rw [if_neg h1]
      show (if i = p + u.n + 1 then _ else (if i = p then _ else putD L u (p + 1) F i)) = _
      by_cases h2 : i = p + u.n + 1
      · subst h2
        have e : p + u.n + 1 - p = u.n + 1 := by omega
        rw [if_pos rfl, if_pos (by omega), e, Bw.gf_m, if_neg (by omega)]
        omega
      · rw [if_neg h2]
        by_cases h3 : i = p
        · subst h3
          rw [if_pos rfl, if_pos (by omega), Nat.sub_self, Bw.gf_0, if_pos (by omega)]
          omega
        · rw [if_neg h3, putD_at L u]
          by_cases h4 : p + 1 ≤ i ∧ i < p + 1 + u.n
          · have e : i - (p + 1) = i - p - 1 := by omega
            rw [if_pos h4, if_pos (show p ≤ i ∧ i < p + (u.n + v.n + 2) by omega), Bw.gf_u u v (by omega) (by omega), e]
          · rw [if_neg h4, if_neg (by omega)]
theorem run_gap (b : Bw) (k : Nat) (h : k < b.n) : runF b.n b.w 0 (fun _ => 0) [] k = Bw.gap b k := by
  have e := run_b b.n b [] 0 (fun _ => 0) []
  rw [List.append_nil] at e
  rw [e]
  show putD b.n b 0 (fun _ => 0) k = _
  rw [putD_at, if_pos (by omega), Nat.sub_zero]
  rfl
def gapL (b : Bw) : List V := (List.range b.n).map fun k => V.int (Bw.gap b k)
theorem gapL_len (b : Bw) : (gapL b).length = b.n := by unfold gapL; rw [List.length_map, List.length_range]
theorem map_fset (L : Nat) (F : Nat → Int) (i : Nat) (v : Int) : ((List.range L).map fun k => V.int (F k)).set i (.int v) = (List.range L).map fun k => V.int (fset F i v k) := by
  refine List.ext_getElem? fun k => ?_
  rw [List.getElem?_set, List.getElem?_map, List.getElem?_map]
  by_cases hk : k < L
  · rw [List.getElem?_range hk]
    unfold fset
    by_cases e : i = k
    · subst e
      rw [if_pos rfl, if_pos (by rw [List.length_map, List.length_range]; exact hk)]
      simp
    · rw [if_neg e]
      simp [Ne.symm e]
  · have e0 : (List.range L)[k]? = none := List.getElem?_eq_none (by rw [List.length_range]; omega)
    rw [e0]
    by_cases e : i = k
    · subst e
      rw [if_pos rfl, if_neg (by rw [List.length_map, List.length_range]; exact hk)]
      rfl
    · rw [if_neg e]
      rfl
theorem rot_gap (b : Bw) (s : Nat) (hs : s < b.n) : (gapL b).drop s ++ (gapL b).take s = gapL (Bw.turns s b) := by
  refine List.ext_getElem? fun k => ?_
  have hl := gapL_len b
  have hl2 := gapL_len (Bw.turns s b)
  have hn := Bw.turns_n s b
  by_cases hk : k < b.n
  · have r2 : (gapL (Bw.turns s b))[k]? = some (.int (Bw.gap b ((k + s) % b.n))) := by
      unfold gapL
      rw [List.getElem?_map, hn, List.getElem?_range hk]
      show some (V.int (Bw.gap (Bw.turns s b) k)) = _
      rw [Bw.gap_turns s b k hk]
    rw [r2]
    by_cases h1 : k < b.n - s
    · rw [List.getElem?_append_left (by rw [List.length_drop, hl]; exact h1), List.getElem?_drop, Nat.mod_eq_of_lt (by omega), Nat.add_comm s k]
      unfold gapL
      rw [List.getElem?_map, List.getElem?_range (by omega)]
      rfl
    · rw [List.getElem?_append_right (by rw [List.length_drop, hl]; omega), List.length_drop, hl]
      have e : (k + s) % b.n = k - (b.n - s) := by
        have e1 : k + s = (k - (b.n - s)) + b.n := by omega
        rw [e1, Nat.add_mod_right, Nat.mod_eq_of_lt (by omega)]
      rw [e, List.getElem?_take_of_lt (by omega)]
      unfold gapL
      rw [List.getElem?_map, List.getElem?_range (by omega)]
      rfl
  · rw [List.getElem?_eq_none (by rw [List.length_append, List.length_drop, List.length_take, hl]; omega), List.getElem?_eq_none (by omega)]
theorem gapL_inj {b c : Bw} (h : gapL b = gapL c) : b = c := by
  have hn : b.n = c.n := by rw [← gapL_len b, ← gapL_len c, h]
  refine Bw.gap_inj hn fun k hk => ?_
  have e := congrArg (fun l : List V => l[k]?) h
  have e2 : (gapL b)[k]? = (gapL c)[k]? := e
  unfold gapL at e2
  rw [List.getElem?_map, List.getElem?_map, List.getElem?_range hk, List.getElem?_range (by omega)] at e2
  exact V.int.inj (Option.some.inj e2)
theorem sq_same {K : PySem.W.Frag} {H H' : Hp} {a : Addr} {xs : List V} (h : Same H H') (s : SqL K H a xs) : SqL K H' a xs := by
  rcases s with (s | ⟨o, s⟩) | s
  · exact .inl (.inl (h _ _ s))
  · exact .inl (.inr ⟨o, h _ _ s⟩)
  · exact .inr s
theorem ixN_nat {n i : Nat} (h : i < n) : ixN n (i : Int) = some i := by
  unfold ixN
  rw [if_pos (by omega), if_pos (by omega), Int.toNat_natCast]
theorem cutV_from (xs : List V) (k : Nat) : cutV xs (some (k : Int)) none = xs.drop k := by
  unfold cutV
  rw [HT.sIx_none, HT.sIx_nat]
  rcases Nat.le_total k xs.length with h | h
  · rw [Nat.min_eq_left h, List.take_of_length_le (by rw [List.length_drop]; exact Nat.le_refl _)]
  · rw [Nat.min_eq_right h, List.drop_eq_nil_of_le (Nat.le_refl _), List.drop_eq_nil_of_le h, List.take_nil]
def spGaps : Sp := fun vs H Q _ => ∃ b : Bw, vs = [.str (S b.w)] ∧ b.n ≤ 400 ∧ ∀ (H' : Hp) (G : Addr), Same H H' → H G = none → H' G = some (.lst (gapL b)) → Q (.ref G) H'
def spMoved (K : PySem.W.Frag) : Sp := fun vs H Q _ => ∃ (A : Addr) (xs : List V) (m : Int), vs = [.ref A, .int m] ∧ SqL K H A xs ∧ 0 < xs.length ∧ xs.length ≤ 2000 ∧ ∀ (H' : Hp) (R : Addr), Same H H' → H R = none → H' R = some (.lst (xs.drop (m % xs.length).toNat ++ xs.take (m % xs.length).toNat)) → Q (.ref R) H'
def spWog (K : PySem.W.Frag) : Sp := fun vs H Q _ => ∃ (A : Addr) (b : Bw), vs = [.ref A] ∧ SqL K H A (gapL b) ∧ b.n ≤ 400 ∧ ∀ H', Same H H' → Q (.str (S b.w)) H'
def spWturn : Sp := fun vs H Q _ => ∃ (b : Bw) (m : Int), vs = [.str (S b.w), .int m] ∧ 0 < b.n ∧ b.n ≤ 400 ∧ ∀ H', Same H H' → Q (.str (S (Bw.turns (m % b.n).toNat b).w)) H'
def spTurnBy (m : Int) : Sp := fun vs H Q _ => ∃ b : Bw, vs = [.str (S b.w)] ∧ 0 < b.n ∧ b.n ≤ 400 ∧ ∀ H', Same H H' → Q (.str (S (Bw.turns (m % b.n).toNat b).w)) H'
theorem Bw.isWd (b : Bw) (h0 : 0 < b.n) (h : b.n ≤ 400) : EH.isWd b.w = true := by
  have h1 := (Bw.w_ok b 0)
  have h2 := (hgt_len _ _ h1.2).2
  have h3 : b.w.length = b.n := rfl
  exact isWd_mk h1.1 (by omega) (by omega) h1.2
section
variable {P : Program} {w : World} {K : PySem.W.Frag} {mg : Str → Option Value} {base : Heap}
end

/-! ### moved round: a list or a text -/
def spMovedS : Sp := fun vs H Q _ => ∃ (a : List Nat) (m : Int), vs = [.str (S a), .int m] ∧ 0 < a.length ∧ a.length ≤ 2000 ∧ Q (.str (S (a.drop (m % a.length).toNat ++ a.take (m % a.length).toNat))) H
def spMv (K : PySem.W.Frag) : Sp := fun vs H Q E => spMoved K vs H Q E ∨ spMovedS vs H Q E
section
variable {P : Program} {w : World} {K : PySem.W.Frag} {mg : Str → Option Value} {base : Heap}
theorem ok_moved_round {f : Addr} {fd : FuncData} (F : Fun K "moved_round" "moved_round" s_moved_round f fd) (T : Txt K mg) : FnOk P w K mg base CX0 1 f fd ["items", "many"] (spMv K) := by
  have nd := sc_moved_round.nd
  refine F.ok sc_moved_round (fun vs H Q E h => ?_) (fun cdv A outer s H vs Q E hr h => ?_)
  · rcases h with ⟨A, xs, m, rfl, _⟩ | ⟨a, m, rfl, _⟩ <;> rfl
  · refine ⟨_, (pss_cons (ps_set (i := 2) nd rfl (by first | exact Or.inl rfl | exact Or.inr rfl) (pe_op op_mod (pv 1) (pe_callB (cr_or (show CallR _ (.builtin "len") (rLenSq K) from call_len_seq) call_len_S) (by rfl) T.n_len (by decide +kernel) (pa_cons (pv 0) pa_nil))))
 (pss_one (ps_ret (pe_op (op_or op_cat op_add_S) (pe_slice (sl_or sl_list sl_S) (pv 0) (po_some (pv 2)) po_none) (pe_slice (sl_or sl_list sl_S) (pv 0) po_none (po_some (pv 2))))))), ?_⟩
    have lz : ∀ n : Nat, n ≤ 2000 → n ≤ sizeLine := fun n h => Nat.le_trans h (by decide)
    rcases h with ⟨A, xs, m, rfl, hA, l0, l1, q⟩ | ⟨a, m, rfl, l0, l1, q⟩
    · have hm0 : 0 ≤ m % (xs.length : Int) := Int.emod_nonneg _ (by omega)
      have hm1 : m % (xs.length : Int) < xs.length := Int.emod_lt_of_pos _ (by omega)
      obtain ⟨k, ek⟩ : ∃ k : Nat, m % (xs.length : Int) = (k : Int) := ⟨(m % (xs.length : Int)).toNat, by omega⟩
      rw [ek, Int.toNat_natCast] at q
      refine ⟨_, rfl, _, rfl, .inl ⟨A, xs, rfl, .inl hA, _, _, rfl, rfl, by show (0 : Int) < xs.length; omega, ?_⟩⟩
      dsimp only
      rw [ek]
      refine ⟨_, rfl, _, rfl, _, rfl, .inl ⟨A, xs, rfl, hA, fun p np => ?_⟩⟩
      refine ⟨_, rfl, _, rfl, _, rfl, .inl ⟨A, xs, rfl, sq_same (same_new np) hA, fun p2 np2 => ?_⟩⟩
      rw [cutV_from] at np2 ⊢
      rw [cut_upto]
      refine .inl ⟨p, p2, _, _, rfl, rfl, same_new np2 _ _ upd_same, upd_same, by rw [List.length_drop, List.length_take]; exact lz _ (by omega), fun R nR => ?_⟩
      refine q _ R (fun x o e => same_new nR _ _ (same_new np2 _ _ (same_new np _ _ e))) ?_ upd_same
      cases e : H R with
      | none => rfl
      | some o =>
        rw [same_new np2 (o := .lst (xs.take k)) _ _ (same_new np (o := .lst (xs.drop k)) _ _ e)] at nR
        cases nR
    · have hm0 : 0 ≤ m % (a.length : Int) := Int.emod_nonneg _ (by omega)
      have hm1 : m % (a.length : Int) < a.length := Int.emod_lt_of_pos _ (by omega)
      obtain ⟨k, ek⟩ : ∃ k : Nat, m % (a.length : Int) = (k : Int) := ⟨(m % (a.length : Int)).toNat, by omega⟩
      rw [ek, Int.toNat_natCast] at q
      refine ⟨_, rfl, _, rfl, .inr ⟨a, rfl, lz _ l1, _, _, rfl, rfl, by show (0 : Int) < a.length; omega, ?_⟩⟩
      dsimp only
      rw [ek]
      refine ⟨_, rfl, _, rfl, _, rfl, .inr ⟨a, rfl, lz _ l1, ?_⟩⟩
      refine ⟨_, rfl, _, rfl, _, rfl, .inr ⟨a, rfl, lz _ l1, ?_⟩⟩
      rw [cutN_from, cutN_to]
      exact .inr ⟨_, _, rfl, rfl, by rw [List.length_drop, List.length_take]; exact lz _ (by omega), q⟩
end

/-! ### the period, all turned words, the mirrored word -/
theorem eqv_ints : ∀ xs ys : List Int, PyData.eqvAll (xs.map PyData.int) (ys.map PyData.int) = decide (xs = ys)
  | [], [] => by simp only [List.map_nil, PyData.eqvAll]; rfl
  | [], y :: ys => by simp only [List.map_nil, List.map_cons, PyData.eqvAll]; exact (decide_eq_false (List.cons_ne_nil _ _).symm).symm
  | x :: xs, [] => by simp only [List.map_nil, List.map_cons, PyData.eqvAll]; exact (decide_eq_false (List.cons_ne_nil _ _)).symm
  | x :: xs, y :: ys => by
    simp only [List.map_cons, PyData.eqvAll, eqv_ints xs ys]
    by_cases h : x = y
    · subst h
      by_cases h2 : xs = ys
      · subst h2
        simp [PyData.eqv]
      · rw [decide_eq_false h2, Bool.and_false, decide_eq_false (fun z => h2 (List.cons.inj z).2)]
    · rw [decide_eq_false (fun z => h (List.cons.inj z).1)]
      simp [PyData.eqv, h]
def gapI (b : Bw) : List Int := (List.range b.n).map fun k => Bw.gap b k
theorem gapL_I (b : Bw) : gapL b = (gapI b).map V.int := by
  unfold gapL gapI
  rw [List.map_map]
  rfl
theorem gapI_eq {b c : Bw} : gapI b = gapI c ↔ b = c := ⟨fun h => gapL_inj (by rw [gapL_I, gapL_I, h]), fun h => by rw [h]⟩
/-- p is the period -/
def Per (b : Bw) (p : Nat) : Prop := 1 ≤ p ∧ p ≤ b.n ∧ Bw.turns p b = b ∧ ∀ q, 1 ≤ q → q < p → Bw.turns q b ≠ b
def spPeriod : Sp := fun vs H Q _ => ∃ b : Bw, vs = [.str (S b.w)] ∧ 0 < b.n ∧ b.n ≤ 400 ∧ ∀ (H' : Hp) (p : Nat), Same H H' → Per b p → Q (.int p) H'
def spTurnsOf : Sp := fun vs H Q _ => ∃ b : Bw, vs = [.str (S b.w)] ∧ 0 < b.n ∧ b.n ≤ 400 ∧ ∀ (H' : Hp) (p : Nat) (R : Addr), Same H H' → H R = none → Per b p → H' R = some (.tup ((List.range p).map fun t => .str (S (Bw.turns t b).w))) → Q (.ref R) H'
def spMirr : Sp := fun vs H Q _ => ∃ b : Bw, vs = [.str (S b.w)] ∧ 0 < b.n ∧ b.n ≤ 400 ∧ ∀ H', Same H H' → Q (.str (S (exch b.w.reverse))) H'
section
variable {P : Program} {w : World} {K : PySem.W.Frag} {mg : Str → Option Value} {base : Heap}
theorem ok_mirrored_word {f : Addr} {fd : FuncData} (F : Fun K "mirrored_word" "mirrored_word" s_mirrored_word f fd) (T : Txt K mg) (c_check_word : Cl P w K mg base 3 "check_word" spCkWord) (c_exchanged_signs : Cl P w K mg base 1 "exchanged_signs" spExch) :
    FnOk P w K mg base CX0 4 f fd ["word"] spMirr := by
  have nd := sc_mirrored_word.nd
  refine F.ok sc_mirrored_word (fun vs H Q E h => ?_) (fun cdv A outer s H vs Q E hr h => ?_)
  · obtain ⟨b, rfl, _⟩ := h
    rfl
  · obtain ⟨b, rfl, h0, hb, q⟩ := h
    have wl : b.w.length = b.n := rfl
    refine ⟨_, (pss_cons (ps_expr (pe_f c_check_word hr (by decide) (by rfl) (pa_cons (pv 0) (pa_cons (pe_lit (l := [119, 111, 114, 100]) (by decide +kernel)) pa_nil))))
 (pss_one (ps_ret (pe_f c_exchanged_signs hr (by decide) (by rfl) (pa_cons (pe_revS (pv 0)) pa_nil))))), ?_⟩
    refine ⟨_, rfl, b.w, _, rfl, Bw.isWd b h0 hb, ?_⟩
    exact ⟨_, rfl, b.w, rfl, Nat.le_trans (by omega : b.w.length ≤ 1000) (by decide), b.w.reverse, rfl, by rw [List.length_reverse]; omega, q⟩
end

/-! ### mirrored trees -/
namespace Bw
def mir : Bw → Bw
  | nil => nil
  | node u v => app (mir v) (node (mir u) nil)
theorem app_nil : ∀ b : Bw, app b nil = b
  | nil => rfl
  | node u v => by show node u (app v nil) = _; rw [app_nil v]
theorem app_assoc : ∀ a b c : Bw, app (app a b) c = app a (app b c)
  | nil, b, c => rfl
  | node u v, b, c => by show node u (app (app v b) c) = node u (app v (app b c)); rw [app_assoc v b c]
theorem mir_app : ∀ x y : Bw, mir (app x y) = app (mir y) (mir x)
  | nil, y => by show mir y = app (mir y) nil; rw [app_nil]
  | node u v, y => by
    show app (mir (app v y)) (node (mir u) nil) = app (mir y) (app (mir v) (node (mir u) nil))
    rw [mir_app v y, app_assoc]
theorem mir_mir : ∀ b : Bw, mir (mir b) = b
  | nil => rfl
  | node u v => by
    show mir (app (mir v) (node (mir u) nil)) = _
    rw [mir_app, mir_mir v]
    show app (app nil (node (mir (mir u)) nil)) v = _
    rw [mir_mir u]
    rfl
theorem mir_n : ∀ b : Bw, (mir b).n = b.n
  | nil => rfl
  | node u v => by
    show (app (mir v) (node (mir u) nil)).n = _
    rw [app_n, n_node, n_node, n_nil, mir_n u, mir_n v]
    omega
theorem exch_app (a b : List Nat) : exch (a ++ b) = exch a ++ exch b := List.map_append
theorem mir_w : ∀ b : Bw, (mir b).w = exch b.w.reverse
  | nil => rfl
  | node u v => by
    show (app (mir v) (node (mir u) nil)).w = exch (49 :: (u.w ++ 48 :: v.w)).reverse
    rw [app_w, mir_w v]
    have e : (49 :: (u.w ++ 48 :: v.w)).reverse = v.w.reverse ++ ([48] ++ (u.w.reverse ++ [49])) := by simp
    rw [e, exch_app, exch_app, exch_app, ← mir_w u]
    rfl
end Bw

/-! ### homes: rows of lamps moved round, and where they begin -/
def rotL (r : List Nat) (k : Nat) : List Nat := r.drop k ++ r.take k
theorem rotL_len {r : List Nat} {k : Nat} (hk : k ≤ r.length) : (rotL r k).length = r.length := by
  unfold rotL
  rw [List.length_append, List.length_drop, List.length_take]
  omega
theorem rotL_get {r : List Nat} {k i : Nat} (hk : k ≤ r.length) (hi : i < r.length) : (rotL r k)[i]? = r[(i + k) % r.length]? := by
  unfold rotL
  by_cases h1 : i < r.length - k
  · rw [List.getElem?_append_left (by rw [List.length_drop]; exact h1), List.getElem?_drop, Nat.mod_eq_of_lt (by omega), Nat.add_comm]
  · rw [List.getElem?_append_right (by rw [List.length_drop]; omega), List.length_drop]
    have e : (i + k) % r.length = i - (r.length - k) := by
      have e1 : i + k = (i - (r.length - k)) + r.length := by omega
      rw [e1, Nat.add_mod_right, Nat.mod_eq_of_lt (by omega)]
    rw [e, List.getElem?_take_of_lt (by omega)]
theorem rotL_ext {r : List Nat} {x : List Nat} {k : Nat} (hk : k ≤ r.length) (hl : x.length = r.length) (h : ∀ i, i < r.length → x[i]? = r[(i + k) % r.length]?) : x = rotL r k := by
  refine List.ext_getElem? fun i => ?_
  by_cases hi : i < r.length
  · rw [h i hi, rotL_get hk hi]
  · rw [List.getElem?_eq_none (by omega), List.getElem?_eq_none (by rw [rotL_len hk]; omega)]
def sgn (h : Bool) : Nat := if h = true then 49 else 48
def rowW (b : Bw) (h : Bool) : List Nat := b.w ++ [sgn h]
theorem rowW_len (b : Bw) (h : Bool) : (rowW b h).length = b.n + 1 := by
  unfold rowW
  rw [List.length_append]
  rfl
/-- the state at the home (b, s), low or high -/
def stW (b : Bw) (s : Nat) (h : Bool) : List Nat := rotL (rowW b h) ((b.n + 1 - s) % (b.n + 1))
theorem stW_len (b : Bw) (s : Nat) (h : Bool) : (stW b s h).length = b.n + 1 := by
  unfold stW
  rw [rotL_len (by rw [rowW_len]; exact Nat.le_of_lt (Nat.mod_lt _ (Nat.succ_pos _))), rowW_len]
theorem stW_get (b : Bw) {s i : Nat} (h : Bool) (hi : i ≤ b.n) : (stW b s h)[i]? = (rowW b h)[(i + (b.n + 1 - s)) % (b.n + 1)]? := by
  unfold stW
  rw [rotL_get (by rw [rowW_len]; exact Nat.le_of_lt (Nat.mod_lt _ (Nat.succ_pos _))) (by rw [rowW_len]; omega), rowW_len, Nat.add_mod_mod]
/-- moved back by its shift it is the word, and the sign behind it -/
theorem stW_back (b : Bw) {s : Nat} (h : Bool) (hs : s ≤ b.n) : rotL (stW b s h) s = rowW b h := by
  refine (rotL_ext (r := stW b s h) (x := rowW b h) (k := s) (by rw [stW_len]; omega) (by rw [stW_len, rowW_len]) fun i hi => ?_).symm
  rw [stW_len] at hi ⊢
  have hm : (i + s) % (b.n + 1) ≤ b.n := Nat.le_of_lt_succ (Nat.mod_lt _ (Nat.succ_pos _))
  rw [stW_get b h hm, Nat.mod_add_mod]
  have e : i + s + (b.n + 1 - s) = i + (b.n + 1) := by omega
  rw [e, Nat.add_mod_right, Nat.mod_eq_of_lt (by omega)]
theorem sgn_exch (h : Bool) : (if sgn h = 49 then 48 else 49) = sgn (!h) := by cases h <;> rfl
/-- read backward with its signs exchanged: the mirrored word -/
theorem stW_mir (b : Bw) {s : Nat} (h : Bool) (h0 : 0 < b.n) (hs : s ≤ b.n) : exch (stW b s h).reverse = stW (Bw.mir b) ((b.n + 2 - s) % (b.n + 1)) (!h) := by
  have mn : (Bw.mir b).n = b.n := Bw.mir_n b
  have ll : (exch (stW b s h).reverse).length = b.n + 1 := by
    unfold exch
    rw [List.length_map, List.length_reverse, stW_len]
  refine List.ext_getElem? fun i => ?_
  by_cases hi : i ≤ b.n
  · rw [stW_get (Bw.mir b) (!h) (by omega), mn]
    have l1 : (exch (stW b s h).reverse)[i]? = ((stW b s h)[b.n - i]?).map fun c => if c = 49 then 48 else 49 := by
      unfold exch
      rw [List.getElem?_map, List.getElem?_reverse (by rw [stW_len]; omega), stW_len]
      have e : b.n + 1 - 1 - i = b.n - i := by omega
      rw [e]
    rw [l1, stW_get b h (by omega)]
    generalize ej : (b.n - i + (b.n + 1 - s)) % (b.n + 1) = j
    have jl : j < b.n + 1 := by rw [← ej]; exact Nat.mod_lt _ (Nat.succ_pos _)
    have e2 : (i + (b.n + 1 - (b.n + 2 - s) % (b.n + 1))) % (b.n + 1) = (b.n + b.n - j) % (b.n + 1) := by
      have hN : 0 < b.n + 1 := Nat.succ_pos _
      have q1 := Nat.div_add_mod (b.n - i + (b.n + 1 - s)) (b.n + 1)
      rw [ej] at q1
      have q2 := Nat.div_add_mod (b.n + 2 - s) (b.n + 1)
      have m2 : (b.n + 2 - s) % (b.n + 1) < b.n + 1 := Nat.mod_lt _ hN
      generalize (b.n + 2 - s) % (b.n + 1) = t at q2 m2 ⊢
      generalize (b.n - i + (b.n + 1 - s)) / (b.n + 1) = d1 at q1
      generalize (b.n + 2 - s) / (b.n + 1) = d2 at q2
      have d1c : d1 = 0 ∨ d1 = 1 := by
        rcases Nat.lt_or_ge d1 2 with h | h
        · omega
        · have h3 := Nat.mul_le_mul_left (b.n + 1) h
          omega
      have d2c : d2 = 0 ∨ d2 = 1 := by
        rcases Nat.lt_or_ge d2 2 with h | h
        · omega
        · have h3 := Nat.mul_le_mul_left (b.n + 1) h
          omega
      have key : ∀ x y : Nat, x % (b.n + 1) = y % (b.n + 1) ↔ x % (b.n + 1) = y % (b.n + 1) := fun _ _ => Iff.rfl
      have add1 : ∀ x : Nat, (x + (b.n + 1)) % (b.n + 1) = x % (b.n + 1) := fun x => Nat.add_mod_right _ _
      rcases d1c with e | e <;> rcases d2c with e' | e' <;> subst e <;> subst e'
      · have : i + (b.n + 1 - t) = b.n + b.n - j := by omega
        rw [this]
      · have : i + (b.n + 1 - t) = (b.n + b.n - j) + (b.n + 1) ∨ i + (b.n + 1 - t) = (b.n + b.n - j) := by omega
        rcases this with h | h
        · rw [h, add1]
        · rw [h]
      · have : i + (b.n + 1 - t) + (b.n + 1) = (b.n + b.n - j) ∨ i + (b.n + 1 - t) = (b.n + b.n - j) := by omega
        rcases this with h | h
        · rw [← h, add1]
        · rw [h]
      · have : i + (b.n + 1 - t) = (b.n + b.n - j) + (b.n + 1) ∨ i + (b.n + 1 - t) = (b.n + b.n - j) ∨ i + (b.n + 1 - t) + (b.n + 1) = (b.n + b.n - j) := by omega
        rcases this with h | h | h
        · rw [h, add1]
        · rw [h]
        · rw [← h, add1]
    rw [e2]
    have mw : (Bw.mir b).w = exch b.w.reverse := Bw.mir_w b
    unfold rowW
    by_cases hj : j = b.n
    · subst hj
      have wn : b.w.length = b.n := rfl
      have e3 : (b.n + b.n - b.n) % (b.n + 1) = b.n := by rw [Nat.add_sub_cancel, Nat.mod_eq_of_lt (by omega)]
      rw [e3, List.getElem?_append_right (by rw [wn]; omega), List.getElem?_append_right (by show (Bw.mir b).n ≤ _; omega), wn]
      show Option.map _ ([sgn h][b.n - b.n]?) = [sgn (!h)][b.n - (Bw.mir b).n]?
      rw [mn, Nat.sub_self]
      show some (if sgn h = 49 then 48 else 49) = some (sgn (!h))
      rw [sgn_exch]
    · have wn : b.w.length = b.n := rfl
      have e3 : (b.n + b.n - j) % (b.n + 1) = b.n - 1 - j := by
        have : b.n + b.n - j = (b.n - 1 - j) + (b.n + 1) := by omega
        rw [this, Nat.add_mod_right, Nat.mod_eq_of_lt (by omega)]
      rw [e3, List.getElem?_append_left (by omega), List.getElem?_append_left (by show _ < (Bw.mir b).n; omega), mw]
      unfold exch
      rw [List.getElem?_map, List.getElem?_reverse (by omega)]
      have e4 : b.w.length - 1 - (b.n - 1 - j) = j := by omega
      rw [e4]
  · rw [List.getElem?_eq_none (by omega), List.getElem?_eq_none (by rw [stW_len]; omega)]

/-! ### how deep: the first lowest place -/
def dp (a : List Nat) : Int := ((a.count 49 : Nat) : Int) + ((a.count 49 : Nat) : Int) - ((a.length : Nat) : Int)
theorem dp_app (a b : List Nat) : dp (a ++ b) = dp a + dp b := by
  unfold dp
  rw [List.count_append, List.length_append]
  omega
theorem dp_cons (c : Nat) (a : List Nat) : dp (c :: a) = (if c = 49 then 1 else -1) + dp a := by
  unfold dp
  rw [List.count_cons, List.length_cons]
  by_cases e : c = 49
  · subst e
    rw [if_pos rfl, if_pos (by decide)]
    omega
  · rw [if_neg e, if_neg (by rw [beq_false_of_ne e]; exact Bool.false_ne_true)]
    omega
theorem hgt_dp : ∀ (a : List Nat) (h k : Nat), hgt h a = some k → (h : Int) + dp a = k
  | [], h, k, e => by
    have e2 : h = k := Option.some.inj e
    subst e2
    show (h : Int) + 0 = h
    omega
  | c :: a, h, k, e => by
    rw [dp_cons]
    by_cases ec : c = 49
    · subst ec
      rw [hgt_up] at e
      have ih := hgt_dp a _ _ e
      rw [if_pos rfl]
      omega
    · cases h with
      | zero =>
        rw [hgt_zero ec] at e
        cases e
      | succ j =>
        rw [hgt_down ec] at e
        have ih := hgt_dp a _ _ e
        rw [if_neg ec]
        omega
theorem dp_w (b : Bw) : dp b.w = 0 := by
  have h := hgt_dp b.w 0 0 (Bw.w_ok b 0).2
  omega
theorem dp_pre (b : Bw) (i : Nat) : 0 ≤ dp (b.w.take i) := by
  have h := (Bw.w_ok b 0).2
  rw [← List.take_append_drop i b.w, hgt_app] at h
  cases e : hgt 0 (b.w.take i) with
  | none =>
    rw [e] at h
    cases h
  | some k =>
    have h2 := hgt_dp _ _ _ e
    omega
theorem low_g (b : Bw) : (∀ m, m ≤ b.n → 0 ≤ dp ((rowW b false).take m)) ∧ dp (rowW b false) = -1 := by
  refine ⟨fun m hm => ?_, ?_⟩
  · unfold rowW
    rw [List.take_append_of_le_length (by exact hm)]
    exact dp_pre b m
  · unfold rowW
    rw [dp_app, dp_w]
    rfl
def lowAt (b : Bw) (s : Nat) : Nat := if s = 0 then b.n + 1 else s
theorem low_first (b : Bw) {s : Nat} (hs : s ≤ b.n) : lowAt b s ≤ b.n + 1 ∧ lowAt b s % (b.n + 1) = s ∧ (∀ i, i ≤ b.n + 1 → dp ((stW b s false).take (lowAt b s)) ≤ dp ((stW b s false).take i)) ∧
    ∀ i, i < lowAt b s → dp ((stW b s false).take (lowAt b s)) < dp ((stW b s false).take i) := by
  obtain ⟨g0, g1⟩ := low_g b
  have rl := rowW_len b false
  have full : ∀ m, b.n + 1 ≤ m → (rowW b false).take m = rowW b false := fun m hm => List.take_of_length_le (by omega)
  by_cases e : s = 0
  · subst e
    have e1 : stW b 0 false = rowW b false := by
      unfold stW
      rw [Nat.sub_zero, Nat.mod_self]
      unfold rotL
      rw [List.drop_zero, List.take_zero, List.append_nil]
    have e2 : lowAt b 0 = b.n + 1 := if_pos rfl
    rw [e1, e2, full _ (Nat.le_refl _), g1]
    refine ⟨Nat.le_refl _, Nat.mod_self _, fun i hi => ?_, fun i hi => ?_⟩
    · rcases Nat.lt_or_ge b.n i with h | h
      · rw [full i (by omega), g1]
        exact Int.le_refl _
      · have := g0 i h
        omega
    · have := g0 i (by omega)
      omega
  · have e2 : lowAt b s = s := if_neg e
    have ek : (b.n + 1 - s) % (b.n + 1) = b.n + 1 - s := Nat.mod_eq_of_lt (by omega)
    have e1 : stW b s false = (rowW b false).drop (b.n + 1 - s) ++ (rowW b false).take (b.n + 1 - s) := by
      unfold stW
      rw [ek]
      rfl
    rw [e2]
    generalize ek2 : b.n + 1 - s = k at e1
    have dl : ((rowW b false).drop k).length = s := by
      rw [List.length_drop, rl]
      omega
    have gk := g0 k (by omega)
    have before : ∀ i, i ≤ s → dp ((stW b s false).take i) = dp ((rowW b false).take (k + i)) - dp ((rowW b false).take k) := by
      intro i hi
      rw [e1, List.take_append_of_le_length (by omega), List.take_add, dp_app]
      omega
    have at_ : dp ((stW b s false).take s) = -1 - dp ((rowW b false).take k) := by
      rw [before s (Nat.le_refl _), full (k + s) (by omega), g1]
    have lt_ : ∀ i, i < s → dp ((stW b s false).take s) < dp ((stW b s false).take i) := by
      intro i hi
      rw [at_, before i (by omega)]
      have := g0 (k + i) (by omega)
      omega
    refine ⟨by omega, Nat.mod_eq_of_lt (by omega), fun i hi => ?_, lt_⟩
    rcases Nat.lt_or_ge i s with h | h
    · exact Int.le_of_lt (lt_ i h)
    · obtain ⟨j, rfl⟩ : ∃ j, i = s + j := ⟨i - s, by omega⟩
      rw [at_, e1]
      have e3 : ((rowW b false).drop k ++ (rowW b false).take k).take (s + j) = (rowW b false).drop k ++ ((rowW b false).take k).take j := by
        rw [← dl, List.take_append]
        rw [List.take_of_length_le (by omega)]
        congr 2
        omega
      rw [e3, dp_app, List.take_take]
      have e4 : dp ((rowW b false).drop k) = -1 - dp ((rowW b false).take k) := by
        have h5 := dp_app ((rowW b false).take k) ((rowW b false).drop k)
        rw [List.take_append_drop, g1] at h5
        omega
      have := g0 (min j k) (by omega)
      omega
/-! ### counts of a state -/
theorem cnt_w : ∀ b : Bw, b.w.count 49 + b.w.count 49 = b.n ∧ b.w.count 48 = b.w.count 49 := by
  intro b
  have h1 := dp_w b
  unfold dp at h1
  have h2 := (count_two b.w).2
  rw [(Bw.w_ok b 0).1] at h2
  have h3 := of_decide_eq_true h2.symm
  have h4 : b.w.length = b.n := rfl
  omega
theorem stW_count (b : Bw) (s : Nat) (h : Bool) (c : Nat) : (stW b s h).count c = b.w.count c + [sgn h].count c := by
  unfold stW rotL
  rw [List.count_append, Nat.add_comm, ← List.count_append, List.take_append_drop]
  unfold rowW
  rw [List.count_append]
theorem stW_sg (b : Bw) (s : Nat) (h : Bool) : sg (stW b s h) = true := by
  have h1 : sg (rowW b h) = true := by
    unfold rowW
    rw [sg_app, (Bw.w_ok b 0).1]
    cases h <;> rfl
  unfold stW rotL
  rw [sg_app]
  rw [← List.take_append_drop ((b.n + 1 - s) % (b.n + 1)) (rowW b h), sg_app, Bool.and_eq_true] at h1
  rw [h1.1, h1.2]
  rfl
theorem stW_st (b : Bw) (s : Nat) (h : Bool) (h0 : 0 < b.n) (hb : b.n ≤ 400) : isSt (stW b s h) = true := by
  obtain ⟨c1, c2⟩ := cnt_w b
  have c3 := stW_count b s h 49
  refine isSt_mk (stW_sg b s h) (by rw [stW_len]; omega) (by rw [stW_len]; omega) (by rw [stW_len]; omega) ?_
  rw [c3, stW_len]
  cases h
  · show b.w.count 49 + 0 = _ ∨ _
    left
    omega
  · show _ ∨ b.w.count 49 + 1 = _
    right
    omega

/-! ### places -/
def spBfl : Sp := fun vs H Q _ => ∃ (a : List Nat) (f : Nat), vs = [.str (S a)] ∧ a.length ≤ 1000 ∧ f ≤ a.length ∧ (∀ i, i ≤ a.length → dp (a.take f) ≤ dp (a.take i)) ∧ (∀ i, i < f → dp (a.take f) < dp (a.take i)) ∧ ∀ H', Same H H' → Q (.int f) H'
def spLow (K : PySem.W.Frag) : Sp := fun vs H Q _ => ∃ (b : Bw) (s : Nat), vs = [.str (S (stW b s false))] ∧ 0 < b.n ∧ b.n ≤ 400 ∧ s ≤ b.n ∧ ∀ H' p, Same H H' → H' p = some (.tup [.str (S b.w), .int s]) → Q (.ref p) H'
def spPlace : Sp := fun vs H Q _ => ∃ (b : Bw) (s : Nat) (h : Bool), vs = [.str (S (stW b s h))] ∧ 0 < b.n ∧ b.n ≤ 400 ∧ s ≤ b.n ∧ ∀ H' p, Same H H' → H' p = some (.tup [.str (S b.w), .int s, .bl h]) → Q (.ref p) H'
def spStateOf (K : PySem.W.Frag) : Sp := fun vs H Q _ => ∃ (p : Addr) (b : Bw) (s : Nat) (h : Bool), vs = [.ref p] ∧ SqT K H p [.str (S b.w), .int s, .bl h] ∧ 0 < b.n ∧ b.n ≤ 400 ∧ s ≤ b.n ∧ Q (.str (S (stW b s h))) H
def spPturn (K : PySem.W.Frag) : Sp := fun vs H Q _ => ∃ (p : Addr) (b : Bw) (s : Nat) (h : Bool) (m : Int), vs = [.ref p, .int m] ∧ SqT K H p [.str (S b.w), .int s, .bl h] ∧ 0 < b.n ∧ b.n ≤ 400 ∧ s ≤ b.n ∧
  ∀ H' r, Same H H' → H' r = some (.tup [.str (S (Bw.turns (m % b.n).toNat b).w), .int (((s : Int) + m) % ((b.n : Int) + 1)), .bl h]) → Q (.ref r) H'
def spOther (K : PySem.W.Frag) : Sp := fun vs H Q _ => ∃ (p : Addr) (x y : V) (h : Bool), vs = [.ref p] ∧ SqT K H p [x, y, .bl h] ∧ ∀ H' r, Same H H' → H' r = some (.tup [x, y, .bl (!h)]) → Q (.ref r) H'
theorem stW_int (b : Bw) {s : Nat} (h : Bool) (hs : s ≤ b.n) : (rowW b h).drop ((-(s : Int)) % ((b.n : Int) + 1)).toNat ++ (rowW b h).take ((-(s : Int)) % ((b.n : Int) + 1)).toNat = stW b s h := by
  have e : ((-(s : Int)) % ((b.n : Int) + 1)).toNat = (b.n + 1 - s) % (b.n + 1) := by
    by_cases h0 : s = 0
    · subst h0
      rw [Nat.sub_zero, Nat.mod_self]
      show ((-(0 : Int)) % ((b.n : Int) + 1)).toNat = 0
      rw [Int.neg_zero, Int.zero_emod]
      rfl
    · rw [Nat.mod_eq_of_lt (by omega)]
      have e1 : (-(s : Int)) % ((b.n : Int) + 1) = ((b.n + 1 - s : Nat) : Int) := by
        have e2 : ((b.n + 1 - s : Nat) : Int) = -(s : Int) + ((b.n : Int) + 1) := by omega
        rw [e2, ← Int.add_emod_right, Int.emod_eq_of_lt (by omega) (by omega)]
      rw [e1, Int.toNat_natCast]
  rw [e]
  rfl
theorem cut_last (a : List Nat) (c : Nat) : cutN (a ++ [c]) none (some (-1)) = a := by
  unfold cutN
  rw [HT.sIx_none]
  have e : HT.sIx (a ++ [c]).length (a ++ [c]).length (some (-1)) = a.length := by
    show (if (-1 : Int) < 0 then ((-1 : Int) + (((a ++ [c]).length : Nat) : Int)).toNat else min (-1 : Int).toNat (a ++ [c]).length) = _
    rw [if_pos (by decide), List.length_append]
    show ((-1 : Int) + ((a.length + 1 : Nat) : Int)).toNat = _
    omega
  rw [e, List.drop_zero, Nat.sub_zero, List.take_append_of_le_length (Nat.le_refl _), List.take_length]
section
variable {P : Program} {w : World} {K : PySem.W.Frag} {mg : Str → Option Value} {base : Heap}
theorem ok__behind_first_lowest {f : Addr} {fd : FuncData} (F : Fun K "_behind_first_lowest" "_behind_first_lowest" s__behind_first_lowest f fd) (T : Txt K mg) : FnOk P w K mg base CX0 1 f fd ["row"] spBfl := by
  have nd := sc__behind_first_lowest.nd
  refine F.ok sc__behind_first_lowest (fun vs H Q E h => ?_) (fun cdv A outer s H vs Q E hr h => ?_)
  · obtain ⟨a, f, rfl, _⟩ := h
    rfl
  · obtain ⟨a, f, rfl, al, fl, f1, f2, q⟩ := h
    refine ⟨_, (pss_cons (ps_set (i := 1) nd rfl (by first | exact Or.inl rfl | exact Or.inr rfl) (pe_lst (pa_cons pe_int pa_nil)))
 (pss_cons (ps_for PassesOwn.never rfl (pi_str (pv 0)) (pg_name (i := 2) nd rfl (by first | exact Or.inl rfl | exact Or.inr rfl))
 (pss_one (ps_expr (pe_bm PySem.F.plainAttrs_list PySem.F.slot_list_append PySem.F.type_list_append mt_append (pv 1) (pa_cons (pe_op op_add (pe_ix (show IxR _ (rIxL K) from ix_list) (pv 1) (pe_un un_neg pe_int) (fun _ _ => rfl)) (pe_ifExp (pt_cmpR op_eq_S (pv 2) (pe_lit (l := [49]) (by decide +kernel)) (nomark _)) pe_int (pe_un un_neg pe_int))) pa_nil)))))
 (pss_one (ps_ret (pe_bm PySem.F.plainAttrs_list PySem.F.slot_list_index PySem.F.type_list_index mt_index (pv 1) (pa_cons (pe_callB (cr_min rfl) (by rfl) T.n_min (by decide +kernel) (pa_cons (pv 1) pa_nil)) pa_nil)))))), ?_⟩
    refine ⟨by show 1 ≤ sizeLine; decide, fun D nD => ?_⟩
    have dl : ∀ i : Nat, ((List.range (i + 1)).map fun k => V.int (dp (a.take k))).length = i + 1 := fun i => by rw [List.length_map, List.length_range]
    refine ⟨_, rfl, S a, rfl, for_S (a := a) (fun i σ H' => Same H H' ∧ ∃ v2 : Option V, σ = [some (.str (S a)), some (.ref D), v2] ∧ H' D = some (.lst ((List.range (i + 1)).map fun k => V.int (dp (a.take k))))) ⟨same_new nD, none, rfl, upd_same⟩ ?_ ?_⟩
    · rintro i c σ H' hc ⟨sm, v2, rfl, hD⟩
      have il : i < a.length := (List.getElem?_eq_some_iff.mp hc).1
      have at1 : atI ((List.range (i + 1)).map fun k => V.int (dp (a.take k))) (-1) = some (V.int (dp (a.take i))) := by
        rw [List.range_succ, List.map_append]
        exact atI_last _ _
      have tk : a.take (i + 1) = a.take i ++ [c] := by rw [List.take_add_one, hc]; rfl
      have fin : ∀ d : Int, d = dp (a.take (i + 1)) → Same H (upd H' D (.lst (((List.range (i + 1)).map fun k => V.int (dp (a.take k))) ++ [.int d]))) ∧ (upd H' D (.lst (((List.range (i + 1)).map fun k => V.int (dp (a.take k))) ++ [.int d]))) D = some (.lst ((List.range (i + 1 + 1)).map fun k => V.int (dp (a.take k)))) := by
        rintro d rfl
        refine ⟨same_put sm nD, ?_⟩
        rw [upd_same, List.range_succ (n := i + 1), List.map_append]
        rfl
      refine ⟨_, rfl, .inl ⟨rfl, _, SqL.of hD⟩, ?_⟩
      refine ⟨_, rfl, _, rfl, D, _, _, _, rfl, rfl, SqL.of hD, at1, ?_⟩
      refine ⟨_, rfl, [c], [49], rfl, rfl, _, rfl, ?_⟩
      by_cases e : c = 49
      · rw [decide_eq_true (by rw [e])]
        refine iteT ⟨_, _, rfl, rfl, D, _, _, rfl, rfl, hD, by rw [dl]; exact small1000 (by omega), ?_⟩
        obtain ⟨x1, x2⟩ := fin (dp (a.take i) + 1) (by rw [tk, dp_app, dp_cons, if_pos e]; rfl)
        exact ⟨x1, _, rfl, x2⟩
      · rw [decide_eq_false (fun z => e (List.cons.inj z).1)]
        refine iteF ⟨_, rfl, _, _, rfl, rfl, D, _, _, rfl, rfl, hD, by rw [dl]; exact small1000 (by omega), ?_⟩
        obtain ⟨x1, x2⟩ := fin (dp (a.take i) + -1) (by rw [tk, dp_app, dp_cons, if_neg e]; rfl)
        exact ⟨x1, _, rfl, x2⟩
    · rintro σ H' ⟨sm, v2, rfl, hD⟩
      have ei : ((List.range (a.length + 1)).map fun k => V.int (dp (a.take k))) = ((List.range (a.length + 1)).map fun k => dp (a.take k)).map V.int := by
        rw [List.map_map]
        rfl
      rw [ei] at hD
      have gt : ∀ j, j ≤ a.length → (((List.range (a.length + 1)).map fun k => dp (a.take k)).map V.int)[j]? = some (.int (dp (a.take j))) := fun j hj => by
        rw [List.getElem?_map, List.getElem?_map, List.getElem?_range (by omega)]
        rfl
      refine ⟨_, rfl, .inl ⟨rfl, _, SqL.of hD⟩, _, rfl, D, _, rfl, SqL.of hD, by rw [List.length_map, List.length_range]; omega, fun m hm hmin => ?_⟩
      have em : m = dp (a.take f) := by
        obtain ⟨k, hk, rfl⟩ := List.mem_map.mp hm
        have hk2 := List.mem_range.mp hk
        have h1 := hmin (dp (a.take f)) (List.mem_map.mpr ⟨f, List.mem_range.mpr (by omega), rfl⟩)
        have h2 := f1 k (by omega)
        omega
      subst em
      refine ⟨D, _, _, f, _, rfl, rfl, SqL.of hD, rfl, ?_, gt f fl, ?_, fun j z hj hz => ?_, q H' sm⟩
      · rw [List.all_eq_true]
        intro x hx
        obtain ⟨y, _, rfl⟩ := List.mem_map.mp hx
        rfl
      · exact beq_self_eq_true _
      · rw [gt j (by omega)] at hz
        cases hz
        have := f2 j hj
        exact beq_false_of_ne (by omega)
theorem ok__low_home {f : Addr} {fd : FuncData} (F : Fun K "_low_home" "_low_home" s__low_home f fd) (T : Txt K mg) (c__behind_first_lowest : Cl P w K mg base 1 "_behind_first_lowest" spBfl) (c_moved_round : Cl P w K mg base 1 "moved_round" spMovedS) : FnOk P w K mg base CX0 2 f fd ["row"] (spLow K) := by
  have nd := sc__low_home.nd
  refine F.ok sc__low_home (fun vs H Q E h => ?_) (fun cdv A outer s H vs Q E hr h => ?_)
  · obtain ⟨b, s, rfl, _⟩ := h
    rfl
  · obtain ⟨b, s, rfl, h0, hb, hs, q⟩ := h
    refine ⟨_, (pss_cons (ps_set (i := 1) nd rfl (by first | exact Or.inl rfl | exact Or.inr rfl) (pe_op op_mod (pe_f c__behind_first_lowest hr (by decide) (by rfl) (pa_cons (pv 0) pa_nil)) (pe_callB call_len_S (by rfl) T.n_len (by decide +kernel) (pa_cons (pv 0) pa_nil))))
 (pss_one (ps_ret (pe_tup (pa_cons (pe_slice sl_S (pe_f c_moved_round hr (by decide) (by rfl) (pa_cons (pv 0) (pa_cons (pv 1) pa_nil))) po_none (po_some (pe_un un_neg pe_int))) (pa_cons (pv 1) pa_nil)))))), ?_⟩
    obtain ⟨l1, l2, l3, l4⟩ := low_first b hs
    have sl := stW_len b s false
    refine ⟨_, rfl, _, lowAt b s, rfl, by rw [sl]; omega, by rw [sl]; exact l1, by rw [sl]; exact l3, l4, fun H1 s1 => ?_⟩
    refine ⟨_, rfl, _, rfl, by rw [sl]; exact Nat.le_trans (by omega : b.n + 1 ≤ 401) (by decide), _, _, rfl, rfl, by rw [sl]; show (0 : Int) < ((b.n + 1 : Nat) : Int); omega, ?_⟩
    have e1 : ((lowAt b s : Nat) : Int) % (((stW b s false).length : Nat) : Int) = (s : Int) := by
      rw [sl, ← Int.natCast_emod, l2]
    dsimp only
    rw [e1]
    refine ⟨_, rfl, _, rfl, _, _, rfl, by rw [sl]; omega, by rw [sl]; omega, ?_⟩
    have e2 : (stW b s false).drop ((s : Int) % (((stW b s false).length : Nat) : Int)).toNat ++ (stW b s false).take ((s : Int) % (((stW b s false).length : Nat) : Int)).toNat = rowW b false := by
      have e3 : ((s : Int) % (((stW b s false).length : Nat) : Int)).toNat = s := by
        rw [sl, Int.emod_eq_of_lt (by omega) (by omega), Int.toNat_natCast]
      rw [e3]
      exact stW_back b false hs
    rw [e2]
    refine ⟨_, rfl, _, rfl, _, rfl, by rw [rowW_len]; exact Nat.le_trans (by omega : b.n + 1 ≤ 401) (by decide), ?_⟩
    unfold rowW
    rw [show (-(1 : Int)) = -1 from rfl, cut_last]
    refine ⟨_, rfl, by show 2 ≤ sizeLine; decide, fun p np => ?_⟩
    exact q _ p (fun x o e => same_new np _ _ (s1 _ _ e)) upd_same
theorem ok_state_of {f : Addr} {fd : FuncData} (F : Fun K "state_of" "state_of" s_state_of f fd) (T : Txt K mg) (c_moved_round : Cl P w K mg base 1 "moved_round" spMovedS) : FnOk P w K mg base CX0 2 f fd ["place"] (spStateOf K) := by
  have nd := sc_state_of.nd
  refine F.ok sc_state_of (fun vs H Q E h => ?_) (fun cdv A outer s H vs Q E hr h => ?_)
  · obtain ⟨p, b, s, h, rfl, _⟩ := h
    rfl
  · obtain ⟨p, b, s, h, rfl, hp, h0, hb, hs, q⟩ := h
    refine ⟨_, (pss_cons (ps_asg (pv 0) (pg_tup rfl (pgs_cons (pg_name (i := 1) nd rfl (by first | exact Or.inl rfl | exact Or.inr rfl)) (pgs_cons (pg_name (i := 2) nd rfl (by first | exact Or.inl rfl | exact Or.inr rfl)) (pgs_cons (pg_name (i := 3) nd rfl (by first | exact Or.inl rfl | exact Or.inr rfl)) pgs_nil)))))
 (pss_one (ps_ret (pe_f c_moved_round hr (by decide) (by rfl) (pa_cons (pe_op op_add_S (pv 1) (pe_ifExp (pt_val (pv 3)) (pe_lit (l := [49]) (by decide +kernel)) (pe_lit (l := [48]) (by decide +kernel)))) (pa_cons (pe_un un_neg (pv 2)) pa_nil)))))), ?_⟩
    refine ⟨_, rfl, p, _, rfl, hp, rfl, _, _, rfl, _, _, rfl, _, _, rfl, rfl, ?_⟩
    have rl := rowW_len b h
    have fin : ∀ c : Nat, c = sgn h → Q (.str (S ((b.w ++ [c]).drop ((-(s : Int)) % (((b.w ++ [c]).length : Nat) : Int)).toNat ++ (b.w ++ [c]).take ((-(s : Int)) % (((b.w ++ [c]).length : Nat) : Int)).toNat))) H := by
      rintro c rfl
      have e : ((b.w ++ [sgn h]).length : Nat) = b.n + 1 := rl
      rw [e]
      have e2 := stW_int b h hs
      unfold rowW at e2
      rw [show ((b.n + 1 : Nat) : Int) = (b.n : Int) + 1 by omega, e2]
      exact q
    have wl : ∀ c : Nat, b.w.length + [c].length ≤ sizeLine := fun c => Nat.le_trans (by show b.n + 1 ≤ 401; omega) (by decide)
    have al : ∀ c : Nat, 0 < (b.w ++ [c]).length ∧ (b.w ++ [c]).length ≤ 2000 := fun c => by
      rw [List.length_append]
      show 0 < b.n + 1 ∧ b.n + 1 ≤ 2000
      omega
    refine ⟨_, rfl, _, rfl, _, rfl, ?_⟩
    cases h with
    | true => exact iteT ⟨_, _, rfl, rfl, wl _, _, rfl, _, rfl, _, _, rfl, (al _).1, (al _).2, fin 49 rfl⟩
    | false => exact iteF ⟨_, _, rfl, rfl, wl _, _, rfl, _, rfl, _, _, rfl, (al _).1, (al _).2, fin 48 rfl⟩
theorem ok_place_of {f : Addr} {fd : FuncData} (F : Fun K "place_of" "place_of" s_place_of f fd) (T : Txt K mg) (c_check_state : Cl P w K mg base 3 "check_state" spCkSt0) (c__low_home : Cl P w K mg base 2 "_low_home" (spLow K)) (c_exchanged_signs : Cl P w K mg base 1 "exchanged_signs" spExch)
    (c_mirrored_word : Cl P w K mg base 4 "mirrored_word" spMirr) : FnOk P w K mg base CX0 5 f fd ["state"] spPlace := by
  have nd := sc_place_of.nd
  refine F.ok sc_place_of (fun vs H Q E h => ?_) (fun cdv A outer s H vs Q E hr h => ?_)
  · obtain ⟨b, s, h, rfl, _⟩ := h
    rfl
  · obtain ⟨b, s, h, rfl, h0, hb, hs, q⟩ := h
    refine ⟨_, (pss_cons (ps_expr (pe_f c_check_state hr (by decide) (by rfl) (pa_cons (pv 0) (pa_cons (pe_lit (l := [115, 116, 97, 116, 101]) (by decide +kernel)) pa_nil))))
 (pss_cons (ps_if (pt_cmpR op_gt (pe_m1 PySem.F.slot_str_count PySem.F.type_str_count mt_countS (pv 0) (pe_lit (l := [48]) (by decide +kernel))) (pe_op op_fdiv (pe_callB call_len_S (by rfl) T.n_len (by decide +kernel) (pa_cons (pv 0) pa_nil)) pe_int) (nomark _))
 (pss_cons (ps_asg (pe_f c__low_home hr (by decide) (by rfl) (pa_cons (pv 0) pa_nil)) (pg_tup rfl (pgs_cons (pg_name (i := 1) nd rfl (by first | exact Or.inl rfl | exact Or.inr rfl)) (pgs_cons (pg_name (i := 2) nd rfl (by first | exact Or.inl rfl | exact Or.inr rfl)) pgs_nil))))
 (pss_one (ps_ret (pe_tup (pa_cons (pv 1) (pa_cons (pv 2) (pa_cons pe_bl pa_nil)))))))
 pss_nil)
 (pss_cons (ps_asg (pe_f c__low_home hr (by decide) (by rfl) (pa_cons (pe_f c_exchanged_signs hr (by decide) (by rfl) (pa_cons (pe_revS (pv 0)) pa_nil)) pa_nil)) (pg_tup rfl (pgs_cons (pg_name (i := 1) nd rfl (by first | exact Or.inl rfl | exact Or.inr rfl)) (pgs_cons (pg_name (i := 2) nd rfl (by first | exact Or.inl rfl | exact Or.inr rfl)) pgs_nil))))
 (pss_one (ps_ret (pe_tup (pa_cons (pe_f c_mirrored_word hr (by decide) (by rfl) (pa_cons (pv 1) pa_nil)) (pa_cons (pe_op op_mod (pe_op op_sub pe_int (pv 2)) (pe_callB call_len_S (by rfl) T.n_len (by decide +kernel) (pa_cons (pv 0) pa_nil))) (pa_cons pe_bl pa_nil))))))))), ?_⟩
    have sl := stW_len b s h
    have lz : (stW b s h).length ≤ sizeLine := by rw [sl]; exact Nat.le_trans (by omega : b.n + 1 ≤ 401) (by decide)
    refine ⟨_, rfl, _, _, rfl, stW_st b s h h0 hb, fun H1 s1 => ?_⟩
    refine ⟨_, rfl, ⟨_, rfl⟩, _, 48, rfl, rfl, _, rfl, _, rfl, lz, _, _, rfl, rfl, ⟨by decide, by decide⟩, _, _, rfl, rfl, _, rfl, ?_⟩
    obtain ⟨c1, c2⟩ := cnt_w b
    have cc := stW_count b s h 48
    cases h with
    | false =>
      have e : decide ((((stW b s false).count 48 : Nat) : Int) > (((stW b s false).length : Nat) : Int) / 2) = true := by
        refine decide_eq_true ?_
        rw [cc, sl]
        show ((b.w.count 48 + 1 : Nat) : Int) > ((b.n + 1 : Nat) : Int) / 2
        omega
      refine (if_pos e).mpr ?_
      refine ⟨_, rfl, b, s, rfl, h0, hb, hs, fun H2 p s2 hp => ?_⟩
      refine ⟨p, _, rfl, SqT.of hp, rfl, _, _, rfl, _, _, rfl, rfl, ?_⟩
      exact ⟨_, rfl, _, rfl, by show 3 ≤ sizeLine; decide, fun r nr => q _ r (fun x o e => same_new nr _ _ (s2 _ _ (s1 _ _ e))) upd_same⟩
    | true =>
      have e : decide ((((stW b s true).count 48 : Nat) : Int) > (((stW b s true).length : Nat) : Int) / 2) = false := by
        refine decide_eq_false ?_
        rw [cc, sl]
        show ¬ ((b.w.count 48 + 0 : Nat) : Int) > ((b.n + 1 : Nat) : Int) / 2
        omega
      refine (if_neg (fun z => Bool.noConfusion (e.symm.trans z))).mpr ?_
      have mn := Bw.mir_n b
      have sm := stW_mir b true h0 hs
      refine ⟨_, rfl, _, rfl, lz, _, rfl, by rw [List.length_reverse, sl]; omega, fun H2 s2 => ?_⟩
      rw [sm]
      have hs2 : (b.n + 2 - s) % (b.n + 1) ≤ b.n := Nat.le_of_lt_succ (Nat.mod_lt _ (Nat.succ_pos _))
      refine ⟨Bw.mir b, (b.n + 2 - s) % (b.n + 1), rfl, by omega, by omega, by omega, fun H3 p s3 hp => ?_⟩
      refine ⟨p, _, rfl, SqT.of hp, rfl, _, _, rfl, _, _, rfl, rfl, ?_⟩
      refine ⟨_, rfl, Bw.mir b, rfl, by omega, by omega, fun H4 s4 => ?_⟩
      have em : exch (Bw.mir b).w.reverse = b.w := by rw [← Bw.mir_w, Bw.mir_mir]
      rw [em]
      refine ⟨_, rfl, _, _, rfl, rfl, _, rfl, _, rfl, lz, _, _, rfl, rfl, by rw [sl]; show (0 : Int) < ((b.n + 1 : Nat) : Int); omega, by show 3 ≤ sizeLine; decide, fun r nr => ?_⟩
      have e5 : (1 - (((b.n + 2 - s) % (b.n + 1) : Nat) : Int)) % (((stW b s true).length : Nat) : Int) = (s : Int) := by
        rw [sl]
        have q2 := Nat.div_add_mod (b.n + 2 - s) (b.n + 1)
        generalize (b.n + 2 - s) % (b.n + 1) = t at q2 hs2 ⊢
        generalize (b.n + 2 - s) / (b.n + 1) = d2 at q2
        have d2c : d2 = 0 ∨ d2 = 1 := by
          rcases Nat.lt_or_ge d2 2 with h | h
          · omega
          · have h3 := Nat.mul_le_mul_left (b.n + 1) h
            omega
        rcases d2c with e | e
        · subst e
          have e6 : (1 : Int) - (t : Int) = (s : Int) + -1 * ((b.n + 1 : Nat) : Int) := by omega
          rw [e6, Int.add_mul_emod_self_right, Int.emod_eq_of_lt (by omega) (by omega)]
        · subst e
          have e6 : (1 : Int) - (t : Int) = (s : Int) := by omega
          rw [e6, Int.emod_eq_of_lt (by omega) (by omega)]
      refine q _ r (fun x o e => same_new nr _ _ (s4 _ _ (s3 _ _ (s2 _ _ (s1 _ _ e))))) ?_
      rw [upd_same]
      dsimp only
      rw [e5]
end

theorem hgt_shift : ∀ (a : List Nat) (h k : Nat), hgt h a = some k → hgt (h + 1) a = some (k + 1)
  | [], h, k, e => by
    have : h = k := Option.some.inj e
    subst this
    rfl
  | c :: r, h, k, e => by
    by_cases ec : c = 49
    · subst ec
      rw [hgt_up] at e ⊢
      exact hgt_shift r _ _ e
    · cases h with
      | zero => rw [hgt_zero ec] at e; cases e
      | succ j =>
        rw [hgt_down ec] at e ⊢
        exact hgt_shift r _ _ e
theorem hgt_pre {a : List Nat} {h m : Nat} (e : hgt h a = some m) (n : Nat) : ∃ k, hgt h (a.take n) = some k := by
  have h2 : a = a.take n ++ a.drop n := (List.take_append_drop n a).symm
  rw [h2, hgt_app] at e
  cases e3 : hgt h (a.take n) with
  | none => rw [e3] at e; cases e
  | some k => exact ⟨k, rfl⟩
/-! ### the words into which one is turned -/
theorem turns_mod {b : Bw} {p : Nat} (hp : Bw.turns p b = b) : ∀ (k s : Nat), Bw.turns (p * k + s) b = Bw.turns s b
  | 0, s => by rw [Nat.mul_zero, Nat.zero_add]
  | k + 1, s => by
    have e : p * (k + 1) + s = p + (p * k + s) := by rw [Nat.mul_succ]; omega
    rw [e, Bw.turns_add, hp]
    exact turns_mod hp k s
theorem turns_emod {b : Bw} {p : Nat} (hp : Bw.turns p b = b) (s : Nat) : Bw.turns (s % p) b = Bw.turns s b := by
  have h := turns_mod hp (s / p) (s % p)
  rw [Nat.div_add_mod] at h
  exact h.symm
theorem per_ex (b : Bw) (h0 : 0 < b.n) : ∃ p, Per b p := by
  have key : ∀ k : Nat, (∃ p, 1 ≤ p ∧ p ≤ k ∧ Bw.turns p b = b) → ∃ p, 1 ≤ p ∧ p ≤ k ∧ Bw.turns p b = b ∧ ∀ q, 1 ≤ q → q < p → Bw.turns q b ≠ b := by
    intro k
    induction k with
    | zero => rintro ⟨p, h1, h2, _⟩; exact absurd h1 (by omega)
    | succ k ih =>
      rintro ⟨p, h1, h2, h3⟩
      by_cases h : ∃ p, 1 ≤ p ∧ p ≤ k ∧ Bw.turns p b = b
      · obtain ⟨p', a1, a2, a3⟩ := ih h
        exact ⟨p', a1, by omega, a3⟩
      · refine ⟨p, h1, h2, h3, fun q q1 q2 e => h ⟨q, q1, by omega, e⟩⟩
  obtain ⟨p, a1, a2, a3, a4⟩ := key b.n ⟨b.n, h0, Nat.le_refl _, Bw.turns_full b⟩
  exact ⟨p, a1, a2, a3, a4⟩
theorem per_uniq {b : Bw} {p q : Nat} (h : Per b p) (k : Per b q) : p = q := by
  obtain ⟨p1, _, p3, p4⟩ := h
  obtain ⟨q1, _, q3, q4⟩ := k
  rcases Nat.lt_trichotomy p q with h | h | h
  · exact absurd p3 (q4 p p1 h)
  · exact h
  · exact absurd q3 (p4 q q1 h)
theorem per_dvd {b : Bw} {p : Nat} (h : Per b p) : b.n % p = 0 := by
  obtain ⟨p1, p2, p3, p4⟩ := h
  rcases Nat.eq_zero_or_pos (b.n % p) with e | e
  · exact e
  · exact absurd (by rw [turns_emod p3, Bw.turns_full]) (p4 (b.n % p) e (Nat.mod_lt _ (by omega)))
theorem per_int {b : Bw} {p : Nat} (h : Per b p) (h0 : 0 < b.n) (m : Int) : Bw.turns (m % (b.n : Int)).toNat b = Bw.turns (m % (p : Int)).toNat b := by
  have hp : 0 < p := h.1
  have e0 := turns_emod h.2.2.1 (m % (b.n : Int)).toNat
  rw [← e0]
  congr 1
  have a0 : 0 ≤ m % (b.n : Int) := Int.emod_nonneg _ (by omega)
  have a1 : 0 ≤ m % (p : Int) := Int.emod_nonneg _ (by omega)
  have d : (p : Int) ∣ (b.n : Int) := Int.natCast_dvd_natCast.mpr (Nat.dvd_of_mod_eq_zero (per_dvd h))
  have e1 : m % (b.n : Int) % (p : Int) = m % (p : Int) := Int.emod_emod_of_dvd m d
  have e2 : (((m % (b.n : Int)).toNat % p : Nat) : Int) = m % (p : Int) := by
    rw [Int.natCast_emod, Int.toNat_of_nonneg a0, e1]
  omega
def TS (ts : List (List Nat)) : List PyData := ts.map fun t => PyData.str (S t)
theorem ts_all : ∀ ts : List (List Nat), (∀ t ∈ ts, t.length ≤ 400 ∧ sg t = true) → PyData.showableAll (TS ts) = true ∧ PyData.hasDictAll (TS ts) = false ∧ PyData.leavesShortAll 40 (TS ts) = true ∧ PyData.depthAll (TS ts) = 0 ∧ PyData.bulkAll (TS ts) ≤ 401 * ts.length ∧ PyData.canLayAll0 (TS ts) = true
  | [], _ => ⟨by simp only [TS, List.map_nil, PyData.showableAll], by simp only [TS, List.map_nil, PyData.hasDictAll], by simp only [TS, List.map_nil, PyData.leavesShortAll], by simp only [TS, List.map_nil, PyData.depthAll], by simp only [TS, List.map_nil, PyData.bulkAll]; exact Nat.zero_le _, by simp only [TS, List.map_nil, PyData.canLayAll0]⟩
  | t :: ts, h => by
    obtain ⟨a, b, c, d, e, f⟩ := ts_all ts fun x hx => h x (List.mem_cons_of_mem _ hx)
    obtain ⟨tl, tg⟩ := h t (List.mem_cons_self ..)
    have e1 : TS (t :: ts) = PyData.str (S t) :: TS ts := rfl
    have g1 : ∀ x ∈ t, x < 50 := fun x hx => by
      unfold sg at tg
      rw [List.all_eq_true] at tg
      have := tg x hx
      simp only [Bool.or_eq_true, beq_iff_eq] at this
      omega
    have l1 : PyData.leavesShort 40 (PyData.str (S t)) = true := by
      simp only [PyData.leavesShort, List.all_eq_true, decide_eq_true_eq]
      intro x hx
      exact Nat.lt_of_lt_of_le (g1 x hx) (by decide)
    have l2 : PyData.canLay0 (PyData.str (S t)) = true := by
      simp only [PyData.canLay0, PyData.strOk]
      rw [← Array.all_toList, List.all_eq_true]
      intro x hx
      have : x < 50 := g1 x hx
      exact decide_eq_true (by omega)
    have l3 : PyData.bulk (PyData.str (S t)) = t.length := by
      simp only [PyData.bulk]
      show (t.toArray).size = _
      simp
    rw [e1]
    refine ⟨by simp only [PyData.showableAll, PyData.showable, a, Bool.and_self], by simp only [PyData.hasDictAll, PyData.hasDict, b, Bool.or_self], by simp only [PyData.leavesShortAll, l1, c, Bool.and_self], by simp only [PyData.depthAll, PyData.depth, d, Nat.max_self], ?_, by simp only [PyData.canLayAll0, l2, f, Bool.and_self]⟩
    simp only [PyData.bulkAll, l3]
    rw [List.length_cons]
    omega
theorem per_turns {b : Bw} {p : Nat} (h : Per b p) {t : Nat} (t1 : 1 ≤ t) (t2 : t ≤ p) : Bw.turns t b = b ↔ t = p := by
  refine ⟨fun e => ?_, fun e => by rw [e]; exact h.2.2.1⟩
  rcases Nat.lt_or_ge t p with q | q
  · exact absurd e (h.2.2.2 t t1 q)
  · omega
/-- the words into which b is turned, the first t of them -/
def rowsV (b : Bw) (t : Nat) : List V := (List.range t).map fun i => .str (S (Bw.turns i b).w)
def rowsW (b : Bw) (t : Nat) : List (List Nat) := (List.range t).map fun i => (Bw.turns i b).w
theorem rowsV_W (b : Bw) (t : Nat) : rowsV b t = (rowsW b t).map fun x => V.str (S x) := by
  unfold rowsV rowsW
  rw [List.map_map]
  rfl
theorem rowsV_len (b : Bw) (t : Nat) : (rowsV b t).length = t := by unfold rowsV; rw [List.length_map, List.length_range]
theorem rowsW_ok {b : Bw} (hb : b.n ≤ 400) (t : Nat) : ∀ x ∈ rowsW b t, x.length ≤ 400 ∧ sg x = true := fun x hx => by
  obtain ⟨i, _, rfl⟩ := List.mem_map.mp hx
  exact ⟨by have := Bw.turns_n i b; have : (Bw.turns i b).w.length = (Bw.turns i b).n := rfl; omega, (Bw.w_ok _ 0).1⟩
theorem dp_ts {K : PySem.W.Frag} {H : Hp} : ∀ ts : List (List Nat), DpAll K H (ts.map fun x => V.str (S x)) (TS ts)
  | [] => .nil
  | t :: ts => .cons (.str _) (dp_ts ts)
theorem okDs_ts : ∀ ts : List (List Nat), (∀ t ∈ ts, sg t = true) → okDs (TS ts) = true
  | [], _ => by simp only [TS, List.map_nil, okDs]
  | t :: ts, h => by
    have ih := okDs_ts ts fun x hx => h x (List.mem_cons_of_mem _ hx)
    have e1 : TS (t :: ts) = PyData.str (S t) :: TS ts := rfl
    rw [e1]
    have o : okD (.str (S t)) = true := by
      simp only [okD, List.all_eq_true, decide_eq_true_eq]
      intro c hc
      have tg := h t (List.mem_cons_self ..)
      unfold sg at tg
      rw [List.all_eq_true] at tg
      have := tg c hc
      simp only [Bool.or_eq_true, beq_iff_eq] at this
      omega
    simp only [okDs, o, ih, Bool.and_self]
theorem gd_ts {K : PySem.W.Frag} {H : Hp} {p : Addr} {ts : List (List Nat)} (h : SqL K H p (ts.map fun x => V.str (S x))) (hl : ts.length ≤ 20) (hs : ∀ t ∈ ts, t.length ≤ 400 ∧ sg t = true) : GD K H (.ref p) (.list (TS ts)) := by
  obtain ⟨a, b, c, d, e, f⟩ := ts_all ts hs
  refine GD.of h (dp_ts ts) (okDs_ts ts fun t ht => (hs t ht).2) ?_ (by rw [d]; decide)
  have : 401 * ts.length ≤ 401 * 20 := Nat.mul_le_mul_left _ hl
  omega
theorem eqv_gd {K : PySem.W.Frag} {H : Hp} {x : V} {d : PyData} (g : GD K H x d) : PyData.eqv d d = true := SeqAt.eqv_refl _ (okD_all d g.ok).2.2.2
theorem rowsV_at {b : Bw} {t i : Nat} (h : i < t) : atI (rowsV b t) (i : Int) = some (.str (S (Bw.turns i b).w)) := atI_nat (by unfold rowsV; rw [List.getElem?_map, List.getElem?_range h]; rfl)

/-! ### the law's state -/
def spLst : Sp := fun vs H Q _ => ∃ (b : Bw) (sh : Nat) (h : Bool), vs = [.str (S b.w), .int sh, .bl h] ∧ 0 < b.n ∧ b.n ≤ 400 ∧ sh ≤ b.n ∧ ∀ H', Same H H' → Q (.str (S (stW b sh h))) H'
section
variable {P : Program} {w : World} {K : PySem.W.Frag} {mg : Str → Option Value} {base : Heap}
theorem ok__law_state {f : Addr} {fd : FuncData} (F : Fun K "_law_state" "_law_state" s__law_state f fd) (T : Txt K mg) : FnOk P w K mg base CX0 1 f fd ["word", "shift", "burns"] spLst := by
  have nd := sc__law_state.nd
  refine F.ok sc__law_state (fun vs H Q E h => ?_) (fun cdv A outer s H vs Q E hr h => ?_)
  · obtain ⟨b, sh, h, rfl, _⟩ := h
    rfl
  · obtain ⟨b, sh, h, rfl, h0, hb, hs, q⟩ := h
    have lz : ∀ n : Nat, n ≤ 2000 → n ≤ sizeLine := fun n h => Nat.le_trans h (by decide)
    refine ⟨_, (pss_cons (ps_set (i := 3) nd rfl (by first | exact Or.inl rfl | exact Or.inr rfl) (pe_op op_add_S (pv 0) (pe_ifExp (pt_val (pv 2)) (pe_lit (l := [49]) (by decide +kernel)) (pe_lit (l := [48]) (by decide +kernel)))))
 (pss_cons (ps_set (i := 4) nd rfl (by first | exact Or.inl rfl | exact Or.inr rfl) (pe_callB call_len_S (by rfl) T.n_len (by decide +kernel) (pa_cons (pv 3) pa_nil)))
 (pss_one (ps_ret (pe_m1 PySem.F.slot_str_join PySem.F.type_str_join mt_joinS (pe_lit (l := []) (by decide +kernel)) (pe_lc (own := [("lamp", 5)]) rfl nd (pi_range1 (by rfl) T.n_range (pa_cons (pv 4) pa_nil)) (blkOk_by (N := N__law_state) (sc := defScope s__law_state) (by decide +kernel)) (fun _ _ _ _ _ => (pg_name (i := 5) nd rfl (by first | exact Or.inl rfl | exact Or.inr rfl))) (fun _ _ _ _ _ => pts_nil) (fun _ _ _ _ _ => (pe_ix ix_str (pv 3) (pe_op op_mod (pe_callTy call_int1 (by rfl) T.n_int (by decide +kernel) (pa_cons (pe_op op_sub (pv 5) (pv 1)) pa_nil)) (pv 4)) (fun _ _ => rfl))))))))), ?_⟩
    have wl : ∀ c : Nat, b.w.length + [c].length ≤ sizeLine := fun c => lz _ (by show b.n + 1 ≤ 2000; omega)
    refine ⟨_, rfl, _, rfl, _, rfl, ?_⟩
    cases h with
    | true =>
      refine iteT ⟨_, _, rfl, rfl, wl _, ?_⟩
      have rl : (b.w ++ [49]).length = b.n + 1 := rowW_len b true
      have rz : (b.w ++ [49]).length ≤ sizeLine := lz _ (by omega)
      refine ⟨_, rfl, _, rfl, rz, ?_⟩
      refine ⟨⟨_, rfl⟩, _, rfl, _, rfl, by omega, by omega, fun D nD => ?_⟩
      rw [Int.toNat_natCast]
      refine lc_range (lo := 0) (n := (b.w ++ [49]).length) (fun j H' => Same H H' ∧ H' D = some (.lst (sgs ((stW b sh true).take j)))) ⟨same_new nD, upd_same⟩ ?_ ?_
      · rintro j H' hj ⟨sm, hD⟩
        refine ⟨rfl, ?_⟩
        dsimp only [tYes]
        rw [if_pos rfl]
        have jn : j ≤ b.n := by omega
        have e0 : ((0 : Int) + (j : Int) - (sh : Int)) % (((b.w ++ [49]).length : Nat) : Int) = (((j + (b.n + 1 - sh)) % (b.n + 1) : Nat) : Int) := by
          rw [rl, Int.natCast_emod]
          have e1 : ((j + (b.n + 1 - sh) : Nat) : Int) = (0 : Int) + (j : Int) - (sh : Int) + ((b.n + 1 : Nat) : Int) := by omega
          rw [e1, Int.add_emod_right]
        have il : (j + (b.n + 1 - sh)) % (b.n + 1) < b.n + 1 := Nat.mod_lt _ (Nat.succ_pos _)
        have sg0 := stW_get b (s := sh) (i := j) true jn
        obtain ⟨c, hc⟩ : ∃ c, (b.w ++ [49])[(j + (b.n + 1 - sh)) % (b.n + 1)]? = some c := ⟨_, List.getElem?_eq_getElem (by rw [rl]; exact il)⟩
        refine ⟨_, rfl, _, rfl, _, rfl, _, _, rfl, rfl, .inl ⟨_, rfl, _, rfl, _, _, rfl, rfl, by rw [rl]; show (0 : Int) < ((b.n + 1 : Nat) : Int); omega, _, _, c, rfl, rfl, by rw [S_len]; exact rz, ?_, ?_⟩⟩
        · show atI (b.w ++ [49]) _ = some c
          rw [e0]
          exact atI_nat hc
        · have tk : (stW b sh true).take (j + 1) = (stW b sh true).take j ++ [c] := by
            rw [List.take_add_one, sg0]
            show _ ++ ((b.w ++ [49])[(j + (b.n + 1 - sh)) % (b.n + 1)]?).toList = _
            rw [hc]
            rfl
          refine ⟨_, hD, ?_, same_put sm nD, ?_⟩
          · unfold sgs
            rw [List.length_map, List.length_take]
            exact small1000 (by omega)
          · rw [upd_same, tk]
            unfold sgs
            rw [List.map_append]
            rfl
      · rintro H' ⟨sm, hD⟩
        have tl : (stW b sh true).take (b.w ++ [49]).length = stW b sh true := List.take_of_length_le (by rw [stW_len, rl]; exact Nat.le_refl _)
        rw [tl, sgs_map] at hD
        refine ⟨D, _, rfl, rfl, .inl (SqL.of hD), by rw [flat_ones, stW_len]; omega, ?_⟩
        rw [flat_ones]
        exact q H' sm
    | false =>
      refine iteF ⟨_, _, rfl, rfl, wl _, ?_⟩
      have rl : (b.w ++ [48]).length = b.n + 1 := rowW_len b false
      have rz : (b.w ++ [48]).length ≤ sizeLine := lz _ (by omega)
      refine ⟨_, rfl, _, rfl, rz, ?_⟩
      refine ⟨⟨_, rfl⟩, _, rfl, _, rfl, by omega, by omega, fun D nD => ?_⟩
      rw [Int.toNat_natCast]
      refine lc_range (lo := 0) (n := (b.w ++ [48]).length) (fun j H' => Same H H' ∧ H' D = some (.lst (sgs ((stW b sh false).take j)))) ⟨same_new nD, upd_same⟩ ?_ ?_
      · rintro j H' hj ⟨sm, hD⟩
        refine ⟨rfl, ?_⟩
        dsimp only [tYes]
        rw [if_pos rfl]
        have jn : j ≤ b.n := by omega
        have e0 : ((0 : Int) + (j : Int) - (sh : Int)) % (((b.w ++ [48]).length : Nat) : Int) = (((j + (b.n + 1 - sh)) % (b.n + 1) : Nat) : Int) := by
          rw [rl, Int.natCast_emod]
          have e1 : ((j + (b.n + 1 - sh) : Nat) : Int) = (0 : Int) + (j : Int) - (sh : Int) + ((b.n + 1 : Nat) : Int) := by omega
          rw [e1, Int.add_emod_right]
        have il : (j + (b.n + 1 - sh)) % (b.n + 1) < b.n + 1 := Nat.mod_lt _ (Nat.succ_pos _)
        have sg0 := stW_get b (s := sh) (i := j) false jn
        obtain ⟨c, hc⟩ : ∃ c, (b.w ++ [48])[(j + (b.n + 1 - sh)) % (b.n + 1)]? = some c := ⟨_, List.getElem?_eq_getElem (by rw [rl]; exact il)⟩
        refine ⟨_, rfl, _, rfl, _, rfl, _, _, rfl, rfl, .inl ⟨_, rfl, _, rfl, _, _, rfl, rfl, by rw [rl]; show (0 : Int) < ((b.n + 1 : Nat) : Int); omega, _, _, c, rfl, rfl, by rw [S_len]; exact rz, ?_, ?_⟩⟩
        · show atI (b.w ++ [48]) _ = some c
          rw [e0]
          exact atI_nat hc
        · have tk : (stW b sh false).take (j + 1) = (stW b sh false).take j ++ [c] := by
            rw [List.take_add_one, sg0]
            show _ ++ ((b.w ++ [48])[(j + (b.n + 1 - sh)) % (b.n + 1)]?).toList = _
            rw [hc]
            rfl
          refine ⟨_, hD, ?_, same_put sm nD, ?_⟩
          · unfold sgs
            rw [List.length_map, List.length_take]
            exact small1000 (by omega)
          · rw [upd_same, tk]
            unfold sgs
            rw [List.map_append]
            rfl
      · rintro H' ⟨sm, hD⟩
        have tl : (stW b sh false).take (b.w ++ [48]).length = stW b sh false := List.take_of_length_le (by rw [stW_len, rl]; exact Nat.le_refl _)
        rw [tl, sgs_map] at hD
        refine ⟨D, _, rfl, rfl, .inl (SqL.of hD), by rw [flat_ones, stW_len]; omega, ?_⟩
        rw [flat_ones]
        exact q H' sm
end

/-! ### each state has one home -/
theorem hgt_of_dp : ∀ (a : List Nat) (h : Nat), (∀ i, i ≤ a.length → 0 ≤ (h : Int) + dp (a.take i)) → ∃ k : Nat, hgt h a = some k ∧ (k : Int) = (h : Int) + dp a
  | [], h, _ => ⟨h, rfl, by show (h : Int) = h + 0; omega⟩
  | c :: a, h, hp => by
    have h1 := hp 1 (by rw [List.length_cons]; omega)
    have e1 : dp ((c :: a).take 1) = (if c = 49 then 1 else -1) := by
      show dp [c] = _
      rw [dp_cons]
      show _ + 0 = _
      rw [Int.add_zero]
    rw [e1] at h1
    by_cases ec : c = 49
    · subst ec
      rw [hgt_up]
      obtain ⟨k, hk1, hk2⟩ := hgt_of_dp a (h + 1) fun i hi => by
        have h2 := hp (i + 1) (by rw [List.length_cons]; omega)
        rw [List.take_succ_cons, dp_cons, if_pos rfl] at h2
        omega
      refine ⟨k, hk1, ?_⟩
      rw [dp_cons, if_pos rfl]
      omega
    · rw [if_neg ec] at h1
      obtain ⟨j, rfl⟩ : ∃ j, h = j + 1 := ⟨h - 1, by omega⟩
      rw [hgt_down ec]
      obtain ⟨k, hk1, hk2⟩ := hgt_of_dp a j fun i hi => by
        have h2 := hp (i + 1) (by rw [List.length_cons]; omega)
        rw [List.take_succ_cons, dp_cons, if_neg ec] at h2
        omega
      refine ⟨k, hk1, ?_⟩
      rw [dp_cons, if_neg ec]
      omega
/-- the first lowest place -/
theorem first_low (v : Nat → Int) : ∀ N : Nat, ∃ f, f ≤ N ∧ (∀ i, i ≤ N → v f ≤ v i) ∧ ∀ i, i < f → v f < v i
  | 0 => ⟨0, Nat.le_refl _, fun i hi => by rw [Nat.le_zero.mp hi]; exact Int.le_refl _, fun i hi => absurd hi (Nat.not_lt_zero _)⟩
  | N + 1 => by
    obtain ⟨f, h1, h2, h3⟩ := first_low v N
    by_cases h : v (N + 1) < v f
    · refine ⟨N + 1, Nat.le_refl _, fun i hi => ?_, fun i hi => ?_⟩
      · rcases Nat.lt_or_ge N i with h4 | h4
        · have : i = N + 1 := by omega
          rw [this]
          exact Int.le_refl _
        · have := h2 i h4
          omega
      · have := h2 i (by omega)
        omega
    · refine ⟨f, by omega, fun i hi => ?_, h3⟩
      rcases Nat.lt_or_ge N i with h4 | h4
      · have : i = N + 1 := by omega
        rw [this]
        omega
      · exact h2 i h4
theorem low_ex {a : List Nat} (hs : sg a = true) (hd : dp a = -1) (h3 : 3 ≤ a.length) (h4 : a.length ≤ 401) : ∃ (b : Bw) (s : Nat), 0 < b.n ∧ b.n ≤ 400 ∧ s ≤ b.n ∧ a = stW b s false := by
  obtain ⟨f, f1, f2, f3⟩ := first_low (fun i => dp (a.take i)) a.length
  have vN : dp (a.take a.length) = -1 := by rw [List.take_length, hd]
  have v0 : dp (a.take 0) = 0 := rfl
  have fp : 0 < f := by
    rcases Nat.eq_zero_or_pos f with h | h
    · subst h
      have := f2 a.length (Nat.le_refl _)
      omega
    · exact h
  obtain ⟨g, rfl⟩ : ∃ g, f = g + 1 := ⟨f - 1, by omega⟩
  have gl : g < a.length := by omega
  obtain ⟨c, hc⟩ : ∃ c, a[g]? = some c := ⟨_, List.getElem?_eq_getElem gl⟩
  have tk : a.take (g + 1) = a.take g ++ [c] := by rw [List.take_add_one, hc]; rfl
  have c8 : c ≠ 49 := by
    rintro rfl
    have h5 := f3 g (by omega)
    rw [tk, dp_app, dp_cons, if_pos rfl] at h5
    have : dp [] = 0 := rfl
    omega
  have c48 : c = 48 := by
    unfold sg at hs
    rw [List.all_eq_true] at hs
    have := hs c (List.mem_of_getElem? hc)
    simp only [Bool.or_eq_true, beq_iff_eq] at this
    omega
  subst c48
  have split : a = a.take g ++ [48] ++ a.drop (g + 1) := by rw [← tk, List.take_append_drop]
  have dA : dp (a.take (g + 1)) = dp (a.take g) - 1 := by
    rw [tk, dp_app, dp_cons, if_neg (by decide)]
    have : dp [] = 0 := rfl
    omega
  have dB : dp (a.drop (g + 1)) = -1 - dp (a.take (g + 1)) := by
    have h5 := dp_app (a.take (g + 1)) (a.drop (g + 1))
    rw [List.take_append_drop, hd] at h5
    omega
  have sgw : sg (a.drop (g + 1) ++ a.take g) = true := by
    unfold sg at hs ⊢
    rw [List.all_eq_true] at hs ⊢
    intro x hx
    rcases List.mem_append.mp hx with h | h
    · exact hs x (List.mem_of_mem_drop h)
    · exact hs x (List.mem_of_mem_take h)
  have pre : ∀ i, i ≤ (a.drop (g + 1) ++ a.take g).length → 0 ≤ ((0 : Nat) : Int) + dp ((a.drop (g + 1) ++ a.take g).take i) := by
    intro i hi
    rcases Nat.le_total i (a.drop (g + 1)).length with h | h
    · rw [List.take_append_of_le_length h]
      have h5 : dp (a.take (g + 1 + i)) = dp (a.take (g + 1)) + dp ((a.drop (g + 1)).take i) := by rw [List.take_add, dp_app]
      rw [List.length_drop] at h
      have := f2 (g + 1 + i) (by omega)
      omega
    · obtain ⟨j, rfl⟩ : ∃ j, i = (a.drop (g + 1)).length + j := ⟨i - (a.drop (g + 1)).length, by omega⟩
      have e5 : (a.drop (g + 1) ++ a.take g).take ((a.drop (g + 1)).length + j) = a.drop (g + 1) ++ (a.take g).take j := by
        rw [List.take_append, List.take_of_length_le (by omega)]
        congr 2
        omega
      rw [e5, dp_app, dB, List.take_take]
      have := f3 (min j g) (by omega)
      omega
  obtain ⟨k, hk1, hk2⟩ := hgt_of_dp _ 0 pre
  have dw : dp (a.drop (g + 1) ++ a.take g) = 0 := by
    rw [dp_app, dB]
    omega
  rw [dw] at hk2
  have k0 : k = 0 := by omega
  subst k0
  obtain ⟨b, hb⟩ := Bw.of_word sgw hk1
  have bn : b.n = a.length - 1 := by
    have h5 := congrArg List.length hb
    rw [List.length_append, List.length_drop, List.length_take] at h5
    show b.w.length = _
    rw [← h5]
    omega
  have row : rowW b false = a.drop (g + 1) ++ a.take (g + 1) := by
    unfold rowW
    rw [← hb, tk, List.append_assoc]
    rfl
  refine ⟨b, (g + 1) % (b.n + 1), by omega, by omega, Nat.le_of_lt_succ (Nat.mod_lt _ (Nat.succ_pos _)), ?_⟩
  unfold stW
  rw [row]
  rcases Nat.lt_or_ge (g + 1) a.length with h | h
  · have e5 : (g + 1) % (b.n + 1) = g + 1 := Nat.mod_eq_of_lt (by omega)
    have e6 : (b.n + 1 - (g + 1)) % (b.n + 1) = (a.drop (g + 1)).length := by
      rw [Nat.mod_eq_of_lt (by omega), List.length_drop]
      omega
    rw [e5, e6]
    unfold rotL
    rw [List.drop_left, List.take_left, List.take_append_drop]
  · have e4 : g + 1 = b.n + 1 := by omega
    rw [e4, Nat.mod_self, Nat.sub_zero, Nat.mod_self]
    unfold rotL
    rw [List.drop_zero, List.take_zero, List.append_nil, List.drop_of_length_le (by omega), List.nil_append, List.take_of_length_le (by omega)]
theorem exch_len2 (a : List Nat) : (exch a).length = a.length := by unfold exch; rw [List.length_map]
theorem exch_two : ∀ a : List Nat, sg a = true → exch (exch a) = a ∧ sg (exch a) = true ∧ dp (exch a) = - dp a
  | [], _ => ⟨rfl, rfl, rfl⟩
  | c :: a, h => by
    have h1 : ((c == 48 || c == 49) && sg a) = true := h
    rw [Bool.and_eq_true, Bool.or_eq_true, beq_iff_eq, beq_iff_eq] at h1
    obtain ⟨i1, i2, i3⟩ := exch_two a h1.2
    have e : exch (c :: a) = (if c = 49 then 48 else 49) :: exch a := rfl
    rw [e]
    rcases h1.1 with q | q
    · subst q
      refine ⟨?_, ?_, ?_⟩
      · show (if (49 : Nat) = 49 then 48 else 49) :: exch (exch a) = _
        rw [i1]
        rfl
      · show ((49 == 48 || 49 == 49) && sg (exch a)) = true
        rw [i2]
        rfl
      · show dp (49 :: exch a) = _
        rw [dp_cons, dp_cons, i3]
        show (1 : Int) + -dp a = -(-1 + dp a)
        omega
    · subst q
      refine ⟨?_, ?_, ?_⟩
      · show (if (48 : Nat) = 49 then 48 else 49) :: exch (exch a) = _
        rw [i1]
        rfl
      · show ((48 == 48 || 48 == 49) && sg (exch a)) = true
        rw [i2]
        rfl
      · show dp (48 :: exch a) = _
        rw [dp_cons, dp_cons, i3]
        show (-1 : Int) + -dp a = -(1 + dp a)
        omega
theorem sg_rev {a : List Nat} (h : sg a = true) : sg a.reverse = true := by
  unfold sg at h ⊢
  rw [List.all_reverse]
  exact h
theorem dp_rev (a : List Nat) : dp a.reverse = dp a := by
  unfold dp
  rw [List.count_reverse, List.length_reverse]
theorem exch_rev (a : List Nat) : exch a.reverse = (exch a).reverse := by
  unfold exch
  rw [List.map_reverse]
theorem home_ex {a : List Nat} (h : isSt a = true) : ∃ (b : Bw) (s : Nat) (hh : Bool), 0 < b.n ∧ b.n ≤ 400 ∧ s ≤ b.n ∧ a = stW b s hh := by
  obtain ⟨h1, h2, h3, h4, h5⟩ := isSt_of h
  rcases h5 with h5 | h5
  · have hd : dp a = -1 := by
      unfold dp
      omega
    obtain ⟨b, s, x1, x2, x3, x4⟩ := low_ex h1 hd h2 h3
    exact ⟨b, s, false, x1, x2, x3, x4⟩
  · have hd : dp a = 1 := by
      unfold dp
      omega
    obtain ⟨y1, y2, y3⟩ := exch_two a.reverse (sg_rev h1)
    have hl : (exch a.reverse).length = a.length := by rw [exch_len2, List.length_reverse]
    obtain ⟨b, s, x1, x2, x3, x4⟩ := low_ex y2 (by rw [y3, dp_rev, hd]) (by omega) (by omega)
    have mn := Bw.mir_n b
    refine ⟨Bw.mir b, (b.n + 2 - s) % (b.n + 1), true, by omega, by omega, by rw [mn]; exact Nat.le_of_lt_succ (Nat.mod_lt _ (Nat.succ_pos _)), ?_⟩
    have e := stW_mir b false x1 x3
    rw [← x4, ← exch_rev, List.reverse_reverse] at e
    rw [(exch_two a h1).1] at e
    exact e
theorem low_uniq {b c : Bw} {s t : Nat} (hs : s ≤ b.n) (ht : t ≤ c.n) (h : stW b s false = stW c t false) : b = c ∧ s = t := by
  have hn : b.n = c.n := by
    have := congrArg List.length h
    rw [stW_len, stW_len] at this
    omega
  obtain ⟨l1, l2, l3, l4⟩ := low_first b hs
  obtain ⟨m1, m2, m3, m4⟩ := low_first c ht
  rw [← h] at m3 m4
  have e : lowAt b s = lowAt c t := by
    rcases Nat.lt_trichotomy (lowAt b s) (lowAt c t) with q | q | q
    · have x1 := m4 _ q
      have x2 := l3 (lowAt c t) (by omega)
      omega
    · exact q
    · have x1 := l4 _ q
      have x2 := m3 (lowAt b s) (by omega)
      omega
  have est : s = t := by rw [← l2, ← m2, e, hn]
  subst est
  have r : rotL (stW b s false) s = rotL (stW c s false) s := congrArg (fun r => rotL r s) h
  rw [stW_back b false hs, stW_back c false ht] at r
  unfold rowW at r
  exact ⟨Bw.w_inj _ _ (List.append_cancel_right r), rfl⟩
theorem shift_inj {n s t : Nat} (hs : s ≤ n) (ht : t ≤ n) (h0 : 0 < n) (h : (n + 2 - s) % (n + 1) = (n + 2 - t) % (n + 1)) : s = t := by
  have two : ∀ s, s ≤ n → (n + 2 - s) % (n + 1) = if s ≤ 1 then 1 - s else n + 2 - s := by
    intro s hs
    by_cases q : s ≤ 1
    · rw [if_pos q]
      have e : n + 2 - s = (1 - s) + (n + 1) := by omega
      rw [e, Nat.add_mod_right, Nat.mod_eq_of_lt (by omega)]
    · rw [if_neg q, Nat.mod_eq_of_lt (by omega)]
  rw [two s hs, two t ht] at h
  split at h <;> split at h <;> omega
theorem home_uniq {b c : Bw} {s t : Nat} {h k : Bool} (h0 : 0 < b.n) (h1 : 0 < c.n) (hs : s ≤ b.n) (ht : t ≤ c.n) (e : stW b s h = stW c t k) : b = c ∧ s = t ∧ h = k := by
  have hn : b.n = c.n := by
    have := congrArg List.length e
    rw [stW_len, stW_len] at this
    omega
  have hc := congrArg (List.count 49) e
  rw [stW_count, stW_count] at hc
  have c1 := cnt_w b
  have c2 := cnt_w c
  have hk : h = k := by
    cases h <;> cases k
    · rfl
    · exfalso
      have z1 : [sgn false].count 49 = 0 := rfl
      have z2 : [sgn true].count 49 = 1 := rfl
      omega
    · exfalso
      have z1 : [sgn false].count 49 = 0 := rfl
      have z2 : [sgn true].count 49 = 1 := rfl
      omega
    · rfl
  subst hk
  cases h with
  | false =>
    obtain ⟨x, y⟩ := low_uniq hs ht e
    exact ⟨x, y, rfl⟩
  | true =>
    have e2 : exch (stW b s true).reverse = exch (stW c t true).reverse := congrArg (fun a => exch a.reverse) e
    rw [stW_mir b true h0 hs, stW_mir c true h1 ht] at e2
    have mb := Bw.mir_n b
    have mc := Bw.mir_n c
    obtain ⟨x, y⟩ := low_uniq (b := Bw.mir b) (c := Bw.mir c) (by rw [mb]; exact Nat.le_of_lt_succ (Nat.mod_lt _ (Nat.succ_pos _))) (by rw [mc]; exact Nat.le_of_lt_succ (Nat.mod_lt _ (Nat.succ_pos _))) e2
    have x2 : b = c := by rw [← Bw.mir_mir b, x, Bw.mir_mir]
    subst x2
    exact ⟨rfl, shift_inj hs ht h0 y, rfl⟩

/-! ### homes told -/
def spHome : Sp := fun vs H Q _ => ∃ (b : Bw) (s : Nat) (h : Bool), vs = [.str (S (stW b s h))] ∧ 0 < b.n ∧ b.n ≤ 400 ∧ s ≤ b.n ∧ ∀ H' p, Same H H' → H' p = some (.tup [.str (S b.w), .int s]) → Q (.ref p) H'
def spSth (h : Bool) : Sp := fun vs H Q _ => ∃ (b : Bw) (s : Nat), vs = [.str (S b.w), .int s] ∧ 0 < b.n ∧ b.n ≤ 400 ∧ s ≤ b.n ∧ ∀ H', Same H H' → Q (.str (S (stW b s h))) H'
def spCkHome : Sp := fun vs H Q _ => ∃ (b : Bw) (s : Nat), vs = [.str (S b.w), .int s] ∧ 0 < b.n ∧ b.n ≤ 400 ∧ s ≤ b.n ∧ Q .non H
def spHigh : Sp := fun vs H Q _ => ∃ a : List Nat, vs = [.str (S a)] ∧ isSt a = true ∧ ∀ H', Same H H' → Q (.bl (decide (a.length / 2 < a.count 49))) H'
def spLisw : Sp := fun vs H Q _ => ∃ a : List Nat, vs = [.str (S a)] ∧ Q (.bl (hgt 0 a == some 0)) H
section
variable {P : Program} {w : World} {K : PySem.W.Frag} {mg : Str → Option Value} {base : Heap}
theorem ok_home_of {f : Addr} {fd : FuncData} (F : Fun K "home_of" "home_of" s_home_of f fd) (T : Txt K mg) (c_place_of : Cl P w K mg base 5 "place_of" spPlace) : FnOk P w K mg base CX0 6 f fd ["state"] spHome := by
  have nd := sc_home_of.nd
  refine F.ok sc_home_of (fun vs H Q E h => ?_) (fun cdv A outer s H vs Q E hr h => ?_)
  · obtain ⟨b, s, h, rfl, _⟩ := h
    rfl
  · obtain ⟨b, s, h, rfl, h0, hb, hs, q⟩ := h
    refine ⟨_, (pss_cons (ps_asg (pe_f c_place_of hr (by decide) (by rfl) (pa_cons (pv 0) pa_nil)) (pg_tup rfl (pgs_cons (pg_name (i := 1) nd rfl (by first | exact Or.inl rfl | exact Or.inr rfl)) (pgs_cons (pg_name (i := 2) nd rfl (by first | exact Or.inl rfl | exact Or.inr rfl)) (pgs_cons (pg_name (i := 3) nd rfl (by first | exact Or.inl rfl | exact Or.inr rfl)) pgs_nil)))))
 (pss_one (ps_ret (pe_tup (pa_cons (pv 1) (pa_cons (pv 2) pa_nil)))))), ?_⟩
    refine ⟨_, rfl, b, s, h, rfl, h0, hb, hs, fun H1 p s1 hp => ?_⟩
    refine ⟨p, _, rfl, SqT.of hp, rfl, _, _, rfl, _, _, rfl, _, _, rfl, rfl, ?_⟩
    exact ⟨_, rfl, _, rfl, by show 2 ≤ sizeLine; decide, fun r nr => q _ r (fun x o e => same_new nr _ _ (s1 _ _ e)) upd_same⟩
theorem ok__check_home {f : Addr} {fd : FuncData} (F : Fun K "_check_home" "_check_home" s__check_home f fd) (T : Txt K mg) (c_check_word : Cl P w K mg base 3 "check_word" spCkWord) (c_check_number : Cl P w K mg base 3 "check_number" (spCheck K)) : FnOk P w K mg base CX0 4 f fd ["word", "shift"] spCkHome := by
  have nd := sc__check_home.nd
  refine F.ok sc__check_home (fun vs H Q E h => ?_) (fun cdv A outer s H vs Q E hr h => ?_)
  · obtain ⟨b, s, rfl, _⟩ := h
    rfl
  · obtain ⟨b, s, rfl, h0, hb, hs, q⟩ := h
    have wl : b.w.length = b.n := rfl
    refine ⟨_, (pss_cons (ps_expr (pe_f c_check_word hr (by decide) (by rfl) (pa_cons (pv 0) (pa_cons (pe_lit (l := [119, 111, 114, 100]) (by decide +kernel)) pa_nil))))
 (pss_one (ps_expr (pe_f c_check_number hr (by decide) (by rfl) (pa_cons (pv 1) (pa_cons pe_int (pa_cons (pe_callB call_len_S (by rfl) T.n_len (by decide +kernel) (pa_cons (pv 0) pa_nil)) (pa_cons (pe_lit (l := [115, 104, 105, 102, 116]) (by decide +kernel)) pa_nil)))))))), ?_⟩
    refine ⟨_, rfl, b.w, _, rfl, Bw.isWd b h0 hb, ?_⟩
    refine ⟨_, rfl, _, rfl, b.w, rfl, Nat.le_trans (by omega : b.w.length ≤ 401) (by decide), _, _, _, _, "int", rfl, .int _, .inr ⟨_, rfl⟩, .inr ⟨_, rfl⟩, ?_, q⟩
    show (decide ((0 : Int) ≤ (s : Int)) && decide ((s : Int) ≤ ((b.w.length : Nat) : Int))) = true
    rw [decide_eq_true (by omega), decide_eq_true (by omega)]
    rfl
theorem ok_low_state {f : Addr} {fd : FuncData} (F : Fun K "low_state" "low_state" s_low_state f fd) (T : Txt K mg) (c__check_home : Cl P w K mg base 4 "_check_home" spCkHome) (c_state_of : Cl P w K mg base 2 "state_of" (spStateOf K)) : FnOk P w K mg base CX0 5 f fd ["word", "shift"] (spSth false) := by
  have nd := sc_low_state.nd
  refine F.ok sc_low_state (fun vs H Q E h => ?_) (fun cdv A outer s H vs Q E hr h => ?_)
  · obtain ⟨b, s, rfl, _⟩ := h
    rfl
  · obtain ⟨b, s, rfl, h0, hb, hs, q⟩ := h
    refine ⟨_, (pss_cons (ps_expr (pe_f c__check_home hr (by decide) (by rfl) (pa_cons (pv 0) (pa_cons (pv 1) pa_nil))))
 (pss_one (ps_ret (pe_f c_state_of hr (by decide) (by rfl) (pa_cons (pe_tup (pa_cons (pv 0) (pa_cons (pv 1) (pa_cons pe_bl pa_nil)))) pa_nil))))), ?_⟩
    refine ⟨_, rfl, _, rfl, b, s, rfl, h0, hb, hs, ?_⟩
    exact ⟨_, rfl, _, rfl, by show 3 ≤ sizeLine; decide, fun r nr => ⟨r, b, s, false, rfl, SqT.of upd_same, h0, hb, hs, q _ (same_new nr)⟩⟩
theorem ok_high_state {f : Addr} {fd : FuncData} (F : Fun K "high_state" "high_state" s_high_state f fd) (T : Txt K mg) (c__check_home : Cl P w K mg base 4 "_check_home" spCkHome) (c_state_of : Cl P w K mg base 2 "state_of" (spStateOf K)) : FnOk P w K mg base CX0 5 f fd ["word", "shift"] (spSth true) := by
  have nd := sc_high_state.nd
  refine F.ok sc_high_state (fun vs H Q E h => ?_) (fun cdv A outer s H vs Q E hr h => ?_)
  · obtain ⟨b, s, rfl, _⟩ := h
    rfl
  · obtain ⟨b, s, rfl, h0, hb, hs, q⟩ := h
    refine ⟨_, (pss_cons (ps_expr (pe_f c__check_home hr (by decide) (by rfl) (pa_cons (pv 0) (pa_cons (pv 1) pa_nil))))
 (pss_one (ps_ret (pe_f c_state_of hr (by decide) (by rfl) (pa_cons (pe_tup (pa_cons (pv 0) (pa_cons (pv 1) (pa_cons pe_bl pa_nil)))) pa_nil))))), ?_⟩
    refine ⟨_, rfl, _, rfl, b, s, rfl, h0, hb, hs, ?_⟩
    exact ⟨_, rfl, _, rfl, by show 3 ≤ sizeLine; decide, fun r nr => ⟨r, b, s, true, rfl, SqT.of upd_same, h0, hb, hs, q _ (same_new nr)⟩⟩
theorem ok_is_high {f : Addr} {fd : FuncData} (F : Fun K "is_high" "is_high" s_is_high f fd) (T : Txt K mg) (c_check_state : Cl P w K mg base 3 "check_state" spCkSt0) : FnOk P w K mg base CX0 4 f fd ["state"] spHigh := by
  have nd := sc_is_high.nd
  refine F.ok sc_is_high (fun vs H Q E h => ?_) (fun cdv A outer s H vs Q E hr h => ?_)
  · obtain ⟨a, rfl, _⟩ := h
    rfl
  · obtain ⟨a, rfl, ha, q⟩ := h
    have la := (isSt_of ha).2.2.1
    refine ⟨_, (pss_cons (ps_expr (pe_f c_check_state hr (by decide) (by rfl) (pa_cons (pv 0) (pa_cons (pe_lit (l := [115, 116, 97, 116, 101]) (by decide +kernel)) pa_nil))))
 (pss_one (ps_ret (pe_cmpR op_gt (pe_m1 PySem.F.slot_str_count PySem.F.type_str_count mt_countS (pv 0) (pe_lit (l := [49]) (by decide +kernel))) (pe_op op_fdiv (pe_callB call_len_S (by rfl) T.n_len (by decide +kernel) (pa_cons (pv 0) pa_nil)) pe_int) (nomark _))))), ?_⟩
    refine ⟨_, rfl, a, _, rfl, ha, fun H1 s1 => ?_⟩
    refine ⟨_, rfl, ⟨_, rfl⟩, a, 49, rfl, rfl, _, rfl, a, rfl, Nat.le_trans la (by decide), _, _, rfl, rfl, ⟨by decide, by decide⟩, _, _, rfl, rfl, ?_⟩
    have e2 : decide (((a.length : Nat) : Int) / 2 < ((a.count 49 : Nat) : Int)) = decide (a.length / 2 < a.count 49) := decide_eq_decide.mpr (by omega)
    dsimp only
    rw [e2]
    exact q H1 s1
end
/-! ### all rows, all words, all states, ascending -/
def Asc (l : List (List Nat)) : Prop := l.Pairwise (· < ·)
theorem lt_app : ∀ {x y : List Nat} (u v : List Nat), x.length = y.length → x < y → x ++ u < y ++ v
  | [], [], u, v, _, h => absurd h (List.lt_irrefl _)
  | [], _ :: _, _, _, h, _ => by cases h
  | _ :: _, [], _, _, h, _ => by cases h
  | a :: x, b :: y, u, v, hl, h => by
    rw [List.cons_lt_cons_iff] at h
    rw [List.cons_append, List.cons_append, List.cons_lt_cons_iff]
    rcases h with h | ⟨h1, h2⟩
    · exact .inl h
    · exact .inr ⟨h1, lt_app u v (Nat.succ.inj hl) h2⟩
theorem lt_snoc (r : List Nat) {c d : Nat} (h : c < d) : r ++ [c] < r ++ [d] := by
  induction r with
  | nil => exact List.cons_lt_cons_iff.mpr (.inl h)
  | cons a r ih => exact List.cons_lt_cons_iff.mpr (.inr ⟨rfl, ih⟩)
theorem asc_nd {l : List (List Nat)} (h : Asc l) : l.Nodup := h.imp fun {x y} h e => absurd (e ▸ h) (List.lt_irrefl _)
theorem asc_le {l : List (List Nat)} (h : Asc l) : l.Pairwise fun x y => ¬ y < x := h.imp fun {x y} h => List.lt_asymm h
def rowsP : Nat → List (List Nat)
  | 0 => [[]]
  | n + 1 => (rowsP n).flatMap fun r => [r ++ [48], r ++ [49]]
theorem snoc_ex {a : List Nat} {n : Nat} (h : a.length = n + 1) : ∃ r c, a = r ++ [c] ∧ r.length = n := by
  have h0 : a ≠ [] := fun e => by
    rw [e] at h
    cases h
  refine ⟨a.dropLast, a.getLast h0, (List.dropLast_concat_getLast h0).symm, ?_⟩
  rw [List.length_dropLast]
  omega
theorem sg_one {c : Nat} : sg [c] = true ↔ c = 48 ∨ c = 49 := by
  unfold sg
  simp
theorem rowsP_mem : ∀ {n : Nat} {a : List Nat}, a ∈ rowsP n ↔ sg a = true ∧ a.length = n
  | 0, a => by
    constructor
    · intro h
      obtain rfl : a = [] := by simpa [rowsP] using h
      exact ⟨rfl, rfl⟩
    · rintro ⟨_, h⟩
      obtain rfl := List.eq_nil_of_length_eq_zero h
      exact List.mem_singleton.mpr rfl
  | n + 1, a => by
    unfold rowsP
    rw [List.mem_flatMap]
    constructor
    · rintro ⟨r, hr, h⟩
      obtain ⟨h1, h2⟩ := rowsP_mem.mp hr
      simp only [List.mem_cons, List.not_mem_nil, or_false] at h
      rcases h with rfl | rfl <;> exact ⟨by rw [sg_app, h1]; rfl, by rw [List.length_append, h2]; rfl⟩
    · rintro ⟨h1, h2⟩
      obtain ⟨r, c, rfl, hr⟩ := snoc_ex h2
      rw [sg_app, Bool.and_eq_true] at h1
      refine ⟨r, rowsP_mem.mpr ⟨h1.1, hr⟩, ?_⟩
      rcases sg_one.mp h1.2 with rfl | rfl <;> simp
theorem rowsP_asc : ∀ n, Asc (rowsP n)
  | 0 => List.pairwise_singleton _ _
  | n + 1 => by
    unfold Asc rowsP
    rw [List.pairwise_flatMap]
    refine ⟨fun r _ => ?_, ?_⟩
    · refine List.pairwise_cons.mpr ⟨fun y hy => ?_, List.pairwise_singleton _ _⟩
      obtain rfl := List.mem_singleton.mp hy
      exact lt_snoc r (by decide)
    · refine List.Pairwise.imp_of_mem (fun {x y} hx hy h u hu v hv => ?_) (rowsP_asc n)
      have lx := (rowsP_mem.mp hx).2
      have ly := (rowsP_mem.mp hy).2
      simp only [List.mem_cons, List.not_mem_nil, or_false] at hu hv
      rcases hu with rfl | rfl <;> rcases hv with rfl | rfl <;> exact lt_app _ _ (by omega) h
def stsP (p : Nat) : List (List Nat) := (rowsP (2 * p + 1)).filter isSt
theorem stsP_asc (p : Nat) : Asc (stsP p) := (rowsP_asc _).filter _
theorem stsP_mem {p : Nat} {a : List Nat} : a ∈ stsP p ↔ isSt a = true ∧ a.length = 2 * p + 1 := by
  unfold stsP
  rw [List.mem_filter, rowsP_mem]
  constructor
  · rintro ⟨⟨_, h2⟩, h3⟩
    exact ⟨h3, h2⟩
  · rintro ⟨h3, h2⟩
    exact ⟨⟨(isSt_of h3).1, h2⟩, h3⟩
def allT (p : Nat) : Nat → List (List Nat × Nat × Nat)
  | 0 => [([], 0, 0)]
  | i + 1 => (allT p i).flatMap fun x => (if 0 < x.2.2 then [(x.1 ++ [48], x.2.1, x.2.2 - 1)] else []) ++ (if x.2.1 < p then [(x.1 ++ [49], x.2.1 + 1, x.2.2 + 1)] else [])
theorem allT_mem {p : Nat} : ∀ {i : Nat} {a : List Nat} {u d : Nat}, (a, u, d) ∈ allT p i ↔ a.length = i ∧ sg a = true ∧ hgt 0 a = some d ∧ 2 * u = i + d ∧ u ≤ p
  | 0, a, u, d => by
    constructor
    · intro h
      obtain ⟨rfl, rfl, rfl⟩ : a = [] ∧ u = 0 ∧ d = 0 := by simpa [allT] using h
      exact ⟨rfl, rfl, rfl, rfl, Nat.zero_le _⟩
    · rintro ⟨h1, _, h3, h4, _⟩
      obtain rfl := List.eq_nil_of_length_eq_zero h1
      obtain rfl : d = 0 := (Option.some.inj h3).symm
      obtain rfl : u = 0 := by omega
      exact List.mem_singleton.mpr rfl
  | i + 1, a, u, d => by
    unfold allT
    rw [List.mem_flatMap]
    constructor
    · rintro ⟨⟨r, u', d'⟩, hr, h⟩
      obtain ⟨h1, h2, h3, h4, h5⟩ := allT_mem.mp hr
      dsimp only at h
      rcases List.mem_append.mp h with h | h
      · by_cases c : 0 < d'
        · rw [if_pos c] at h
          obtain ⟨rfl, rfl, rfl⟩ : a = r ++ [48] ∧ u = u' ∧ d = d' - 1 := by simpa using h
          refine ⟨by rw [List.length_append, h1]; rfl, by rw [sg_app, h2]; rfl, ?_, by omega, h5⟩
          obtain ⟨k, rfl⟩ : ∃ k, d' = k + 1 := ⟨d' - 1, by omega⟩
          rw [hgt_app, h3]
          show hgt (k + 1) [48] = _
          rw [hgt_down (by decide)]
          rfl
        · rw [if_neg c] at h
          cases h
      · by_cases c : u' < p
        · rw [if_pos c] at h
          obtain ⟨rfl, rfl, rfl⟩ : a = r ++ [49] ∧ u = u' + 1 ∧ d = d' + 1 := by simpa using h
          refine ⟨by rw [List.length_append, h1]; rfl, by rw [sg_app, h2]; rfl, ?_, by omega, by omega⟩
          rw [hgt_app, h3]
          show hgt d' [49] = _
          rw [hgt_up]
          rfl
        · rw [if_neg c] at h
          cases h
    · rintro ⟨h1, h2, h3, h4, h5⟩
      obtain ⟨r, c, rfl, hr⟩ := snoc_ex h1
      rw [sg_app, Bool.and_eq_true] at h2
      rw [hgt_app] at h3
      cases hd : hgt 0 r with
      | none =>
        rw [hd] at h3
        cases h3
      | some d' =>
        rw [hd] at h3
        have h3 : hgt d' [c] = some d := h3
        rcases sg_one.mp h2.2 with rfl | rfl
        · cases d' with
          | zero =>
            rw [hgt_zero (by decide)] at h3
            cases h3
          | succ k =>
            rw [hgt_down (by decide)] at h3
            obtain rfl : k = d := Option.some.inj h3
            exact ⟨(r, u, k + 1), allT_mem.mpr ⟨hr, h2.1, hd, by omega, h5⟩, by simp⟩
        · rw [hgt_up] at h3
          obtain rfl : d' + 1 = d := Option.some.inj h3
          refine ⟨(r, u - 1, d'), allT_mem.mpr ⟨hr, h2.1, hd, by omega, by omega⟩, ?_⟩
          have e : u - 1 < p := by omega
          have e2 : u - 1 + 1 = u := by omega
          simp [e, e2]
theorem allT_asc (p : Nat) : ∀ i, (allT p i).Pairwise fun x y => x.1 < y.1
  | 0 => List.pairwise_singleton _ _
  | i + 1 => by
    unfold allT
    rw [List.pairwise_flatMap]
    refine ⟨fun r _ => ?_, ?_⟩
    · by_cases c : 0 < r.2.2 <;> by_cases e : r.2.1 < p <;> simp [c, e, lt_snoc]
    · refine List.Pairwise.imp_of_mem (fun {x y} hx hy h u hu v hv => ?_) (allT_asc p i)
      have lx := (allT_mem (a := x.1) (u := x.2.1) (d := x.2.2).mp hx).1
      have ly := (allT_mem (a := y.1) (u := y.2.1) (d := y.2.2).mp hy).1
      have pre : ∀ {z w : List Nat × Nat × Nat}, w ∈ (if 0 < z.2.2 then [(z.1 ++ [48], z.2.1, z.2.2 - 1)] else []) ++ (if z.2.1 < p then [(z.1 ++ [49], z.2.1 + 1, z.2.2 + 1)] else []) → ∃ c, w.1 = z.1 ++ [c] := by
        intro z w hw
        rcases List.mem_append.mp hw with hw | hw
        · split at hw
          · obtain rfl := List.mem_singleton.mp hw
            exact ⟨_, rfl⟩
          · cases hw
        · split at hw
          · obtain rfl := List.mem_singleton.mp hw
            exact ⟨_, rfl⟩
          · cases hw
      obtain ⟨c, ec⟩ := pre hu
      obtain ⟨d, ed⟩ := pre hv
      rw [ec, ed]
      exact lt_app _ _ (by omega) h
def allW (p : Nat) : List (List Nat) := (allT p (2 * p)).map fun x => x.1
theorem allW_nd (p : Nat) : (allW p).Nodup := asc_nd (List.pairwise_map.mpr (allT_asc p _))
theorem allW_mem {p : Nat} {a : List Nat} : a ∈ allW p ↔ ∃ b : Bw, a = b.w ∧ b.n = 2 * p := by
  unfold allW
  rw [List.mem_map]
  constructor
  · rintro ⟨⟨r, u, d⟩, h, rfl⟩
    obtain ⟨h1, h2, h3, h4, h5⟩ := allT_mem.mp h
    obtain rfl : d = 0 := by omega
    obtain ⟨b, hb⟩ := Bw.of_word h2 h3
    exact ⟨b, hb, by show b.w.length = _; rw [← hb]; exact h1⟩
  · rintro ⟨b, rfl, hb⟩
    have ok := Bw.w_ok b 0
    exact ⟨(b.w, p, 0), allT_mem.mpr ⟨hb, ok.1, ok.2, by omega, Nat.le_refl _⟩, rfl⟩
/-- the states of all homes, word by word, shift by shift -/
def homS (p : Nat) (h : Bool) (w : List Nat) : List (List Nat) := (List.range (2 * p + 1)).map fun s => rotL (w ++ [sgn h]) ((w.length + 1 - s) % (w.length + 1))
def lowsP (p : Nat) (h : Bool) : List (List Nat) := (allW p).flatMap (homS p h)
theorem homS_w {p : Nat} (h : Bool) (b : Bw) : homS p h b.w = (List.range (2 * p + 1)).map fun s => stW b s h := rfl
theorem lowsP_mem {p : Nat} {h : Bool} {a : List Nat} : a ∈ lowsP p h ↔ ∃ (b : Bw) (s : Nat), b.n = 2 * p ∧ s ≤ b.n ∧ a = stW b s h := by
  unfold lowsP
  rw [List.mem_flatMap]
  constructor
  · rintro ⟨w, hw, h⟩
    obtain ⟨b, rfl, hb⟩ := allW_mem.mp hw
    rw [homS_w] at h
    obtain ⟨s, hs, rfl⟩ := List.mem_map.mp h
    exact ⟨b, s, hb, by have := List.mem_range.mp hs; omega, rfl⟩
  · rintro ⟨b, s, hb, hs, rfl⟩
    refine ⟨b.w, allW_mem.mpr ⟨b, rfl, hb⟩, ?_⟩
    rw [homS_w]
    exact List.mem_map.mpr ⟨s, List.mem_range.mpr (by omega), rfl⟩
theorem lowsP_nd {p : Nat} (h1 : 1 ≤ p) (h : Bool) : (lowsP p h).Nodup := by
  unfold lowsP List.Nodup
  rw [List.pairwise_flatMap]
  refine ⟨fun w hw => ?_, ?_⟩
  · obtain ⟨b, rfl, hb⟩ := allW_mem.mp hw
    rw [homS_w, List.pairwise_map]
    refine List.Pairwise.imp_of_mem (fun {s t} hs ht ne e => ?_) List.nodup_range
    have := List.mem_range.mp hs
    have := List.mem_range.mp ht
    exact ne (home_uniq (by omega) (by omega) (by omega) (by omega) e).2.1
  · refine List.Pairwise.imp_of_mem (fun {v w} hv hw ne x hx y hy e => ?_) (allW_nd p)
    obtain ⟨b, rfl, hb⟩ := allW_mem.mp hv
    obtain ⟨c, rfl, hc⟩ := allW_mem.mp hw
    rw [homS_w] at hx hy
    obtain ⟨s, hs, rfl⟩ := List.mem_map.mp hx
    obtain ⟨t, ht, rfl⟩ := List.mem_map.mp hy
    have := List.mem_range.mp hs
    have := List.mem_range.mp ht
    obtain ⟨rfl, _⟩ := home_uniq (by omega) (by omega) (by omega) (by omega) e
    exact ne rfl
theorem all_perm {p : Nat} (h1 : 1 ≤ p) (h2 : p ≤ 5) : (lowsP p false ++ lowsP p true).Perm (stsP p) := by
  have nd : (lowsP p false ++ lowsP p true).Nodup := by
    rw [List.nodup_append]
    refine ⟨lowsP_nd h1 _, lowsP_nd h1 _, fun x hx y hy e => ?_⟩
    obtain ⟨b, s, hb, hs, rfl⟩ := lowsP_mem.mp hx
    obtain ⟨c, t, hc, ht, rfl⟩ := lowsP_mem.mp hy
    obtain ⟨_, _, e3⟩ := home_uniq (by omega) (by omega) hs ht e
    cases e3
  refine (List.perm_ext_iff_of_nodup nd (asc_nd (stsP_asc p))).mpr fun a => ?_
  rw [List.mem_append, lowsP_mem, lowsP_mem, stsP_mem]
  constructor
  · rintro (⟨b, s, hb, hs, rfl⟩ | ⟨b, s, hb, hs, rfl⟩) <;> exact ⟨stW_st b s _ (by omega) (by omega), by rw [stW_len]; omega⟩
  · rintro ⟨ha, hl⟩
    obtain ⟨b, s, hh, h0, hb, hs, rfl⟩ := home_ex ha
    rw [stW_len] at hl
    cases hh with
    | false => exact .inl ⟨b, s, by omega, hs, rfl⟩
    | true => exact .inr ⟨b, s, by omega, hs, rfl⟩
/-! ### moved, exchanged, counted, listed -/
def txtV (l : List (List Nat)) : List V := l.map fun x => V.str (S x)
def spMovSt : Sp := fun vs H Q _ => ∃ (a : List Nat) (m : Int), vs = [.str (S a), .int m] ∧ isSt a = true ∧ ∀ H', Same H H' → Q (.str (S (rotL a ((-m) % (a.length : Int)).toNat))) H'
def spExSt : Sp := fun vs H Q _ => ∃ a : List Nat, vs = [.str (S a)] ∧ isSt a = true ∧ ∀ H', Same H H' → Q (.str (S (exch a))) H'
def spMany : Sp := fun vs H Q _ => ∃ p : Nat, vs = [.int p] ∧ 1 ≤ p ∧ p ≤ 5 ∧ Q (.int (2 * (chs (2 * p + 1) p : Nat))) H
def spAllSt : Sp := fun vs H Q _ => ∃ p : Nat, vs = [.int p] ∧ 1 ≤ p ∧ p ≤ 5 ∧ ∀ H' R, Same H H' → H' R = some (.tup (txtV (stsP p))) → Q (.ref R) H'
def spAllW : Sp := fun vs H Q _ => ∃ p : Nat, vs = [.int p] ∧ 1 ≤ p ∧ p ≤ 5 ∧ ∀ H' R, Same H H' → H R = none → H' R = some (.lst (txtV (allW p))) → Q (.ref R) H'
def spLmir : Sp := fun vs H Q _ => ∃ a : List Nat, vs = [.str (S a)] ∧ a.length ≤ 900 ∧ ∀ H', Same H H' → Q (.str (S (exch a.reverse))) H'
theorem lc_outer {K : PySem.W.Frag} {a : Addr} {xs : List V} {B : (Hp → Prop) → V → Hp → Prop} {H0 : Hp} {Qd : Hp → Prop} (Pv : Nat → Hp → Prop) (h0 : Pv 0 H0) (hl : ∀ i H, Pv i H → SqL K H a xs)
    (hs : ∀ i x H, xs[i]? = some x → Pv i H → B (Pv (i + 1)) x H) (hd : ∀ H, Pv xs.length H → Qd H) :
    ∃ W : Nat → Nat → Hp → Prop, (∃ m, W 0 m H0) ∧ ∀ i m H, W i m H → ((Itl K a).stop i H ∧ Qd H) ∨ ((Itl K a).go i H ∧ ∃ Nx : Hp → Prop, (∀ H', Nx H' → ∃ m', m' < m ∧ W (i + 1) m' H') ∧ ∀ x H', (Itl K a).yld i H x H' → B Nx x H') := by
  refine ⟨fun i m H => m = xs.length - i ∧ i ≤ xs.length ∧ Pv i H, ⟨xs.length, by simp, Nat.zero_le _, h0⟩, ?_⟩
  rintro i m H ⟨rfl, hi, p⟩
  have q := hl i H p
  by_cases hlt : i < xs.length
  · refine .inr ⟨⟨xs, xs[i], q, by simp [hlt]⟩, Pv (i + 1), fun H' p' => ⟨xs.length - (i + 1), by omega, rfl, hlt, p'⟩, fun x H' y => ?_⟩
    obtain ⟨rfl, hz⟩ := y
    exact hs i x _ (hz xs q) p
  · have e : i = xs.length := by omega
    subst e
    exact .inl ⟨⟨xs, q, Nat.le_refl _⟩, hd H p⟩
theorem lc_inner {b : List Nat} {B : (Hp → Prop) → V → Hp → Prop} {H0 : Hp} {Qd : Hp → Prop} (Pv : Nat → Hp → Prop) (h0 : Pv 0 H0) (hs : ∀ j c H, b[j]? = some c → Pv j H → B (Pv (j + 1)) (.str (S [c])) H) (hd : ∀ H, Pv b.length H → Qd H) :
    ∃ W : Nat → Nat → Hp → Prop, (∃ m, W 0 m H0) ∧ ∀ j k H, W j k H → ((Its (S b)).stop j H ∧ Qd H) ∨ ((Its (S b)).go j H ∧ ∃ Nx : Hp → Prop, (∀ H', Nx H' → ∃ k', k' < k ∧ W (j + 1) k' H') ∧ ∀ x H', (Its (S b)).yld j H x H' → B Nx x H') := by
  refine ⟨fun i m H => m = b.length - i ∧ i ≤ b.length ∧ Pv i H, ⟨b.length, by simp, Nat.zero_le _, h0⟩, ?_⟩
  rintro i m H ⟨rfl, hi, p⟩
  by_cases hlt : i < b.length
  · refine .inr ⟨its_go hlt, Pv (i + 1), fun H' p' => ⟨b.length - (i + 1), by omega, rfl, hlt, p'⟩, fun x H' y => ?_⟩
    obtain ⟨rfl, c, hc, rfl⟩ := its_at y
    exact hs i c _ hc p
  · have e : i = b.length := by omega
    subst e
    exact .inl ⟨its_stop (Nat.le_refl _), hd H p⟩
section
variable {P : Program} {w : World} {K : PySem.W.Frag} {mg : Str → Option Value} {base : Heap}
theorem ok_moved {f : Addr} {fd : FuncData} (F : Fun K "moved" "moved" s_moved f fd) (T : Txt K mg) (c_check_state : Cl P w K mg base 3 "check_state" spCkSt0) (c_check_number : Cl P w K mg base 3 "check_number" (spCheck K)) (c_moved_round : Cl P w K mg base 1 "moved_round" spMovedS) :
    FnOk P w K mg base CX0 4 f fd ["state", "many"] spMovSt := by
  have nd := sc_moved.nd
  refine F.ok sc_moved (fun vs H Q E h => ?_) (fun cdv A outer s H vs Q E hr h => ?_)
  · obtain ⟨a, m, rfl, _⟩ := h
    rfl
  · obtain ⟨a, m, rfl, ha, q⟩ := h
    have la := (isSt_of ha).2.2.1
    have la0 := (isSt_of ha).2.1
    refine ⟨_, (pss_cons (ps_expr (pe_f c_check_state hr (by decide) (by rfl) (pa_cons (pv 0) (pa_cons (pe_lit (l := [115, 116, 97, 116, 101]) (by decide +kernel)) pa_nil))))
 (pss_cons (ps_expr (pe_f c_check_number hr (by decide) (by rfl) (pa_cons (pv 1) (pa_cons pe_non (pa_cons pe_non (pa_cons (pe_lit (l := [109, 97, 110, 121]) (by decide +kernel)) pa_nil))))))
 (pss_one (ps_ret (pe_f c_moved_round hr (by decide) (by rfl) (pa_cons (pv 0) (pa_cons (pe_un un_neg (pv 1)) pa_nil))))))), ?_⟩
    refine ⟨_, rfl, a, _, rfl, ha, fun H1 s1 => ?_⟩
    refine ⟨_, rfl, _, _, _, _, "int", rfl, .int _, .inl rfl, .inl rfl, rfl, ?_⟩
    refine ⟨_, rfl, _, rfl, m, rfl, a, -m, rfl, by omega, by omega, q H1 s1⟩
theorem ok_exchanged {f : Addr} {fd : FuncData} (F : Fun K "exchanged" "exchanged" s_exchanged f fd) (T : Txt K mg) (c_check_state : Cl P w K mg base 3 "check_state" spCkSt0) (c_exchanged_signs : Cl P w K mg base 1 "exchanged_signs" spExch) : FnOk P w K mg base CX0 4 f fd ["state"] spExSt := by
  have nd := sc_exchanged.nd
  refine F.ok sc_exchanged (fun vs H Q E h => ?_) (fun cdv A outer s H vs Q E hr h => ?_)
  · obtain ⟨a, rfl, _⟩ := h
    rfl
  · obtain ⟨a, rfl, ha, q⟩ := h
    have la := (isSt_of ha).2.2.1
    refine ⟨_, (pss_cons (ps_expr (pe_f c_check_state hr (by decide) (by rfl) (pa_cons (pv 0) (pa_cons (pe_lit (l := [115, 116, 97, 116, 101]) (by decide +kernel)) pa_nil))))
 (pss_one (ps_ret (pe_f c_exchanged_signs hr (by decide) (by rfl) (pa_cons (pv 0) pa_nil))))), ?_⟩
    refine ⟨_, rfl, a, _, rfl, ha, fun H1 s1 => ⟨_, rfl, a, rfl, by omega, fun H2 s2 => q H2 (s1.trans s2)⟩⟩
theorem ok_how_many_states {f : Addr} {fd : FuncData} (F : Fun K "how_many_states" "how_many_states" s_how_many_states f fd) (T : Txt K mg) (c_check_pairs : Cl P w K mg base 4 "check_pairs" spPairs) : FnOk P w K mg base CX0 5 f fd ["pairs"] spMany := by
  have nd := sc_how_many_states.nd
  refine F.ok sc_how_many_states (fun vs H Q E h => ?_) (fun cdv A outer s H vs Q E hr h => ?_)
  · obtain ⟨p, rfl, _⟩ := h
    rfl
  · obtain ⟨p, rfl, p1, p2, q⟩ := h
    refine ⟨_, (pss_cons (ps_expr (pe_f c_check_pairs hr (by decide) (by rfl) (pa_cons (pv 0) pa_nil)))
 (pss_one (ps_ret (pe_op op_mul pe_int (pe_callBfun cr_comb (by rfl) T.m_comb (pa_cons (pe_op op_add (pe_op op_mul pe_int (pv 0)) pe_int) (pa_cons (pv 0) pa_nil))))))), ?_⟩
    have c : chs (2 * p + 1) p ≤ 1000 := by
      have : p = 1 ∨ p = 2 ∨ p = 3 ∨ p = 4 ∨ p = 5 := by omega
      rcases this with rfl | rfl | rfl | rfl | rfl <;> decide
    refine ⟨_, rfl, p, rfl, p1, by omega, ?_⟩
    refine ⟨_, rfl, _, _, rfl, rfl, .inl ⟨by decide, by decide⟩, _, _, rfl, rfl, _, rfl, 2 * p + 1, p, rfl, by omega, _, _, rfl, rfl, .inl ⟨by decide, by decide⟩, q⟩
theorem ok_all_states {f : Addr} {fd : FuncData} (F : Fun K "all_states" "all_states" s_all_states f fd) (T : Txt K mg) (c_check_number : Cl P w K mg base 3 "check_number" (spCheck K)) (c_is_state : Cl P w K mg base 2 "is_state" (spState K)) : FnOk P w K mg base CX0 4 f fd ["pairs"] spAllSt := by
  have nd := sc_all_states.nd
  refine F.ok sc_all_states (fun vs H Q E h => ?_) (fun cdv A outer s H vs Q E hr h => ?_)
  · obtain ⟨p, rfl, _⟩ := h
    rfl
  · obtain ⟨p, rfl, p1, p2, q⟩ := h
    refine ⟨_, (pss_cons (ps_expr (pe_f c_check_number hr (by decide) (by rfl) (pa_cons (pv 0) (pa_cons pe_int (pa_cons (pe_cst T.c_MOST_PAIRS_OF_STATES (by rfl)) (pa_cons (pe_lit (l := [112, 97, 105, 114, 115]) (by decide +kernel)) pa_nil))))))
 (pss_cons (ps_set (i := 1) nd rfl (by first | exact Or.inl rfl | exact Or.inr rfl) (pe_lst (pa_cons (pe_lit (l := []) (by decide +kernel)) pa_nil)))
 (pss_cons (ps_for PassesOwn.never rfl (pi_range1 (by rfl) T.n_range (pa_cons (pe_op op_add (pe_op op_mul pe_int (pv 0)) pe_int) pa_nil)) (pg_name (i := 2) nd rfl (by first | exact Or.inl rfl | exact Or.inr rfl))
 (pss_one (ps_setLc2 (i := 1) (own := [("row", 3), ("sign", 4)]) (vs1 := [4]) rfl nd rfl rfl (sw_true rfl rfl rfl (by decide +kernel)) (pi_list (pv 1)) (blkOk_by (N := N_all_states) (sc := defScope s_all_states) (by decide +kernel)) (by decide) (fun _ _ _ _ _ => (pg_name (i := 3) nd rfl (by first | exact Or.inl rfl | exact Or.inr rfl))) (fun _ _ _ _ _ => pts_nil) (fun _ _ _ _ _ => (pi_str (pe_lit (l := [48, 49]) (by decide +kernel)))) (fun _ _ _ _ _ => (pg_name (i := 4) nd rfl (by first | exact Or.inl rfl | exact Or.inr rfl))) (fun _ _ _ _ _ => pts_nil) (fun _ _ _ _ _ => (pe_op op_add_S (pv 3) (pv 4))))))
 (pss_one (ps_ret (pe_callTy call_tuple_of (by rfl) T.n_tuple (by decide +kernel) (pa_cons (pe_lc (own := [("row", 3)]) rfl nd (pi_list (pv 1)) (blkOk_by (N := N_all_states) (sc := defScope s_all_states) (by decide +kernel)) (fun _ _ _ _ _ => (pg_name (i := 3) nd rfl (by first | exact Or.inl rfl | exact Or.inr rfl))) (fun _ _ _ _ _ => (pts_one (pt_val (pe_f c_is_state hr (by decide) (by rfl) (pa_cons (pv 3) pa_nil))))) (fun _ _ _ _ _ => (pv 3))) pa_nil))))))), ?_⟩
    refine ⟨_, rfl, _, _, _, _, "int", rfl, .int _, .inr ⟨_, rfl⟩, .inr ⟨_, rfl⟩, ?_, ?_⟩
    · show (decide ((1 : Int) ≤ p) && decide ((p : Int) ≤ 5)) = true
      rw [decide_eq_true (by omega), decide_eq_true (by omega)]
      rfl
    refine ⟨by show 1 ≤ sizeLine; decide, fun R0 nR0 => ?_⟩
    have pw : ∀ {i}, i ≤ 11 → (rowsP i).length ≤ 2048 := by decide +kernel
    refine ⟨_, rfl, _, _, rfl, rfl, .inl ⟨by decide, by omega⟩, _, _, rfl, rfl, ((2 * p + 1 : Nat) : Int), rfl, by omega, by omega, ?_⟩
    rw [Int.toNat_natCast]
    refine for_range (lo := 0) (n := 2 * p + 1) (fun i σ H' => ∃ (R : Addr) (v2 v3 v4 : Option V), σ = [some (.int p), some (.ref R), v2, v3, v4] ∧ Same H H' ∧ H R = none ∧ H' R = some (.lst (txtV (rowsP i)))) ⟨R0, none, none, none, rfl, same_new nR0, nR0, upd_same⟩ ?_ ?_
    · rintro i σ H' hi ⟨R, v2, v3, v4, rfl, sm, nR, hR⟩
      refine ⟨_, rfl, R, rfl, ⟨_, SqL.of hR⟩, fun D nD => ?_⟩
      have DR : D ≠ R := fun e => by
        rw [e, hR] at nD
        cases nD
      have nDH : H D = none := by
        cases e : H D with
        | none => rfl
        | some o =>
          rw [sm _ _ e] at nD
          cases nD
      have xl : (txtV (rowsP i)).length = (rowsP i).length := List.length_map ..
      refine lc_outer (a := R) (xs := txtV (rowsP i)) (fun r H2 => Same H' H2 ∧ H2 D = some (.lst (txtV (((rowsP i).take r).flatMap fun z => [z ++ [48], z ++ [49]])))) ⟨same_new nD, upd_same⟩ (fun r H2 h => SqL.of (h.1 _ _ hR)) ?_ ?_
      · rintro r x H2 hx ⟨sm2, hD⟩
        obtain ⟨z, hz, rfl⟩ : ∃ z, (rowsP i)[r]? = some z ∧ x = .str (S z) := by
          unfold txtV at hx
          rw [List.getElem?_map] at hx
          cases e : (rowsP i)[r]? with
          | none =>
            rw [e] at hx
            cases hx
          | some z =>
            rw [e] at hx
            exact ⟨z, rfl, (Option.some.inj hx).symm⟩
        have zl : z.length = i := (rowsP_mem.mp (List.mem_of_getElem? hz)).2
        have fl : ∀ l : List (List Nat), (l.flatMap fun z => [z ++ [48], z ++ [49]]).length = 2 * l.length := fun l => by
          induction l with
          | nil => rfl
          | cons y l ih =>
            rw [List.flatMap_cons, List.length_append, ih]
            show 2 + 2 * l.length = 2 * (l.length + 1)
            omega
        have pl := pw (i := i) (by omega)
        refine ⟨rfl, ?_⟩
        dsimp only [tYes]
        rw [if_pos rfl]
        refine ⟨_, rfl, ?_⟩
        refine lc_inner (b := [48, 49]) (fun j H3 => Same H' H3 ∧ H3 D = some (.lst (txtV ((((rowsP i).take r).flatMap fun z => [z ++ [48], z ++ [49]]) ++ (([48, 49] : List Nat).take j).map fun c => z ++ [c])))) ⟨sm2, by rw [List.take_zero, List.map_nil, List.append_nil]; exact hD⟩ ?_ ?_
        · rintro j c H3 hc ⟨sm3, hD3⟩
          refine ⟨rfl, ?_⟩
          dsimp only [tYes]
          rw [if_pos rfl]
          refine ⟨_, rfl, _, rfl, z, [c], rfl, rfl, Nat.le_trans (by show z.length + 1 ≤ 100; omega) (by decide), _, hD3, ?_, same_put sm3 nD, ?_⟩
          · unfold txtV
            rw [List.length_map, List.length_append, fl, List.length_map]
            have t1 : ((rowsP i).take r).length ≤ 2048 := Nat.le_trans (List.length_take_le' ..) (by omega)
            have t2 : (([48, 49] : List Nat).take j).length ≤ 2 := List.length_take_le' ..
            exact Nat.lt_of_le_of_lt (by omega : _ ≤ 5000) (by decide)
          · rw [upd_same, List.take_add_one, hc, List.map_append, ← List.append_assoc]
            unfold txtV
            simp only [List.map_append, List.append_assoc]
            rfl
        · rintro H3 ⟨sm3, hD3⟩
          refine ⟨sm3, ?_⟩
          rw [hD3, List.take_add_one, hz, List.flatMap_append]
          rfl
      · rintro H2 ⟨sm2, hD⟩
        rw [xl, List.take_length] at hD
        exact ⟨D, _, _, _, rfl, fun y o e => sm2 _ _ (sm _ _ e), nDH, hD⟩
    · rintro σ H' ⟨R, v2, v3, v4, rfl, sm, nR, hR⟩
      refine ⟨_, rfl, R, rfl, ⟨_, SqL.of hR⟩, fun D nD => ?_⟩
      have nDH : H D = none := by
        cases e : H D with
        | none => rfl
        | some o =>
          rw [sm _ _ e] at nD
          cases nD
      have pl := pw (i := 2 * p + 1) (by omega)
      have xl : (txtV (rowsP (2 * p + 1))).length = (rowsP (2 * p + 1)).length := List.length_map ..
      refine lc_list (a := R) (xs := txtV (rowsP (2 * p + 1))) (fun r H2 => Same H' H2 ∧ H2 D = some (.lst (txtV (((rowsP (2 * p + 1)).take r).filter isSt)))) ⟨same_new nD, upd_same⟩ (fun r H2 _ h => SqL.of (h.1 _ _ hR)) ?_ ?_
      · rintro r x H2 hx ⟨sm2, hD⟩
        obtain ⟨z, hz, rfl⟩ : ∃ z, (rowsP (2 * p + 1))[r]? = some z ∧ x = .str (S z) := by
          unfold txtV at hx
          rw [List.getElem?_map] at hx
          cases e : (rowsP (2 * p + 1))[r]? with
          | none =>
            rw [e] at hx
            cases hx
          | some z =>
            rw [e] at hx
            exact ⟨z, rfl, (Option.some.inj hx).symm⟩
        have zl : z.length = 2 * p + 1 := (rowsP_mem.mp (List.mem_of_getElem? hz)).2
        refine ⟨rfl, ?_⟩
        refine ⟨_, rfl, _, "str", rfl, .str _, sht_S (Nat.le_trans (by omega : z.length ≤ 100) (by decide)), fun H3 s3 => ⟨_, rfl, ?_⟩⟩
        have e1 : stV (.str (S z)) = isSt z := rfl
        have e2 : ((rowsP (2 * p + 1)).take (r + 1)).filter isSt = ((rowsP (2 * p + 1)).take r).filter isSt ++ [z].filter isSt := by
          rw [List.take_add_one, hz, List.filter_append]
          rfl
        rw [e1]
        cases hst : isSt z with
        | true =>
          refine iteT ⟨_, rfl, _, s3 _ _ hD, ?_, same_put (fun y o e => s3 _ _ (sm2 _ _ e)) nD, ?_⟩
          · unfold txtV
            rw [List.length_map]
            have t1 := List.length_filter_le isSt ((rowsP (2 * p + 1)).take r)
            have t2 : ((rowsP (2 * p + 1)).take r).length ≤ 2048 := Nat.le_trans (List.length_take_le' ..) (by omega)
            exact Nat.lt_of_le_of_lt (by omega : _ ≤ 5000) (by decide)
          · rw [upd_same, e2, List.filter_cons_of_pos hst]
            unfold txtV
            rw [List.map_append]
            rfl
        | false =>
          refine iteF ⟨fun y o e => s3 _ _ (sm2 _ _ e), ?_⟩
          rw [e2, List.filter_cons_of_neg (by simp [hst]), List.filter_nil, List.append_nil]
          exact s3 _ _ hD
      · rintro H2 ⟨sm2, hD⟩
        rw [xl, List.take_length] at hD
        refine ⟨D, _, rfl, .inl ⟨SqL.of hD, fun L nL => ?_⟩⟩
        exact q _ L (fun y o e => same_new nL _ _ (sm2 _ _ (sm _ _ e))) upd_same
end
/-! ### triples: a row, its ups, its depth -/
def TT (H : Hp) (r : List V) (l : List (List Nat × Nat × Nat)) : Prop := r.length = l.length ∧ ∀ (j : Nat) (x : List Nat × Nat × Nat), l[j]? = some x → ∃ t : Addr, r[j]? = some (V.ref t) ∧ H t = some (HO.tup [V.str (S x.1), V.int (x.2.1 : Nat), V.int (x.2.2 : Nat)])
theorem TT.mono {H H' : Hp} {r : List V} {l : List (List Nat × Nat × Nat)} (h : TT H r l) (k : ∀ t xs, H t = some (.tup xs) → H' t = some (.tup xs)) : TT H' r l :=
  ⟨h.1, fun j x e => let ⟨t, e1, e2⟩ := h.2 j x e; ⟨t, e1, k t _ e2⟩⟩
theorem TT.snoc {H : Hp} {r : List V} {l : List (List Nat × Nat × Nat)} {t : Addr} {x : List Nat × Nat × Nat} (h : TT H r l) (e : H t = some (.tup [.str (S x.1), .int (x.2.1 : Nat), .int (x.2.2 : Nat)])) : TT H (r ++ [.ref t]) (l ++ [x]) := by
  refine ⟨by rw [List.length_append, List.length_append, h.1]; rfl, fun j y hy => ?_⟩
  rcases Nat.lt_or_ge j l.length with c | c
  · rw [List.getElem?_append_left c] at hy
    obtain ⟨t', e1, e2⟩ := h.2 j y hy
    exact ⟨t', by rw [List.getElem?_append_left (by rw [h.1]; exact c)]; exact e1, e2⟩
  · rw [List.getElem?_append_right c] at hy
    have hj : j - l.length = 0 := by
      rcases Nat.eq_zero_or_pos (j - l.length) with z | z
      · exact z
      · rw [List.getElem?_eq_none (by show 1 ≤ _; omega)] at hy
        cases hy
    rw [hj] at hy
    obtain rfl : x = y := Option.some.inj hy
    exact ⟨t, by rw [List.getElem?_append_right (by rw [h.1]; exact c), h.1, hj]; rfl, e⟩
def stepT (p : Nat) (x : List Nat × Nat × Nat) : List (List Nat × Nat × Nat) := (if 0 < x.2.2 then [(x.1 ++ [48], x.2.1, x.2.2 - 1)] else []) ++ (if x.2.1 < p then [(x.1 ++ [49], x.2.1 + 1, x.2.2 + 1)] else [])
theorem allT_succ (p i : Nat) : allT p (i + 1) = (allT p i).flatMap (stepT p) := rfl
theorem allT_small : ∀ {p}, p ≤ 5 → ∀ {i}, i ≤ 10 → (allT p i).length ≤ 1000 := by decide +kernel
theorem at_hp {t : L2.TS} {D : Ends} {σ : L2.St} {H K : Hp} (e : H = K) (h : t D σ K) : t D σ H := by
  rw [e]
  exact h
theorem at_hpN {f : Hp → Prop} {H K : Hp} (e : H = K) (h : f K) : f H := by
  rw [e]
  exact h
theorem at_st {t : L2.TS} {D : Ends} {σ τ : L2.St} {H : Hp} (e : σ = τ) (h : t D τ H) : t D σ H := by
  rw [e]
  exact h
theorem nm_st {i : Nat} {v : V} {σ τ : L2.St} {H : Hp} {k : L2.St → Hp → Prop} (e : σ.set i (some v) = τ) (h : k τ H) : gName i v σ H k := by
  unfold gName
  rw [e]
  exact h
section
variable {P : Program} {w : World} {K : PySem.W.Frag} {mg : Str → Option Value} {base : Heap}
theorem ok__law_mirrored {f : Addr} {fd : FuncData} (F : Fun K "_law_mirrored" "_law_mirrored" s__law_mirrored f fd) (T : Txt K mg) : FnOk P w K mg base CX0 1 f fd ["word"] spLmir := by
  have nd := sc__law_mirrored.nd
  refine F.ok sc__law_mirrored (fun vs H Q E h => ?_) (fun cdv A outer s H vs Q E hr h => ?_)
  · obtain ⟨a, rfl, _⟩ := h
    rfl
  · obtain ⟨a, rfl, la, q⟩ := h
    refine ⟨_, (pss_one (ps_ret (pe_m1 PySem.F.slot_str_join PySem.F.type_str_join mt_joinS (pe_lit (l := []) (by decide +kernel)) (pe_lc (own := [("sign", 1)]) rfl nd (pi_str (pe_revS (pv 0))) (blkOk_by (N := N__law_mirrored) (sc := defScope s__law_mirrored) (by decide +kernel)) (fun _ _ _ _ _ => (pg_name (i := 1) nd rfl (by first | exact Or.inl rfl | exact Or.inr rfl))) (fun _ _ _ _ _ => pts_nil) (fun _ _ _ _ _ => (pe_ifExp (pt_cmpR op_eq_S (pv 1) (pe_lit (l := [49]) (by decide +kernel)) (nomark _)) (pe_lit (l := [48]) (by decide +kernel)) (pe_lit (l := [49]) (by decide +kernel)))))))), ?_⟩
    refine ⟨⟨_, rfl⟩, _, rfl, a, rfl, Nat.le_trans la (by decide), S a.reverse, rfl, fun D nD => ?_⟩
    refine lc_S (a := a.reverse) (fun j H1 => Same H H1 ∧ H1 D = some (.lst (sgs (exch (a.reverse.take j))))) ⟨same_new nD, upd_same⟩ ?_ ?_
    · rintro j c H1 hc ⟨sm, hD⟩
      refine ⟨rfl, ?_⟩
      dsimp only [tYes]
      rw [if_pos rfl]
      have tk : a.reverse.take (j + 1) = a.reverse.take j ++ [c] := by rw [List.take_add_one, hc]; rfl
      have ln : (sgs (exch (a.reverse.take j))).length < sizeLine := by
        unfold sgs exch
        rw [List.length_map, List.length_map, List.length_take, List.length_reverse]
        exact small1000 (by omega)
      have pu : ∀ d : Nat, d = (if c = 49 then 48 else 49) → (upd H1 D (.lst (sgs (exch (a.reverse.take j)) ++ [.str (S [d])]))) D = some (.lst (sgs (exch (a.reverse.take (j + 1))))) := fun d e => by
        rw [upd_same, tk, e]
        unfold sgs exch
        rw [List.map_append, List.map_append]
        rfl
      refine ⟨_, rfl, [c], [49], rfl, rfl, _, rfl, ?_⟩
      by_cases e : c = 49
      · rw [decide_eq_true (by rw [e])]
        exact iteT ⟨_, hD, ln, same_put sm nD, pu 48 (by rw [if_pos e])⟩
      · rw [decide_eq_false (fun z => e (List.cons.inj z).1)]
        exact iteF ⟨_, hD, ln, same_put sm nD, pu 49 (by rw [if_neg e])⟩
    · rintro H1 ⟨sm, hD⟩
      rw [List.take_length, sgs_map] at hD
      refine ⟨D, _, rfl, rfl, .inl (SqL.of hD), ?_, ?_⟩
      · rw [flat_ones]
        unfold exch
        rw [List.length_map, List.length_reverse]
        omega
      · rw [flat_ones]
        exact q H1 sm
theorem ok__law_all_words {f : Addr} {fd : FuncData} (F : Fun K "_law_all_words" "_law_all_words" s__law_all_words f fd) (T : Txt K mg) : FnOk P w K mg base CX0 1 f fd ["pairs"] spAllW := by
  have nd := sc__law_all_words.nd
  refine F.ok sc__law_all_words (fun vs H Q E h => ?_) (fun cdv A outer s H vs Q E hr h => ?_)
  · obtain ⟨p, rfl, _⟩ := h
    rfl
  · obtain ⟨p, rfl, p1, p2, q⟩ := h
    refine ⟨_, (pss_cons (ps_set (i := 1) nd rfl (by first | exact Or.inl rfl | exact Or.inr rfl) (pe_lst (pa_cons (pe_tup (pa_cons (pe_lit (l := []) (by decide +kernel)) (pa_cons pe_int (pa_cons pe_int pa_nil)))) pa_nil)))
 (pss_cons (ps_for PassesOwn.never rfl (pi_range1 (by rfl) T.n_range (pa_cons (pe_op op_mul pe_int (pv 0)) pa_nil)) (pg_name (i := 2) nd rfl (by first | exact Or.inl rfl | exact Or.inr rfl))
 (pss_cons (ps_set (i := 3) nd rfl (by first | exact Or.inl rfl | exact Or.inr rfl) (pe_lst pa_nil))
 (pss_cons (ps_for PassesOwn.never rfl (pi_list (pv 1)) (pg_tup rfl (pgs_cons (pg_name (i := 4) nd rfl (by first | exact Or.inl rfl | exact Or.inr rfl)) (pgs_cons (pg_name (i := 5) nd rfl (by first | exact Or.inl rfl | exact Or.inr rfl)) (pgs_cons (pg_name (i := 6) nd rfl (by first | exact Or.inl rfl | exact Or.inr rfl)) pgs_nil))))
 (pss_cons (ps_if (pt_cmpR op_gt (pv 6) pe_int (nomark _))
 (pss_one (ps_expr (pe_bm PySem.F.plainAttrs_list PySem.F.slot_list_append PySem.F.type_list_append mt_append (pv 3) (pa_cons (pe_tup (pa_cons (pe_op op_add_S (pv 4) (pe_lit (l := [48]) (by decide +kernel))) (pa_cons (pv 5) (pa_cons (pe_op op_sub (pv 6) pe_int) pa_nil)))) pa_nil))))
 pss_nil)
 (pss_one (ps_if (pt_cmpR op_lt (pv 5) (pv 0) (nomark _))
 (pss_one (ps_expr (pe_bm PySem.F.plainAttrs_list PySem.F.slot_list_append PySem.F.type_list_append mt_append (pv 3) (pa_cons (pe_tup (pa_cons (pe_op op_add_S (pv 4) (pe_lit (l := [49]) (by decide +kernel))) (pa_cons (pe_op op_add (pv 5) pe_int) (pa_cons (pe_op op_add (pv 6) pe_int) pa_nil)))) pa_nil))))
 pss_nil))))
 (pss_one (ps_set (i := 1) nd rfl (by first | exact Or.inl rfl | exact Or.inr rfl) (pv 3))))))
 (pss_one (ps_ret (pe_lc (own := [("word", 4), ("ups", 5), ("depth", 6)]) rfl nd (pi_list (pv 1)) (blkOk_by (N := N__law_all_words) (sc := defScope s__law_all_words) (by decide +kernel)) (fun _ _ _ _ _ => (show PG _ _ (gTup K 3 _) from (pg_tup rfl (pgs_cons (pg_name (i := 4) nd rfl (by first | exact Or.inl rfl | exact Or.inr rfl)) (pgs_cons (pg_name (i := 5) nd rfl (by first | exact Or.inl rfl | exact Or.inr rfl)) (pgs_cons (pg_name (i := 6) nd rfl (by first | exact Or.inl rfl | exact Or.inr rfl)) pgs_nil)))))) (fun _ _ _ _ _ => pts_nil) (fun _ _ _ _ _ => (pv 4))))))), ?_⟩
    refine ⟨by show 3 ≤ sizeLine; decide, fun A0 nA0 => ⟨by show 1 ≤ sizeLine; decide, fun R0 nR0 => ?_⟩⟩
    have sT : ∀ {H1 : Hp} {A : Addr} {o : HO}, H1 A = none → ∀ t xs, H1 t = some (.tup xs) → upd H1 A o t = some (.tup xs) := fun n t xs e => same_new n _ _ e
    refine ⟨_, rfl, _, _, rfl, rfl, .inl ⟨by decide, by omega⟩, ((2 * p : Nat) : Int), rfl, by omega, by omega, ?_⟩
    rw [Int.toNat_natCast]
    have nR0H : H R0 = none := by
      cases e : H R0 with
      | none => rfl
      | some o =>
        rw [same_new nA0 _ _ e] at nR0
        cases nR0
    refine for_range (lo := 0) (n := 2 * p) (fun i σ H' => ∃ (R : Addr) (refs : List V) (v2 v3 v4 v5 v6 : Option V), σ = [some (.int p), some (.ref R), v2, v3, v4, v5, v6] ∧ Same H H' ∧ H R = none ∧ H' R = some (.lst refs) ∧ TT H' refs (allT p i))
      ⟨R0, _, none, none, none, none, none, rfl, fun x o e => same_new nR0 _ _ (same_new nA0 _ _ e), nR0H, upd_same, ?_⟩ ?_ ?_
    · refine ⟨rfl, fun j x hx => ?_⟩
      rcases j with _ | j
      · obtain rfl : ([], 0, 0) = x := Option.some.inj hx
        exact ⟨A0, rfl, same_new nR0 _ _ upd_same⟩
      · cases hx
    · rintro i σ H' hi ⟨R, refs, v2, v3, v4, v5, v6, rfl, sm, nR, hR, tt⟩
      refine ⟨by show 0 ≤ sizeLine; decide, fun LT nLT => ?_⟩
      have LR : LT ≠ R := fun e => by
        rw [e, hR] at nLT
        cases nLT
      have nLTH : H LT = none := by
        cases e : H LT with
        | none => rfl
        | some o =>
          rw [sm _ _ e] at nLT
          cases nLT
      have tl : refs.length = (allT p i).length := tt.1
      refine nm_st (τ := [some (.int p), some (.ref R), some (.int (0 + (i : Int))), some (.ref LT), v4, v5, v6]) rfl ?_
      refine ⟨_, rfl, R, rfl, ⟨_, SqL.of (same_new nLT _ _ hR)⟩, ?_⟩
      refine for_list (a := R) (xs := refs) (fun j σ H2 => ∃ (acc : List V) (v4 v5 v6 : Option V), σ = [some (.int p), some (.ref R), some (.int (0 + (i : Int))), some (.ref LT), v4, v5, v6] ∧ Same H H2 ∧ H2 R = some (.lst refs) ∧ H2 LT = some (.lst acc) ∧ TT H2 refs (allT p i) ∧ TT H2 acc (((allT p i).take j).flatMap (stepT p)))
        ⟨[], v4, v5, v6, rfl, fun x o e => same_new nLT _ _ (sm _ _ e), same_new nLT _ _ hR, upd_same, tt.mono (sT nLT), rfl, fun j x hx => by cases hx⟩ (fun j σ H2 _ h => ?_) ?_ ?_
      · obtain ⟨_, _, _, _, _, _, h, _⟩ := h
        exact SqL.of h
      · rintro j x σ H2 hx ⟨acc, v4, v5, v6, rfl, sm2, hR2, hL, tr, ta⟩
        have jl : j < (allT p i).length := by
          rw [← tl]
          exact (List.getElem?_eq_some_iff.mp hx).1
        obtain ⟨y, hy⟩ : ∃ y, (allT p i)[j]? = some y := ⟨_, List.getElem?_eq_getElem jl⟩
        obtain ⟨t, ht, hT⟩ := tr.2 j y hy
        obtain rfl : x = .ref t := Option.some.inj (hx.symm.trans ht)
        obtain ⟨z, u, d⟩ := y
        have zm := allT_mem.mp (List.mem_of_getElem? hy)
        have lz : ∀ n : Nat, n ≤ 2000 → n ≤ sizeLine := fun n h => Nat.le_trans h (by decide)
        have zl : z.length = i := zm.1
        have etk : ((allT p i).take (j + 1)).flatMap (stepT p) = ((allT p i).take j).flatMap (stepT p) ++ stepT p (z, u, d) := by
          rw [List.take_add_one, hy, List.flatMap_append]
          show _ ++ (stepT p (z, u, d) ++ []) = _
          rw [List.append_nil]
        have s2 : ∀ x, (stepT p x).length ≤ 2 := fun x => by
          unfold stepT
          by_cases c1 : 0 < x.2.2 <;> by_cases c2 : x.2.1 < p <;> simp [c1, c2]
        have fl : ∀ l : List (List Nat × Nat × Nat), (l.flatMap (stepT p)).length ≤ 2 * l.length := fun l => by
          induction l with
          | nil => exact Nat.le_refl _
          | cons y l ih =>
            rw [List.flatMap_cons, List.length_append]
            have := s2 y
            show _ ≤ 2 * (l.length + 1)
            omega
        have sz := allT_small p2 (i := i) (by omega)
        have al : acc.length ≤ 2000 := by
          rw [ta.1]
          have := fl ((allT p i).take j)
          have t1 : ((allT p i).take j).length ≤ (allT p i).length := List.length_take_le' ..
          omega
        refine ⟨t, _, rfl, SqT.of hT, rfl, _, _, rfl, _, _, rfl, _, _, rfl, rfl, ?_⟩
        refine at_st (τ := [some (.int p), some (.ref R), some (.int (0 + (i : Int))), some (.ref LT), some (.str (S z)), some (.int u), some (.int d)]) rfl ?_
        refine ⟨_, rfl, _, _, rfl, rfl, _, rfl, ?_⟩
        by_cases c1 : 0 < d
        · rw [decide_eq_true (show (0 : Int) < ((d : Nat) : Int) by omega)]
          refine iteT ⟨_, rfl, .inl ⟨rfl, _, SqL.of hL⟩, _, rfl, z, [48], rfl, rfl, lz _ (by show z.length + 1 ≤ 2000; omega), _, rfl, _, rfl, _, _, rfl, rfl, by show 3 ≤ sizeLine; decide, fun A nA => ⟨LT, acc, _, rfl, rfl, same_new nA _ _ hL, Nat.lt_of_le_of_lt al (by decide), ?_⟩⟩
          have ed : ((d : Nat) : Int) - 1 = ((d - 1 : Nat) : Int) := by omega
          obtain ⟨H3, e3⟩ : ∃ H3 : Hp, H3 = upd (upd H2 A (.tup [.str (S (z ++ [48])), .int u, .int ((d : Int) - 1)])) LT (.lst (acc ++ [.ref A])) := ⟨_, rfl⟩
          have AL : A ≠ LT := fun z => by rw [z, hL] at nA; cases nA
          have up : ∀ t xs, H2 t = some (.tup xs) → H3 t = some (.tup xs) := fun t xs e => by
            rw [e3, upd_ne (fun z => by rw [z, hL] at e; cases e)]
            exact same_new nA _ _ e
          have sm3 : Same H H3 := fun x o e => by
            rw [e3, upd_ne (fun z => by rw [z, nLTH] at e; cases e)]
            exact same_new nA _ _ (sm2 _ _ e)
          have hR3 : H3 R = some (.lst refs) := by rw [e3, upd_ne (fun z => LR z.symm)]; exact same_new nA _ _ hR2
          have hL3 : H3 LT = some (.lst (acc ++ [.ref A])) := by rw [e3]; exact upd_same
          have tr3 := tr.mono up
          have ta3 : TT H3 (acc ++ [.ref A]) (((allT p i).take j).flatMap (stepT p) ++ if 0 < d then [(z ++ [48], u, d - 1)] else []) := by
            rw [if_pos c1]
            refine TT.snoc (ta.mono up) ?_
            rw [e3, upd_ne AL, upd_same, ed]
          refine at_hpN (K := H3) e3.symm ?_
          clear e3 up
          have lt3 : (acc ++ [V.ref A]).length < sizeLine := by
            rw [List.length_append]
            exact Nat.lt_of_le_of_lt (by show acc.length + 1 ≤ 3000; omega) (by decide)
          generalize acc ++ [V.ref A] = acc3 at hL3 ta3 lt3
          refine ⟨_, rfl, _, rfl, _, _, rfl, rfl, _, rfl, ?_⟩
          by_cases c2 : u < p
          · rw [decide_eq_true (show ((u : Nat) : Int) < ((p : Nat) : Int) by omega)]
            refine iteT ⟨_, rfl, .inl ⟨rfl, _, SqL.of hL3⟩, _, rfl, z, [49], rfl, rfl, lz _ (by show z.length + 1 ≤ 2000; omega), _, rfl, _, _, rfl, rfl, _, rfl, _, _, rfl, rfl, by show 3 ≤ sizeLine; decide, fun B nB => ⟨LT, acc3, _, rfl, rfl, same_new nB _ _ hL3, lt3, ?_⟩⟩
            have up : ∀ t xs, H3 t = some (.tup xs) → upd (upd H3 B (.tup [.str (S (z ++ [49])), .int ((u : Int) + 1), .int ((d : Int) + 1)])) LT (.lst (acc3 ++ [.ref B])) t = some (.tup xs) := fun t xs e => by
              rw [upd_ne (fun z => by rw [z, hL3] at e; cases e)]
              exact same_new nB _ _ e
            have BL : B ≠ LT := fun z => by rw [z, hL3] at nB; cases nB
            have RL : R ≠ LT := fun z => LR z.symm
            refine ⟨_, _, _, _, rfl, fun x o e => ?_, by rw [upd_ne RL]; exact same_new nB _ _ hR3, upd_same, tr3.mono up, ?_⟩
            · rw [upd_ne (fun z => by rw [z, nLTH] at e; cases e)]
              exact same_new nB _ _ (sm3 _ _ e)
            · have ta4 := TT.snoc (t := B) (x := (z ++ [49], u + 1, d + 1)) (ta3.mono up) (by rw [upd_ne BL]; exact upd_same)
              rw [List.append_assoc] at ta4
              rw [etk]
              unfold stepT
              rw [if_pos c2]
              exact ta4
          · rw [decide_eq_false (show ¬ ((u : Nat) : Int) < ((p : Nat) : Int) by omega)]
            refine iteF ⟨acc3, _, _, _, rfl, sm3, hR3, hL3, tr3, ?_⟩
            rw [etk]
            unfold stepT
            rw [if_neg c2, List.append_nil]
            exact ta3
        · rw [decide_eq_false (show ¬ (0 : Int) < ((d : Nat) : Int) by omega)]
          refine iteF ?_
          obtain ⟨H3, e3⟩ : ∃ H3 : Hp, H3 = H2 := ⟨_, rfl⟩
          rw [← e3] at sm2 hR2 hL tr ta
          refine at_hp (K := H3) e3.symm ?_
          have sm3 := sm2
          have hR3 := hR2
          have hL3 := hL
          have tr3 := tr
          have ta3 : TT H3 acc (((allT p i).take j).flatMap (stepT p) ++ if 0 < d then [(z ++ [48], u, d - 1)] else []) := by
            rw [if_neg c1, List.append_nil]
            exact ta
          have lt3 : acc.length < sizeLine := Nat.lt_of_le_of_lt al (by decide)
          generalize acc = acc3 at hL3 ta3 lt3
          refine ⟨_, rfl, _, rfl, _, _, rfl, rfl, _, rfl, ?_⟩
          by_cases c2 : u < p
          · rw [decide_eq_true (show ((u : Nat) : Int) < ((p : Nat) : Int) by omega)]
            refine iteT ⟨_, rfl, .inl ⟨rfl, _, SqL.of hL3⟩, _, rfl, z, [49], rfl, rfl, lz _ (by show z.length + 1 ≤ 2000; omega), _, rfl, _, _, rfl, rfl, _, rfl, _, _, rfl, rfl, by show 3 ≤ sizeLine; decide, fun B nB => ⟨LT, acc3, _, rfl, rfl, same_new nB _ _ hL3, lt3, ?_⟩⟩
            have up : ∀ t xs, H3 t = some (.tup xs) → upd (upd H3 B (.tup [.str (S (z ++ [49])), .int ((u : Int) + 1), .int ((d : Int) + 1)])) LT (.lst (acc3 ++ [.ref B])) t = some (.tup xs) := fun t xs e => by
              rw [upd_ne (fun z => by rw [z, hL3] at e; cases e)]
              exact same_new nB _ _ e
            have BL : B ≠ LT := fun z => by rw [z, hL3] at nB; cases nB
            have RL : R ≠ LT := fun z => LR z.symm
            refine ⟨_, _, _, _, rfl, fun x o e => ?_, by rw [upd_ne RL]; exact same_new nB _ _ hR3, upd_same, tr3.mono up, ?_⟩
            · rw [upd_ne (fun z => by rw [z, nLTH] at e; cases e)]
              exact same_new nB _ _ (sm3 _ _ e)
            · have ta4 := TT.snoc (t := B) (x := (z ++ [49], u + 1, d + 1)) (ta3.mono up) (by rw [upd_ne BL]; exact upd_same)
              rw [List.append_assoc] at ta4
              rw [etk]
              unfold stepT
              rw [if_pos c2]
              exact ta4
          · rw [decide_eq_false (show ¬ ((u : Nat) : Int) < ((p : Nat) : Int) by omega)]
            refine iteF ⟨acc3, _, _, _, rfl, sm3, hR3, hL3, tr3, ?_⟩
            rw [etk]
            unfold stepT
            rw [if_neg c2, List.append_nil]
            exact ta3
      · rintro σ H2 ⟨acc, v4, v5, v6, rfl, sm2, hR2, hL, tr, ta⟩
        rw [tl, List.take_length] at ta
        exact ⟨_, rfl, LT, acc, _, _, _, _, _, rfl, sm2, nLTH, hL, ta⟩
    · rintro σ H' ⟨R, refs, v2, v3, v4, v5, v6, rfl, sm, nR, hR, tt⟩
      refine ⟨_, rfl, R, rfl, ⟨_, SqL.of hR⟩, fun D nD => ?_⟩
      have nDH : H D = none := by
        cases e : H D with
        | none => rfl
        | some o =>
          rw [sm _ _ e] at nD
          cases nD
      have sz := allT_small p2 (i := 2 * p) (by omega)
      refine lc_list (a := R) (xs := refs) (fun j H2 => Same H' H2 ∧ H2 D = some (.lst (txtV (((allT p (2 * p)).take j).map fun x => x.1)))) ⟨same_new nD, upd_same⟩ (fun r H2 _ h => SqL.of (h.1 _ _ hR)) ?_ ?_
      · rintro j x H2 hx ⟨sm2, hD⟩
        have jl : j < (allT p (2 * p)).length := by
          rw [← tt.1]
          exact (List.getElem?_eq_some_iff.mp hx).1
        obtain ⟨y, hy⟩ : ∃ y, (allT p (2 * p))[j]? = some y := ⟨_, List.getElem?_eq_getElem jl⟩
        obtain ⟨t, ht, hT⟩ := tt.2 j y hy
        obtain rfl : x = .ref t := Option.some.inj (hx.symm.trans ht)
        refine ⟨t, _, rfl, SqT.of (sm2 _ _ hT), rfl, _, _, rfl, _, _, rfl, _, _, rfl, rfl, rfl, ?_⟩
        dsimp only [tYes]
        rw [if_pos rfl]
        refine ⟨_, rfl, _, hD, ?_, same_put sm2 nD, ?_⟩
        · unfold txtV
          rw [List.length_map, List.length_map]
          have t1 : ((allT p (2 * p)).take j).length ≤ (allT p (2 * p)).length := List.length_take_le' ..
          exact Nat.lt_of_le_of_lt (by omega : _ ≤ 1000) (by decide)
        · rw [upd_same, List.take_add_one, hy]
          unfold txtV
          simp only [List.map_append]
          rfl
      · rintro H2 ⟨sm2, hD⟩
        rw [tt.1, List.take_length] at hD
        exact q H2 D (fun y o e => sm2 _ _ (sm _ _ e)) nDH hD
end
/-! ### DEV -/
/-! ### the law -/
def spLaw (K : PySem.W.Frag) : Sp := fun vs H Q _ => ∃ (a : Addr) (ns : List Int), vs = [.ref a] ∧ SqL K H a (ns.map V.int) ∧ ns.length ≤ 63 ∧ ∀ H', Q (.bl true) H'
theorem st_cnt (b : Bw) (s : Nat) (h : Bool) : (stW b s h).count 49 = b.w.count 49 + (if h = true then 1 else 0) := by
  unfold stW rotL
  rw [List.count_append, Nat.add_comm, ← List.count_append, List.take_append_drop]
  unfold rowW
  rw [List.count_append]
  cases h <;> rfl
theorem st_hi (b : Bw) (s : Nat) (h : Bool) (h0 : 0 < b.n) : decide ((stW b s h).length / 2 < (stW b s h).count 49) = h := by
  have c := (cnt_w b).1
  rw [stW_len, st_cnt]
  cases h with
  | true =>
    rw [if_pos rfl]
    exact decide_eq_true (by omega)
  | false =>
    rw [if_neg Bool.false_ne_true]
    exact decide_eq_false (by omega)
theorem gd_w (b : Bw) : (b.w.all fun c => decide (c < 1114112)) = true := by
  rw [List.all_eq_true]
  intro c hc
  have h := (Bw.w_ok b 0).1
  unfold sg at h
  rw [List.all_eq_true] at h
  have := h c hc
  simp only [Bool.or_eq_true, beq_iff_eq, decide_eq_true_eq] at this ⊢
  omega
theorem gds_txt {K : PySem.W.Frag} {H : Hp} {m : Nat} : ∀ ts : List (List Nat), (∀ t ∈ ts, t.length ≤ m ∧ (t.all fun c => decide (c < 1114112)) = true) → Gds K H (txtV ts) (ts.map fun t => PyData.str (S t)) ((m + 1) * ts.length) 0
  | [], _ => by
    have g : Gds K H [] [] 0 0 := Gds.nil
    exact ⟨g.at_, g.ok, Nat.le_trans g.bk (Nat.zero_le _), g.dp⟩
  | t :: ts, h => by
    have o := h t (.head _)
    have g := Gds.cons (K := K) (H := H) (Gd.str (n := m) o.2 o.1) (gds_txt ts fun t' h' => h t' (.tail _ h'))
    refine ⟨g.at_, g.ok, Nat.le_trans g.bk ?_, Nat.le_trans g.dp (by decide)⟩
    rw [List.length_cons, Nat.mul_add]
    omega
theorem shG {K : PySem.W.Frag} {H : Hp} {x : V} {d : PyData} {n k : Nat} (h : Gd K H x d n k) (hk : k ≤ 60) : SeqAt.shaped d = true := by
  unfold SeqAt.shaped
  rw [(okD_all d h.ok).2.2.2, decide_eq_true (Nat.le_trans h.dp (by omega))]
  rfl
/-- a row moved round by one more -/
theorem rot_rot {r : List Nat} {j k : Nat} (hj : j ≤ r.length) (hk : k ≤ r.length) (hr : 0 < r.length) : rotL (rotL r j) k = rotL r ((j + k) % r.length) := by
  have ml : (j + k) % r.length < r.length := Nat.mod_lt _ hr
  refine rotL_ext (r := r) (Nat.le_of_lt ml) (by rw [rotL_len (by rw [rotL_len hj]; exact hk), rotL_len hj]) fun i hi => ?_
  rw [rotL_get (by rw [rotL_len hj]; exact hk) (by rw [rotL_len hj]; exact hi), rotL_len hj, rotL_get hj (Nat.mod_lt _ hr), Nat.mod_add_mod, Nat.add_mod_mod]
  congr 2
  omega
theorem mov_st (b : Bw) {s : Nat} (h : Bool) (hs : s ≤ b.n) (m : Int) : rotL (stW b s h) ((-m) % ((stW b s h).length : Int)).toNat = stW b (((s : Int) + m) % ((b.n : Int) + 1)).toNat h := by
  have rl := rowW_len b h
  have N0 : (0 : Int) < (b.n : Int) + 1 := by omega
  rw [stW_len]
  have k1 := Int.emod_nonneg (-m) (show ((b.n + 1 : Nat) : Int) ≠ 0 by omega)
  have k2 := Int.emod_lt_of_pos (-m) (show (0 : Int) < ((b.n + 1 : Nat) : Int) by omega)
  have k3 := Int.emod_add_mul_ediv (-m) ((b.n + 1 : Nat) : Int)
  have t1 := Int.emod_nonneg ((s : Int) + m) (show (b.n : Int) + 1 ≠ 0 by omega)
  have t2 := Int.emod_lt_of_pos ((s : Int) + m) N0
  have t3 := Int.emod_add_mul_ediv ((s : Int) + m) ((b.n : Int) + 1)
  have cN : ((b.n + 1 : Nat) : Int) = (b.n : Int) + 1 := rfl
  rw [cN] at k1 k2 k3 ⊢
  generalize (-m) % ((b.n : Int) + 1) = k at *
  generalize ((s : Int) + m) % ((b.n : Int) + 1) = t at *
  unfold stW
  have ml := Nat.mod_lt (b.n + 1 - s) (Nat.succ_pos b.n)
  rw [rot_rot (by rw [rl]; exact Nat.le_of_lt ml) (by rw [rl]; omega) (by rw [rl]; omega), rl]
  congr 1
  rw [Nat.mod_add_mod]
  have e : ((b.n + 1 - s + k.toNat : Nat) : Int) = ((b.n + 1 - t.toNat : Nat) : Int) + ((b.n : Int) + 1) * (-((-m) / ((b.n : Int) + 1)) - ((s : Int) + m) / ((b.n : Int) + 1)) := by
    rw [Int.mul_sub, Int.mul_neg]
    generalize ((b.n : Int) + 1) * ((-m) / ((b.n : Int) + 1)) = X at *
    generalize ((b.n : Int) + 1) * (((s : Int) + m) / ((b.n : Int) + 1)) = Y at *
    omega
  have e2 : (((b.n + 1 - s + k.toNat) % (b.n + 1) : Nat) : Int) = (((b.n + 1 - t.toNat) % (b.n + 1) : Nat) : Int) := by
    rw [Int.natCast_emod, Int.natCast_emod, e, cN, Int.add_mul_emod_self_left]
  omega
theorem isSt_rev {a : List Nat} (h : isSt a = true) : isSt a.reverse = true := by
  unfold isSt sg at h ⊢
  rw [List.all_reverse, List.length_reverse, List.count_reverse]
  exact h
theorem many_eq : ∀ {p}, 1 ≤ p → p ≤ 5 → 2 * chs (2 * p + 1) p = 2 * (2 * p + 1) * (allW p).length := by
  intro p h1 h2
  have : p = 1 ∨ p = 2 ∨ p = 3 ∨ p = 4 ∨ p = 5 := by omega
  rcases this with rfl | rfl | rfl | rfl | rfl <;> decide +kernel
theorem ite_app {c : Bool} {A B : Prop} (M : Prop) (h1 : M → A) (h2 : M → B) (hm : M) : if c = true then A else B := by
  cases c with
  | true => rw [if_pos rfl]; exact h1 hm
  | false => rw [if_neg Bool.false_ne_true]; exact h2 hm
theorem law_end : ∀ (K : PySem.W.Frag) (H : Hp) (a : Addr) (ns : List Int), ns.length ≤ 63 → SqL K H a (ns.map V.int) → spLaw K [.ref a] H (fun v _ => v = .bl true) fun _ _ _ => False :=
  fun _ _ a ns hl hS => ⟨a, ns, rfl, hS, hl, fun _ => rfl⟩
section
variable {P : Program} {w : World} {K : PySem.W.Frag} {mg : Str → Option Value} {base : Heap}
theorem ok_law {f : Addr} {fd : FuncData} (F : Fun K "law" "law" s_law f fd) (T : Txt K mg) (c__law_registry : Cl P w K mg base 1 "_law_registry" (spGauge K)) (c__law_enter : Cl P w K mg base 1 "_law_enter" spTick) (c__law_one : Cl P w K mg base 2 "_law_one" (spDial K))
    (c__law_all_words : Cl P w K mg base 1 "_law_all_words" spAllW) (c__law_state : Cl P w K mg base 1 "_law_state" spLst) (c__law_mirrored : Cl P w K mg base 1 "_law_mirrored" spLmir) (c_low_state : Cl P w K mg base 5 "low_state" (spSth false)) (c_high_state : Cl P w K mg base 5 "high_state" (spSth true))
    (c_home_of : Cl P w K mg base 6 "home_of" spHome) (c_is_high : Cl P w K mg base 4 "is_high" spHigh) (c_how_many_states : Cl P w K mg base 5 "how_many_states" spMany) (c_all_states : Cl P w K mg base 4 "all_states" spAllSt) (c_moved : Cl P w K mg base 4 "moved" spMovSt) (c_exchanged : Cl P w K mg base 4 "exchanged" spExSt) :
    FnG P w K mg base CX0 12 f fd ["script"] (spLaw K) := by
  have nd := sc_law.nd
  refine okG F sc_law (fun vs H Q E h => ?_) (fun cdv A outer s H vs Q E gd hr h => ?_)
  · obtain ⟨a, ns, rfl, _⟩ := h
    rfl
  · obtain ⟨a, ns, rfl, hS, hl, q⟩ := h
    have hu64 := hr.units
    refine ⟨_, (pss_cons (ps_set (i := 1) nd rfl (by first | exact Or.inl rfl | exact Or.inr rfl) (pe_f c__law_registry hr (by decide) (by rfl) (pa_cons (pv 0) pa_nil)))
 (pss_cons (ps_set (i := 2) nd rfl (by first | exact Or.inl rfl | exact Or.inr rfl) (pe_f c__law_one hr (by decide) (by rfl) (pa_cons (pv 1) (pa_cons (pe_ifExp (pt_cmpR op_gt (pe_f c__law_enter hr (by decide) (by rfl) (pa_cons (pv 1) (pa_cons pe_int pa_nil))) pe_int (nomark _)) (pe_lst (pa_cons pe_int (pa_cons pe_int (pa_cons pe_int (pa_cons pe_int pa_nil))))) (pe_lst (pa_cons pe_int (pa_cons pe_int pa_nil)))) pa_nil))))
 (pss_cons (ps_asg (pe_tup (pa_cons (pe_f c__law_all_words hr (by decide) (by rfl) (pa_cons (pv 2) pa_nil)) (pa_cons (pe_op op_add (pe_op op_mul pe_int (pv 2)) pe_int) (pa_cons (pe_lst pa_nil) (pa_cons (pe_lst pa_nil) pa_nil))))) (pg_tup rfl (pgs_cons (pg_name (i := 3) nd rfl (by first | exact Or.inl rfl | exact Or.inr rfl)) (pgs_cons (pg_name (i := 4) nd rfl (by first | exact Or.inl rfl | exact Or.inr rfl)) (pgs_cons (pg_name (i := 5) nd rfl (by first | exact Or.inl rfl | exact Or.inr rfl)) (pgs_cons (pg_name (i := 6) nd rfl (by first | exact Or.inl rfl | exact Or.inr rfl)) pgs_nil))))))
 (pss_cons (ps_for PassesOwn.never rfl (pi_list (pv 3)) (pg_name (i := 7) nd rfl (by first | exact Or.inl rfl | exact Or.inr rfl))
 (pss_one (ps_for PassesOwn.never rfl (pi_range1 (by rfl) T.n_range (pa_cons (pv 4) pa_nil)) (pg_name (i := 8) nd rfl (by first | exact Or.inl rfl | exact Or.inr rfl))
 (pss_cons (ps_par (i := 9) (j := 10) rfl nd rfl rfl (by decide) rfl rfl (pa_cons (pe_f c__law_state hr (by decide) (by rfl) (pa_cons (pv 7) (pa_cons (pv 8) (pa_cons pe_bl pa_nil)))) (pa_cons (pe_f c__law_state hr (by decide) (by rfl) (pa_cons (pv 7) (pa_cons (pv 8) (pa_cons pe_bl pa_nil)))) pa_nil)) (by rfl))
 (pss_cons (ps_if (PW.pt (pw_or (pt_cmpR op_ne_S (pe_f c_low_state hr (by decide) (by rfl) (pa_cons (pv 7) (pa_cons (pv 8) pa_nil))) (pv 9) (nomark _)) (pw_or1 (pt_cmpR op_ne_S (pe_f c_high_state hr (by decide) (by rfl) (pa_cons (pv 7) (pa_cons (pv 8) pa_nil))) (pv 10) (nomark _)))))
 (pss_one (ps_ret pe_bl))
 pss_nil)
 (pss_cons (ps_if (PW.pt (pw_or (pt_cmpR op_ne (pe_callB (cr_show gd hu64) (by rfl) T.n_repr (by decide +kernel) (pa_cons (pe_lst (pa_cons (pe_f c_home_of hr (by decide) (by rfl) (pa_cons (pv 9) pa_nil)) (pa_cons (pe_f c_home_of hr (by decide) (by rfl) (pa_cons (pv 10) pa_nil)) pa_nil))) pa_nil)) (pe_callB (cr_show gd hu64) (by rfl) T.n_repr (by decide +kernel) (pa_cons (pe_op op_rep (pe_lst (pa_cons (pe_tup (pa_cons (pv 7) (pa_cons (pv 8) pa_nil))) pa_nil)) pe_int) pa_nil)) (nomark _)) (pw_or (pt_val (pe_f c_is_high hr (by decide) (by rfl) (pa_cons (pv 9) pa_nil))) (pw_or1 (pt_not (pt_val (pe_f c_is_high hr (by decide) (by rfl) (pa_cons (pv 10) pa_nil))))))))
 (pss_one (ps_ret pe_bl))
 pss_nil)
 (pss_cons (ps_expr (pe_bm PySem.F.plainAttrs_list PySem.F.slot_list_append PySem.F.type_list_append mt_append (pv 5) (pa_cons (pv 9) pa_nil)))
 (pss_one (ps_expr (pe_bm PySem.F.plainAttrs_list PySem.F.slot_list_append PySem.F.type_list_append mt_append (pv 6) (pa_cons (pv 10) pa_nil)))))))))))
 (pss_cons (ps_if (PW.pt (pw_or (pt_cmpR op_ne (pe_lenSet rfl (by rfl) T.n_len (by rfl) T.n_set (pv 5)) (pe_op op_mul (pe_callB (show CallR _ (.builtin "len") (rLenSq K) from call_len_seq) (by rfl) T.n_len (by decide +kernel) (pa_cons (pv 3) pa_nil)) (pv 4)) (nomark _)) (pw_or (pt_cmpR op_ne (pe_lenSet rfl (by rfl) T.n_len (by rfl) T.n_set (pv 6)) (pe_op op_mul (pe_callB (show CallR _ (.builtin "len") (rLenSq K) from call_len_seq) (by rfl) T.n_len (by decide +kernel) (pa_cons (pv 3) pa_nil)) (pv 4)) (nomark _)) (pw_or1 (pt_cmpR op_ne (pe_f c_how_many_states hr (by decide) (by rfl) (pa_cons (pv 2) pa_nil)) (pe_op op_mul (pe_op op_mul pe_int (pv 4)) (pe_callB (show CallR _ (.builtin "len") (rLenSq K) from call_len_seq) (by rfl) T.n_len (by decide +kernel) (pa_cons (pv 3) pa_nil))) (nomark _))))))
 (pss_one (ps_ret pe_bl))
 pss_nil)
 (pss_cons (ps_if (pt_cmpR (op_neD hu64) (pe_callB cr_sortedT (by rfl) T.n_sorted (by decide +kernel) (pa_cons (pe_op op_cat (pv 5) (pv 6)) pa_nil)) (pe_callTy call_list_of (by rfl) T.n_list (by decide +kernel) (pa_cons (pe_f c_all_states hr (by decide) (by rfl) (pa_cons (pv 2) pa_nil)) pa_nil)) (nomark _))
 (pss_one (ps_ret pe_bl))
 pss_nil)
 (pss_cons (ps_for PassesOwn.never rfl (pi_range1 (by rfl) T.n_range (pa_cons pe_int pa_nil)) (pg_name (i := 11) nd rfl (by first | exact Or.inl rfl | exact Or.inr rfl))
 (pss_cons (ps_par (i := 12) (j := 13) rfl nd rfl rfl (by decide) rfl rfl (pa_cons (pe_f c__law_one hr (by decide) (by rfl) (pa_cons (pv 1) (pa_cons (pe_op op_cat (pv 5) (pv 6)) pa_nil))) (pa_cons (pe_op op_sub (pe_f c__law_enter hr (by decide) (by rfl) (pa_cons (pv 1) (pa_cons (pe_op op_mul pe_int (pv 4)) pa_nil))) (pv 4)) pa_nil)) (by rfl))
 (pss_cons (ps_asg (pe_f c_home_of hr (by decide) (by rfl) (pa_cons (pv 12) pa_nil)) (pg_tup rfl (pgs_cons (pg_name (i := 7) nd rfl (by first | exact Or.inl rfl | exact Or.inr rfl)) (pgs_cons (pg_name (i := 8) nd rfl (by first | exact Or.inl rfl | exact Or.inr rfl)) pgs_nil))))
 (pss_cons (ps_if (pt_cmpR (op_neG hu64) (pe_f c_home_of hr (by decide) (by rfl) (pa_cons (pe_f c_moved hr (by decide) (by rfl) (pa_cons (pv 12) (pa_cons (pv 13) pa_nil))) pa_nil)) (pe_tup (pa_cons (pv 7) (pa_cons (pe_op op_mod (pe_callTy call_int1 (by rfl) T.n_int (by decide +kernel) (pa_cons (pe_op op_add (pv 8) (pv 13)) pa_nil)) (pv 4)) pa_nil))) (nomark _))
 (pss_one (ps_ret pe_bl))
 pss_nil)
 (pss_cons (ps_set (i := 14) nd rfl (by first | exact Or.inl rfl | exact Or.inr rfl) (pe_f c_exchanged hr (by decide) (by rfl) (pa_cons (pe_revS (pv 12)) pa_nil)))
 (pss_one (ps_if (PW.pt (pw_or (pt_cmpR (op_neG hu64) (pe_f c_home_of hr (by decide) (by rfl) (pa_cons (pv 14) pa_nil)) (pe_tup (pa_cons (pe_f c__law_mirrored hr (by decide) (by rfl) (pa_cons (pv 7) pa_nil)) (pa_cons (pe_op op_mod (pe_callTy call_int1 (by rfl) T.n_int (by decide +kernel) (pa_cons (pe_op op_sub pe_int (pv 8)) pa_nil)) (pv 4)) pa_nil))) (nomark _)) (pw_or1 (pt_cmpR op_eq (pe_f c_is_high hr (by decide) (by rfl) (pa_cons (pv 14) pa_nil)) (pe_f c_is_high hr (by decide) (by rfl) (pa_cons (pv 12) pa_nil)) (nomark _)))))
 (pss_one (ps_ret pe_bl))
 pss_nil)))))))
 (pss_one (ps_ret pe_bl))))))))), ?_⟩
    refine ⟨_, rfl, a, ns, rfl, hS, hl, fun g H1 s1 ng hG => ?_⟩
    refine nm_st (τ := [some (.ref a), some (.ref g), none, none, none, none, none, none, none, none, none, none, none, none, none]) rfl ?_
    refine ⟨_, rfl, _, rfl, g, _, 8, rfl, hG, by omega, by decide, pow_ok (by decide) (by decide), fun H2 t1 a1 b1 f1 G1 => ?_⟩
    refine ⟨_, _, rfl, rfl, _, rfl, ?_⟩
    refine' ite_app (∀ (n : Nat) (H3 : Hp), 1 ≤ n → n ≤ 5 → GA H3 g 2 → gName 2 (V.int n) [some (.ref a), some (.ref g), none, none, none, none, none, none, none, none, none, none, none, none, none] H3 _) (fun M => ?_) (fun M => ?_) ?_
    rotate_left
    · refine ⟨by show 4 ≤ sizeLine; decide, fun L nL => ?_⟩
      have nLg : L ≠ g := fun e => by
        subst e
        exact G1.some nL
      refine ⟨g, L, _, _, rfl, G1.new nL, by omega, SqL.of upd_same, nLg, by show 0 < 4; decide, by show 4 < 1000; decide, fun H3 u hu f3 G3 => ?_⟩
      obtain ⟨n, rfl, n1, n2⟩ : ∃ n : Nat, u = .int n ∧ 1 ≤ n ∧ n ≤ 5 := by
        simp only [List.mem_cons, List.not_mem_nil, or_false] at hu
        rcases hu with rfl | rfl | rfl | rfl
        · exact ⟨3, rfl, by decide, by decide⟩
        · exact ⟨2, rfl, by decide, by decide⟩
        · exact ⟨1, rfl, by decide, by decide⟩
        · exact ⟨4, rfl, by decide, by decide⟩
      exact M n H3 n1 n2 (G3.mono (by omega))
    · refine ⟨by show 2 ≤ sizeLine; decide, fun L nL => ?_⟩
      have nLg : L ≠ g := fun e => by
        subst e
        exact G1.some nL
      refine ⟨g, L, _, _, rfl, G1.new nL, by omega, SqL.of upd_same, nLg, by show 0 < 2; decide, by show 2 < 1000; decide, fun H3 u hu f3 G3 => ?_⟩
      obtain ⟨n, rfl, n1, n2⟩ : ∃ n : Nat, u = .int n ∧ 1 ≤ n ∧ n ≤ 5 := by
        simp only [List.mem_cons, List.not_mem_nil, or_false] at hu
        rcases hu with rfl | rfl
        · exact ⟨5, rfl, by decide, by decide⟩
        · exact ⟨4, rfl, by decide, by decide⟩
      exact M n H3 n1 n2 (G3.mono (by omega))
    intro p H3 p1 p2 G3
    refine nm_st (τ := [some (.ref a), some (.ref g), some (.int p), none, none, none, none, none, none, none, none, none, none, none, none]) rfl ?_
    refine ⟨_, rfl, p, rfl, p1, p2, fun H4 WS s4 nWS hWS => ?_⟩
    refine ⟨_, rfl, _, _, rfl, rfl, .inl ⟨by decide, by omega⟩, _, _, rfl, rfl, by show 0 ≤ sizeLine; decide, fun LO nLO => ⟨by show 0 ≤ sizeLine; decide, fun HI nHI => ?_⟩⟩
    refine ⟨by show 4 ≤ sizeLine; decide, fun A0 nA0 => ⟨A0, _, rfl, SqT.of upd_same, rfl, _, _, rfl, _, _, rfl, _, _, rfl, _, _, rfl, rfl, ?_⟩⟩
    refine at_st (τ := [some (.ref a), some (.ref g), some (.int p), some (.ref WS), some (.int ((2 * p + 1 : Nat) : Int)), some (.ref LO), some (.ref HI), none, none, none, none, none, none, none, none]) rfl ?_
    obtain ⟨H5, e5⟩ : ∃ H5 : Hp, H5 = upd (upd (upd H4 LO (.lst [])) HI (.lst [])) A0 (.tup [.ref WS, .int (2 * (p : Int) + 1), .ref LO, .ref HI]) := ⟨_, rfl⟩
    refine at_hp (K := H5) e5.symm ?_
    have nLO : H4 LO = none := nLO
    have HL : HI ≠ LO := fun e => by
      rw [e, upd_same] at nHI
      cases nHI
    have nHI4 : H4 HI = none := by rw [← upd_ne (H := H4) (o := .lst []) HL]; exact nHI
    have s5 : Same H4 H5 := fun x o e => by
      rw [e5]
      exact same_new nA0 _ _ (same_new nHI _ _ (same_new nLO _ _ e))
    have hLO5 : H5 LO = some (.lst []) := by rw [e5]; exact same_new nA0 _ _ (same_new nHI _ _ upd_same)
    have hHI5 : H5 HI = some (.lst []) := by rw [e5]; exact same_new nA0 _ _ upd_same
    have G4 := G3.same s4
    have lz : ∀ n : Nat, n ≤ 2000 → n ≤ sizeLine := fun n h => Nat.le_trans h (by decide)
    have aw : (allW p).length ≤ 42 := by
      have : p = 1 ∨ p = 2 ∨ p = 3 ∨ p = 4 ∨ p = 5 := by omega
      rcases this with rfl | rfl | rfl | rfl | rfl <;> decide +kernel
    have hl0 : ∀ h w, (homS p h w).length = 2 * p + 1 := fun h w => by unfold homS; rw [List.length_map, List.length_range]
    have fl : ∀ h (l : List (List Nat)), (l.flatMap (homS p h)).length = (2 * p + 1) * l.length := fun h l => by
      induction l with
      | nil => rfl
      | cons y l ih =>
        rw [List.flatMap_cons, List.length_append, ih, hl0]
        show _ = (2 * p + 1) * (l.length + 1)
        rw [Nat.mul_succ, Nat.add_comm]
    refine ⟨_, rfl, WS, rfl, ⟨_, SqL.of (s5 _ _ hWS)⟩, ?_⟩
    refine for_list (a := WS) (xs := txtV (allW p)) (fun i σ H' => ∃ v7 v8 v9 v10, σ = [some (.ref a), some (.ref g), some (.int p), some (.ref WS), some (.int ((2 * p + 1 : Nat) : Int)), some (.ref LO), some (.ref HI), v7, v8, v9, v10, none, none, none, none] ∧
        Same H4 H' ∧ H' LO = some (.lst (txtV (((allW p).take i).flatMap (homS p false)))) ∧ H' HI = some (.lst (txtV (((allW p).take i).flatMap (homS p true))))) ⟨none, none, none, none, rfl, s5, hLO5, hHI5⟩ (fun i σ H' _ h => ?_) ?_ ?_
    · obtain ⟨_, _, _, _, _, h, _⟩ := h
      exact SqL.of (h _ _ hWS)
    · rintro i x σ H' hx ⟨v7, v8, v9, v10, rfl, sm, hLO, hHI⟩
      obtain ⟨b, hb, rfl, hbn⟩ : ∃ b : Bw, (allW p)[i]? = some b.w ∧ x = .str (S b.w) ∧ b.n = 2 * p := by
        unfold txtV at hx
        rw [List.getElem?_map] at hx
        cases e : (allW p)[i]? with
        | none =>
          rw [e] at hx
          cases hx
        | some z =>
          rw [e] at hx
          obtain ⟨b, rfl, hb⟩ := allW_mem.mp (List.mem_of_getElem? e)
          exact ⟨b, rfl, (Option.some.inj hx).symm, hb⟩
      have il : i < (allW p).length := (List.getElem?_eq_some_iff.mp hb).1
      have tl : ((allW p).take i).length ≤ 42 := Nat.le_trans (List.length_take_le' ..) aw
      have h0 : 0 < b.n := by omega
      have hb4 : b.n ≤ 400 := by omega
      refine nm_st (τ := [some (.ref a), some (.ref g), some (.int p), some (.ref WS), some (.int ((2 * p + 1 : Nat) : Int)), some (.ref LO), some (.ref HI), some (.str (S b.w)), v8, v9, v10, none, none, none, none]) rfl ?_
      refine ⟨_, rfl, ((2 * p + 1 : Nat) : Int), rfl, by omega, by omega, ?_⟩
      rw [Int.toNat_natCast]
      refine for_range (lo := 0) (n := 2 * p + 1) (fun j σ H' => ∃ v8 v9 v10, σ = [some (.ref a), some (.ref g), some (.int p), some (.ref WS), some (.int ((2 * p + 1 : Nat) : Int)), some (.ref LO), some (.ref HI), some (.str (S b.w)), v8, v9, v10, none, none, none, none] ∧
          Same H4 H' ∧ H' LO = some (.lst (txtV (((allW p).take i).flatMap (homS p false) ++ (homS p false b.w).take j))) ∧ H' HI = some (.lst (txtV (((allW p).take i).flatMap (homS p true) ++ (homS p true b.w).take j)))) ⟨v8, v9, v10, rfl, sm, by rw [List.take_zero, List.append_nil]; exact hLO, by rw [List.take_zero, List.append_nil]; exact hHI⟩ ?_ ?_
      · rintro j σ H' hj ⟨v8, v9, v10, rfl, sm, hLO, hHI⟩
        have hs : j ≤ b.n := by omega
        refine nm_st (τ := [some (.ref a), some (.ref g), some (.int p), some (.ref WS), some (.int ((2 * p + 1 : Nat) : Int)), some (.ref LO), some (.ref HI), some (.str (S b.w)), some (.int (j : Nat)), v9, v10, none, none, none, none]) (by rw [Int.zero_add]; rfl) ?_
        refine ⟨_, rfl, _, rfl, b, j, false, rfl, h0, hb4, hs, fun Ha sa => ⟨_, rfl, _, rfl, b, j, true, rfl, h0, hb4, hs, fun Hb sb => ⟨_, _, rfl, ?_⟩⟩⟩
        refine at_st (τ := [some (.ref a), some (.ref g), some (.int p), some (.ref WS), some (.int ((2 * p + 1 : Nat) : Int)), some (.ref LO), some (.ref HI), some (.str (S b.w)), some (.int (j : Nat)), some (.str (S (stW b j false))), some (.str (S (stW b j true))), none, none, none, none]) rfl ?_
        refine ⟨_, rfl, _, rfl, b, j, rfl, h0, hb4, hs, fun Hc sc => ⟨_, rfl, _, _, rfl, rfl, _, rfl, ?_⟩⟩
        rw [decide_eq_true rfl]
        refine iteF ?_
        refine ⟨_, rfl, _, rfl, b, j, rfl, h0, hb4, hs, fun Hd sd => ⟨_, rfl, _, _, rfl, rfl, _, rfl, ?_⟩⟩
        rw [decide_eq_true rfl]
        refine iteF ?_
        have gt : ∀ {H0 : Hp} {z : Addr}, H0 z = some (.tup [.str (S b.w), .int (j : Nat)]) → Gd K H0 (.ref z) (.tuple [.str (S b.w), .int (j : Nat)]) _ _ := fun {H0 z} e => Gd.tup (SqT.of e) (.cons (Gd.str (n := 401) (gd_w b) (by show b.n ≤ 401; omega)) (.cons (.int (log2_nat (by omega))) .nil))
        have gl : ∀ {H0 : Hp} {L x y : Addr}, H0 L = some (.lst [.ref x, .ref y]) → H0 x = some (.tup [.str (S b.w), .int (j : Nat)]) → H0 y = some (.tup [.str (S b.w), .int (j : Nat)]) → GD K H0 (.ref L) (.list [.tuple [.str (S b.w), .int (j : Nat)], .tuple [.str (S b.w), .int (j : Nat)]]) := fun {H0 L x y} e ex ey =>
          (Gd.lst (SqL.of e) (.cons (gt ex) (.cons (gt ey) .nil))).gd (by decide) (by decide)
        refine ⟨_, rfl, b, j, false, rfl, h0, hb4, hs, fun He t1 se ht1 => ⟨_, rfl, b, j, true, rfl, h0, hb4, hs, fun Hf t2 sf ht2 => ⟨by show 2 ≤ sizeLine; decide, fun L1 nL1 => ?_⟩⟩⟩
        refine ⟨_, _, rfl, gl upd_same (same_new nL1 _ _ (sf _ _ ht1)) (same_new nL1 _ _ ht2), ?_⟩
        refine ⟨_, rfl, _, rfl, by show 2 ≤ sizeLine; decide, fun A nA => ⟨by show 1 ≤ sizeLine; decide, fun L2 nL2 => ?_⟩⟩
        refine ⟨L2, 2, _, rfl, rfl, upd_same, by decide, by decide, by show 1 * 2 ≤ sizeLine; decide, fun L3 nL3 => ?_⟩
        refine ⟨_, _, rfl, gl upd_same (same_new nL3 _ _ (same_new nL2 _ _ upd_same)) (same_new nL3 _ _ (same_new nL2 _ _ upd_same)), ?_⟩
        refine ⟨rfl, _, rfl, ?_⟩
        rw [decide_eq_true rfl]
        refine iteF ?_
        refine ⟨_, rfl, _, rfl, stW_st b j false h0 hb4, fun Hg sg' => ⟨_, rfl, ?_⟩⟩
        rw [st_hi b j false h0]
        refine iteF ?_
        refine ⟨_, rfl, _, rfl, stW_st b j true h0 hb4, fun Hh sh => ⟨_, rfl, ?_⟩⟩
        rw [st_hi b j true h0]
        refine iteF ?_
        have sx : Same H' Hh := fun x o e => sh _ _ (sg' _ _ (same_new nL3 _ _ (same_new nL2 _ _ (same_new nA _ _ (same_new nL1 _ _ (sf _ _ (se _ _ (sd _ _ (sc _ _ (sb _ _ (sa _ _ e)))))))))))
        have hLO7 := sx _ _ hLO
        have hHI7 := sx _ _ hHI
        have sm7 : Same H4 Hh := sm.trans sx
        have few : ∀ h, (txtV (((allW p).take i).flatMap (homS p h) ++ (homS p h b.w).take j)).length < sizeLine := fun h => by
          unfold txtV
          rw [List.length_map, List.length_append, fl]
          have t1 : ((homS p h b.w).take j).length ≤ j := List.length_take_le ..
          have t2 : (2 * p + 1) * ((allW p).take i).length ≤ 11 * 42 := Nat.mul_le_mul (by omega) tl
          exact Nat.lt_of_le_of_lt (by omega : _ ≤ 1200) (by decide)
        have more : ∀ h, txtV (((allW p).take i).flatMap (homS p h) ++ (homS p h b.w).take j) ++ [V.str (S (stW b j h))] = txtV (((allW p).take i).flatMap (homS p h) ++ (homS p h b.w).take (j + 1)) := fun h => by
          have e1 : (homS p h b.w)[j]? = some (stW b j h) := by
            rw [homS_w, List.getElem?_map, List.getElem?_range hj]
            rfl
          rw [List.take_add_one, e1, ← List.append_assoc]
          unfold txtV
          simp only [List.map_append, List.append_assoc]
          rfl
        refine ⟨_, rfl, .inl ⟨rfl, _, SqL.of hLO7⟩, _, rfl, LO, _, _, rfl, rfl, hLO7, few false, ?_⟩
        rw [more false]
        have hHI8 : upd Hh LO (.lst (txtV (((allW p).take i).flatMap (homS p false) ++ (homS p false b.w).take (j + 1)))) HI = some (.lst (txtV (((allW p).take i).flatMap (homS p true) ++ (homS p true b.w).take j))) := by
          rw [upd_ne HL]
          exact hHI7
        refine ⟨_, rfl, .inl ⟨rfl, _, SqL.of hHI8⟩, _, rfl, HI, _, _, rfl, rfl, hHI8, few true, ?_⟩
        rw [more true]
        exact ⟨_, _, _, rfl, same_put (same_put sm7 nLO) nHI4, by rw [upd_ne (fun e => HL e.symm)]; exact upd_same, upd_same⟩
      · rintro σ H' ⟨v8, v9, v10, rfl, sm, hLO, hHI⟩
        have e1 : ∀ h, ((allW p).take (i + 1)).flatMap (homS p h) = ((allW p).take i).flatMap (homS p h) ++ homS p h b.w := fun h => by
          rw [List.take_add_one, hb, List.flatMap_append]
          show _ ++ (homS p h b.w ++ []) = _
          rw [List.append_nil]
        have e2 : ∀ h, (homS p h b.w).take (2 * p + 1) = homS p h b.w := fun h => List.take_of_length_le (by rw [hl0]; exact Nat.le_refl _)
        rw [e2] at hLO hHI
        exact ⟨_, _, _, _, rfl, sm, by rw [e1]; exact hLO, by rw [e1]; exact hHI⟩
    · rintro σ H' ⟨v7, v8, v9, v10, rfl, sm, hLO, hHI⟩
      have xl : (txtV (allW p)).length = (allW p).length := List.length_map ..
      rw [xl, List.take_length] at hLO hHI
      have hLO : H' LO = some (.lst (txtV (lowsP p false))) := hLO
      have hHI : H' HI = some (.lst (txtV (lowsP p true))) := hHI
      have hW := sm _ _ hWS
      have ll : ∀ h, (lowsP p h).length = (2 * p + 1) * (allW p).length := fun h => fl h _
      have ls : ∀ h, (lowsP p h).length ≤ 462 := fun h => by
        rw [ll]
        exact Nat.mul_le_mul (by omega : 2 * p + 1 ≤ 11) aw
      have eL : ∀ h, V.int ((lowsP p h).length : Nat) = V.int (((txtV (allW p)).length : Nat) * ((2 * p + 1 : Nat) : Int)) := fun h => by
        rw [xl, ll, Int.natCast_mul, Int.mul_comm]
      refine ⟨_, rfl, LO, lowsP p false, rfl, SqL.of hLO, lowsP_nd p1 _, Nat.le_trans (ls _) (by decide), ?_⟩
      refine ⟨_, rfl, WS, _, rfl, .inl (SqL.of hW), _, rfl, _, _, rfl, rfl, .inl ⟨by omega, by omega⟩, ?_⟩
      refine ⟨rfl, _, rfl, ?_⟩
      rw [decide_eq_true (eL false)]
      refine iteF ?_
      refine ⟨_, rfl, HI, lowsP p true, rfl, SqL.of hHI, lowsP_nd p1 _, Nat.le_trans (ls _) (by decide), ?_⟩
      refine ⟨_, rfl, WS, _, rfl, .inl (SqL.of hW), _, rfl, _, _, rfl, rfl, .inl ⟨by omega, by omega⟩, ?_⟩
      refine ⟨rfl, _, rfl, ?_⟩
      rw [decide_eq_true (eL true)]
      refine iteF ?_
      have eM : V.int (2 * (chs (2 * p + 1) p : Nat)) = V.int (2 * ((2 * p + 1 : Nat) : Int) * ((txtV (allW p)).length : Nat)) := by
        rw [xl]
        have := many_eq p1 p2
        congr 1
        rw [show (2 : Int) * ((2 * p + 1 : Nat) : Int) * ((allW p).length : Nat) = ((2 * (2 * p + 1) * (allW p).length : Nat) : Int) from by rw [Int.natCast_mul, Int.natCast_mul]; rfl, ← this, Int.natCast_mul]
        rfl
      refine ⟨_, rfl, p, rfl, p1, p2, _, rfl, _, _, rfl, rfl, .inl ⟨by decide, by decide⟩, _, rfl, WS, _, rfl, .inl (SqL.of hW), _, _, rfl, rfl, .inl ⟨by omega, by omega⟩, ?_⟩
      refine ⟨rfl, _, rfl, ?_⟩
      rw [decide_eq_true eM]
      refine iteF ?_
      -- all states
      have tm : txtV (lowsP p false) ++ txtV (lowsP p true) = txtV (lowsP p false ++ lowsP p true) := by
        unfold txtV
        rw [List.map_append]
      have tl2 : (txtV (lowsP p false)).length + (txtV (lowsP p true)).length ≤ 924 := by
        unfold txtV
        rw [List.length_map, List.length_map]
        have := ls false
        have := ls true
        omega
      refine ⟨_, rfl, _, rfl, LO, HI, _, _, rfl, rfl, hLO, hHI, Nat.le_trans tl2 (by decide), fun C nC => ?_⟩
      rw [tm]
      refine ⟨C, lowsP p false ++ lowsP p true, rfl, SqL.of upd_same, fun ts D pm asc nD => ?_⟩
      obtain rfl : ts = stsP p := asc_uniq asc (asc_le (stsP_asc p)) (pm.trans (all_perm p1 p2))
      refine ⟨_, rfl, p, rfl, p1, p2, fun Hx R sx hR => ⟨R, _, rfl, .inr (SqT.of hR), fun L nL => ?_⟩⟩
      have gS : ∀ {H0 : Hp} {z : Addr}, H0 z = some (.lst (txtV (stsP p))) → Gd K H0 (.ref z) (.list ((stsP p).map fun t => PyData.str (S t))) ((11 + 1) * (stsP p).length) 1 := fun {H0 z} e => Gd.lst (SqL.of e) (gds_txt (stsP p) fun t ht => by
        obtain ⟨h1, h2⟩ := stsP_mem.mp ht
        refine ⟨by omega, ?_⟩
        have h3 := (isSt_of h1).1
        rw [List.all_eq_true]
        intro c hc
        unfold sg at h3
        rw [List.all_eq_true] at h3
        have := h3 c hc
        simp only [Bool.or_eq_true, beq_iff_eq, decide_eq_true_eq] at this ⊢
        omega)
      have g1 := gS (H0 := upd Hx L (.lst (txtV (stsP p)))) (z := D) (same_new nL _ _ (sx _ _ upd_same))
      have g2 := gS (H0 := upd Hx L (.lst (txtV (stsP p)))) (z := L) upd_same
      refine ⟨_, _, g1.at_, g2.at_, shG g1 (by decide), shG g2 (by decide), ?_⟩
      refine ⟨_, rfl, ?_⟩
      rw [SeqAt.eqv_refl _ (okD_all _ g1.ok).2.2.2]
      refine iteF ?_
      have sm9 : Same H4 (upd Hx L (.lst (txtV (stsP p)))) := fun x o e => same_new nL _ _ (sx _ _ (same_new nD _ _ (same_new nC _ _ (sm _ _ e))))
      have hLO9 : upd Hx L (.lst (txtV (stsP p))) LO = some (.lst (txtV (lowsP p false))) := same_new nL _ _ (sx _ _ (same_new nD _ _ (same_new nC _ _ hLO)))
      have hHI9 : upd Hx L (.lst (txtV (stsP p))) HI = some (.lst (txtV (lowsP p true))) := same_new nL _ _ (sx _ _ (same_new nD _ _ (same_new nC _ _ hHI)))
      generalize upd Hx L (.lst (txtV (stsP p))) = H9 at sm9 hLO9 hHI9 ⊢
      have G9 := G4.same sm9
      have LOg : LO ≠ g := fun e => G4.some (e ▸ nLO)
      have HIg : HI ≠ g := fun e => G4.some (e ▸ nHI4)
      refine ⟨4, rfl, by decide, by decide, for_range (lo := 0) (n := 4) (fun i σ H' => ∃ v7 v8 v9 v10 v11 v12 v13 v14, σ = [some (.ref a), some (.ref g), some (.int p), some (.ref WS), some (.int ((2 * p + 1 : Nat) : Int)), some (.ref LO), some (.ref HI), v7, v8, v9, v10, v11, v12, v13, v14] ∧
        GA H' g (10 + 5 * i) ∧ H' LO = some (.lst (txtV (lowsP p false))) ∧ H' HI = some (.lst (txtV (lowsP p true)))) ⟨v7, v8, v9, v10, none, none, none, none, rfl, G9.mono (by omega), hLO9, hHI9⟩ ?_ ?_⟩
      · rintro i σ H' hi ⟨v7, v8, v9, v10, v11, v12, v13, v14, rfl, G, hLO, hHI⟩
        refine ⟨_, rfl, _, rfl, _, rfl, LO, HI, _, _, rfl, rfl, hLO, hHI, Nat.le_trans tl2 (by decide), fun C nC => ?_⟩
        rw [tm]
        have nCg : C ≠ g := fun e => by
          subst e
          exact G.some nC
        have l0 : 0 < (allW p).length := by
          have : p = 1 ∨ p = 2 ∨ p = 3 ∨ p = 4 ∨ p = 5 := by omega
          rcases this with rfl | rfl | rfl | rfl | rfl <;> decide +kernel
        have lt0 : 0 < (txtV (lowsP p false ++ lowsP p true)).length := by
          unfold txtV
          rw [List.length_map, List.length_append, ll]
          have := Nat.mul_le_mul (by omega : 1 ≤ 2 * p + 1) l0
          omega
        have lt1 : (txtV (lowsP p false ++ lowsP p true)).length < 1000 := by
          unfold txtV
          rw [List.length_map, List.length_append]
          have := ls false
          have := ls true
          omega
        refine ⟨g, C, _, _, rfl, G.new nC, by omega, SqL.of upd_same, nCg, lt0, lt1, fun Ha x hx fa Ga => ?_⟩
        obtain ⟨b, s, h, rfl, hbn, hs⟩ : ∃ (b : Bw) (s : Nat) (h : Bool), x = .str (S (stW b s h)) ∧ b.n = 2 * p ∧ s ≤ b.n := by
          obtain ⟨z, hz, rfl⟩ := List.mem_map.mp hx
          rcases List.mem_append.mp hz with hz | hz
          · obtain ⟨b, s, h1, h2, rfl⟩ := lowsP_mem.mp hz
            exact ⟨b, s, _, rfl, h1, h2⟩
          · obtain ⟨b, s, h1, h2, rfl⟩ := lowsP_mem.mp hz
            exact ⟨b, s, _, rfl, h1, h2⟩
        have h0 : 0 < b.n := by omega
        have hb4 : b.n ≤ 400 := by omega
        have hLOa := fa _ _ LOg (same_new nC (o := .lst (txtV (lowsP p false ++ lowsP p true))) _ _ hLO)
        have hHIa := fa _ _ HIg (same_new nC (o := .lst (txtV (lowsP p false ++ lowsP p true))) _ _ hHI)
        refine ⟨_, rfl, _, rfl, _, _, rfl, rfl, .inl ⟨by decide, by decide⟩, g, _, 4 * ((2 * p + 1 : Nat) : Int), rfl, Ga, by omega, by omega, pow_ok (by omega) (by omega), fun Hb t a1 b1 fb Gb => ?_⟩
        refine ⟨_, rfl, _, _, rfl, rfl, _, _, rfl, ?_⟩
        have hLOb := fb _ _ LOg hLOa
        have hHIb := fb _ _ HIg hHIa
        obtain ⟨m, em⟩ : ∃ m : Int, m = t - ((2 * p + 1 : Nat) : Int) := ⟨_, rfl⟩
        refine at_st (τ := [some (.ref a), some (.ref g), some (.int p), some (.ref WS), some (.int ((2 * p + 1 : Nat) : Int)), some (.ref LO), some (.ref HI), v7, v8, v9, v10, some (.int (0 + (i : Int))), some (.str (S (stW b s h))), some (.int m), v14]) (by rw [em]; rfl) ?_
        refine ⟨_, rfl, b, s, h, rfl, h0, hb4, hs, fun Hc T1 sc hT1 => ⟨T1, _, rfl, SqT.of hT1, rfl, _, _, rfl, _, _, rfl, rfl, ?_⟩⟩
        refine at_st (τ := [some (.ref a), some (.ref g), some (.int p), some (.ref WS), some (.int ((2 * p + 1 : Nat) : Int)), some (.ref LO), some (.ref HI), some (.str (S b.w)), some (.int s), v9, v10, some (.int (0 + (i : Int))), some (.str (S (stW b s h))), some (.int m), v14]) rfl ?_
        have gt : ∀ {H0 : Hp} {z : Addr} {c : Bw} {j : Nat}, c.n ≤ 400 → j ≤ 400 → H0 z = some (.tup [.str (S c.w), .int (j : Nat)]) → GD K H0 (.ref z) (.tuple [.str (S c.w), .int (j : Nat)]) := fun {H0 z c j} hc hj e => (Gd.tup (SqT.of e) (.cons (Gd.str (n := 401) (gd_w c) (by show c.n ≤ 401; omega)) (.cons (.int (log2_nat (by omega))) .nil))).gd (by decide) (by decide)
        have cN : ((2 * p + 1 : Nat) : Int) = (b.n : Int) + 1 := by omega
        have q1 := Int.emod_nonneg ((s : Int) + m) (show (b.n : Int) + 1 ≠ 0 by omega)
        have q2 := Int.emod_lt_of_pos ((s : Int) + m) (show (0 : Int) < (b.n : Int) + 1 by omega)
        obtain ⟨s2, es2⟩ : ∃ s2 : Nat, s2 = (((s : Int) + m) % ((b.n : Int) + 1)).toNat := ⟨_, rfl⟩
        have es3 : ((s : Int) + m) % ((2 * p + 1 : Nat) : Int) = (s2 : Int) := by rw [cN, es2]; omega
        have hs2 : s2 ≤ b.n := by rw [es2]; omega
        refine ⟨_, rfl, _, rfl, stW b s h, m, rfl, stW_st b s h h0 hb4, fun Hd sd => ?_⟩
        rw [mov_st b h hs m, ← es2]
        refine ⟨b, s2, h, rfl, h0, hb4, hs2, fun He T2 se hT2 => ?_⟩
        refine ⟨_, rfl, _, rfl, _, rfl, _, _, rfl, rfl, .inl ⟨_, rfl, _, rfl, _, _, rfl, rfl, by omega, by show 2 ≤ sizeLine; decide, fun A nA => ?_⟩⟩
        have g5 := gt (H0 := upd He A (.tup [.str (S b.w), .int (((s : Int) + m) % ((2 * p + 1 : Nat) : Int))])) (z := A) hb4 (by omega : s2 ≤ 400) (upd_same.trans (congrArg (fun z : Int => some (HO.tup [V.str (S b.w), .int z])) es3))
        refine ⟨_, _, gt hb4 (by omega) (same_new nA _ _ hT2), g5, ?_⟩
        refine ⟨_, rfl, ?_⟩
        rw [eqv_gd g5]
        refine iteF ?_
        -- read backward, exchanged
        refine ⟨_, rfl, stW b s h, rfl, lz _ (by rw [stW_len]; omega), (stW b s h).reverse, rfl, isSt_rev (stW_st b s h h0 hb4), fun Hf sf => ?_⟩
        rw [stW_mir b h h0 hs]
        have mn : (Bw.mir b).n = b.n := Bw.mir_n b
        have hm := Nat.mod_lt (b.n + 2 - s) (Nat.succ_pos b.n)
        have e6 : (1 - (s : Int)) % ((2 * p + 1 : Nat) : Int) = (((b.n + 2 - s) % (b.n + 1) : Nat) : Int) := by
          rw [Int.natCast_emod, cN]
          have h1 : ((b.n + 2 - s : Nat) : Int) = (1 - (s : Int)) + ((b.n : Int) + 1) := by omega
          rw [h1]
          exact (Int.add_emod_right ..).symm
        generalize (b.n + 2 - s) % (b.n + 1) = s3 at hm e6 ⊢
        refine nm_st (τ := [some (.ref a), some (.ref g), some (.int p), some (.ref WS), some (.int ((2 * p + 1 : Nat) : Int)), some (.ref LO), some (.ref HI), some (.str (S b.w)), some (.int s), v9, v10, some (.int (0 + (i : Int))), some (.str (S (stW b s h))), some (.int m), some (.str (S (stW (Bw.mir b) s3 (!h))))]) rfl ?_
        refine ⟨_, rfl, Bw.mir b, s3, !h, rfl, by omega, by omega, by omega, fun Hg T3 sg' hT3 => ?_⟩
        refine ⟨_, rfl, b.w, rfl, by show b.n ≤ 900; omega, fun Hh sh => ?_⟩
        rw [← Bw.mir_w]
        refine ⟨_, rfl, _, _, rfl, rfl, .inl ⟨_, rfl, _, rfl, _, _, rfl, rfl, by omega, by show 2 ≤ sizeLine; decide, fun A4 nA4 => ?_⟩⟩
        have g6 := gt (H0 := upd Hh A4 (.tup [.str (S (Bw.mir b).w), .int ((1 - (s : Int)) % ((2 * p + 1 : Nat) : Int))])) (z := A4) (c := Bw.mir b) (by omega) (by omega : s3 ≤ 400) (upd_same.trans (congrArg (fun z : Int => some (HO.tup [V.str (S (Bw.mir b).w), .int z])) e6))
        refine ⟨_, _, gt (by omega) (by omega) (same_new nA4 _ _ (sh _ _ hT3)), g6, ?_⟩
        refine ⟨_, rfl, ?_⟩
        rw [eqv_gd g6]
        refine iteF ?_
        refine ⟨_, rfl, _, rfl, stW_st (Bw.mir b) s3 (!h) (by omega) (by omega), fun Hi si => ⟨_, rfl, _, rfl, stW_st b s h h0 hb4, fun Hj sj => ?_⟩⟩
        rw [st_hi (Bw.mir b) s3 (!h) (by omega), st_hi b s h h0]
        refine ⟨rfl, _, rfl, ?_⟩
        rw [decide_eq_false (show ¬ V.bl (!h) = V.bl h from fun z => by have := V.bl.inj z; cases h <;> cases this)]
        have sz : Same Hb Hj := fun y o e => sj _ _ (si _ _ (same_new nA4 _ _ (sh _ _ (sg' _ _ (sf _ _ (same_new nA _ _ (se _ _ (sd _ _ (sc _ _ e)))))))))
        exact iteF ⟨_, _, _, _, _, _, _, _, rfl, (Gb.same sz).mono (by omega), sz _ _ hLOb, sz _ _ hHIb⟩
      · rintro σ H' _
        exact q _
end

/-! ### what the top has written, the end -/
theorem all_mk {l : PySem.W.OpenLaw} {w : World} {K : PySem.W.Frag} {h : Heap} {mg : Str → Option Value} {fa f0 f1 f2 f3 f4 f5 f6 f7 f8 f9 f10 f11 f12 f13 f14 f15 f16 f17 f18 f19 f20 f21 f22 f23 f24 f25 f26 f27 f28 f29 f30 f31 : Addr} (X : K.In h) (G : h.Ns mainGlobals mg) (hfa : mg "law" = some (.ref fa))
    {od0 an0 od1 an1 od2 an2 od3 an3 od4 an4 od5 an5 od6 an6 od7 an7 od8 an8 od9 an9 od10 an10 od11 an11 od12 an12 od13 an13 od14 an14 od15 an15 od16 an16 od17 an17 od18 an18 od19 an19 od20 an20 od21 an21 od22 an22 od23 an23 od24 an24 od25 an25 od26 an26 od27 an27 od28 an28 od29 an29 od30 an30 od31 an31 : Option Addr} {sl0 sl1 sl2 sl3 sl4 sl5 sl6 sl7 sl8 sl9 sl10 sl11 sl12 sl13 sl14 sl15 sl16 sl17 sl18 sl19 sl20 sl21 sl22 sl23 sl24 sl25 sl26 sl27 sl28 sl29 sl30 sl31 : Array (Option Value)} {oc0 kV0 dc0 pm0 cd0 ct0 oc1 kV1 dc1 pm1 cd1 ct1 oc2 kV2 dc2 pm2 cd2 ct2 oc3 kV3 dc3 pm3 cd3 ct3 oc4 kV4 dc4 pm4 cd4 ct4 oc5 kV5 dc5 pm5 cd5 ct5 oc6 kV6 dc6 pm6 cd6 ct6 oc7 kV7 dc7 pm7 cd7 ct7 oc8 kV8 dc8 pm8 cd8 ct8 oc9 kV9 dc9 pm9 cd9 ct9 oc10 kV10 dc10 pm10 cd10 ct10 oc11 kV11 dc11 pm11 cd11 ct11 oc12 kV12 dc12 pm12 cd12 ct12 oc13 kV13 dc13 pm13 cd13 ct13 oc14 kV14 dc14 pm14 cd14 ct14 oc15 kV15 dc15 pm15 cd15 ct15 oc16 kV16 dc16 pm16 cd16 ct16 oc17 kV17 dc17 pm17 cd17 ct17 oc18 kV18 dc18 pm18 cd18 ct18 oc19 kV19 dc19 pm19 cd19 ct19 oc20 kV20 dc20 pm20 cd20 ct20 oc21 kV21 dc21 pm21 cd21 ct21 oc22 kV22 dc22 pm22 cd22 ct22 oc23 kV23 dc23 pm23 cd23 ct23 oc24 kV24 dc24 pm24 cd24 ct24 oc25 kV25 dc25 pm25 cd25 ct25 oc26 kV26 dc26 pm26 cd26 ct26 oc27 kV27 dc27 pm27 cd27 ct27 oc28 kV28 dc28 pm28 cd28 ct28 oc29 kV29 dc29 pm29 cd29 ct29 oc30 kV30 dc30 pm30 cd30 ct30 oc31 kV31 dc31 pm31 cd31 ct31 : Value}
    (a0 : PySem.W.nsIn K mainGlobals "is_integer" = some (some (.ref f0)))
    (l0 : K.lookup f0 = some ⟨oc0, od0, .func (PySem.W.fnOf "is_integer" "is_integer" (defArgs s_is_integer) (defBody s_is_integer) (defScope s_is_integer) .none kV0 dc0 pm0 an0 cd0 ct0), sl0⟩)
    (c0 : PySem.W.codeIn K cd0 "is_integer" = true) (k0 : PySem.W.keepIn K (.ref f0) = true)
    (a1 : PySem.W.nsIn K mainGlobals "is_within" = some (some (.ref f1)))
    (l1 : K.lookup f1 = some ⟨oc1, od1, .func (PySem.W.fnOf "is_within" "is_within" (defArgs s_is_within) (defBody s_is_within) (defScope s_is_within) .none kV1 dc1 pm1 an1 cd1 ct1), sl1⟩)
    (c1 : PySem.W.codeIn K cd1 "is_within" = true) (k1 : PySem.W.keepIn K (.ref f1) = true)
    (a2 : PySem.W.nsIn K mainGlobals "is_signs" = some (some (.ref f2)))
    (l2 : K.lookup f2 = some ⟨oc2, od2, .func (PySem.W.fnOf "is_signs" "is_signs" (defArgs s_is_signs) (defBody s_is_signs) (defScope s_is_signs) .none kV2 dc2 pm2 an2 cd2 ct2), sl2⟩)
    (c2 : PySem.W.codeIn K cd2 "is_signs" = true) (k2 : PySem.W.keepIn K (.ref f2) = true)
    (a3 : PySem.W.nsIn K mainGlobals "check_number" = some (some (.ref f3)))
    (l3 : K.lookup f3 = some ⟨oc3, od3, .func (PySem.W.fnOf "check_number" "check_number" (defArgs s_check_number) (defBody s_check_number) (defScope s_check_number) .none kV3 dc3 pm3 an3 cd3 ct3), sl3⟩)
    (c3 : PySem.W.codeIn K cd3 "check_number" = true) (k3 : PySem.W.keepIn K (.ref f3) = true)
    (a4 : PySem.W.nsIn K mainGlobals "is_word" = some (some (.ref f4)))
    (l4 : K.lookup f4 = some ⟨oc4, od4, .func (PySem.W.fnOf "is_word" "is_word" (defArgs s_is_word) (defBody s_is_word) (defScope s_is_word) .none kV4 dc4 pm4 an4 cd4 ct4), sl4⟩)
    (c4 : PySem.W.codeIn K cd4 "is_word" = true) (k4 : PySem.W.keepIn K (.ref f4) = true)
    (a5 : PySem.W.nsIn K mainGlobals "check_word" = some (some (.ref f5)))
    (l5 : K.lookup f5 = some ⟨oc5, od5, .func (PySem.W.fnOf "check_word" "check_word" (defArgs s_check_word) (defBody s_check_word) (defScope s_check_word) .none kV5 dc5 pm5 an5 cd5 ct5), sl5⟩)
    (c5 : PySem.W.codeIn K cd5 "check_word" = true) (k5 : PySem.W.keepIn K (.ref f5) = true)
    (a6 : PySem.W.nsIn K mainGlobals "exchanged_signs" = some (some (.ref f6)))
    (l6 : K.lookup f6 = some ⟨oc6, od6, .func (PySem.W.fnOf "exchanged_signs" "exchanged_signs" (defArgs s_exchanged_signs) (defBody s_exchanged_signs) (defScope s_exchanged_signs) .none kV6 dc6 pm6 an6 cd6 ct6), sl6⟩)
    (c6 : PySem.W.codeIn K cd6 "exchanged_signs" = true) (k6 : PySem.W.keepIn K (.ref f6) = true)
    (a7 : PySem.W.nsIn K mainGlobals "mirrored_word" = some (some (.ref f7)))
    (l7 : K.lookup f7 = some ⟨oc7, od7, .func (PySem.W.fnOf "mirrored_word" "mirrored_word" (defArgs s_mirrored_word) (defBody s_mirrored_word) (defScope s_mirrored_word) .none kV7 dc7 pm7 an7 cd7 ct7), sl7⟩)
    (c7 : PySem.W.codeIn K cd7 "mirrored_word" = true) (k7 : PySem.W.keepIn K (.ref f7) = true)
    (a8 : PySem.W.nsIn K mainGlobals "moved_round" = some (some (.ref f8)))
    (l8 : K.lookup f8 = some ⟨oc8, od8, .func (PySem.W.fnOf "moved_round" "moved_round" (defArgs s_moved_round) (defBody s_moved_round) (defScope s_moved_round) .none kV8 dc8 pm8 an8 cd8 ct8), sl8⟩)
    (c8 : PySem.W.codeIn K cd8 "moved_round" = true) (k8 : PySem.W.keepIn K (.ref f8) = true)
    (a9 : PySem.W.nsIn K mainGlobals "is_state" = some (some (.ref f9)))
    (l9 : K.lookup f9 = some ⟨oc9, od9, .func (PySem.W.fnOf "is_state" "is_state" (defArgs s_is_state) (defBody s_is_state) (defScope s_is_state) .none kV9 dc9 pm9 an9 cd9 ct9), sl9⟩)
    (c9 : PySem.W.codeIn K cd9 "is_state" = true) (k9 : PySem.W.keepIn K (.ref f9) = true)
    (a10 : PySem.W.nsIn K mainGlobals "check_state" = some (some (.ref f10)))
    (l10 : K.lookup f10 = some ⟨oc10, od10, .func (PySem.W.fnOf "check_state" "check_state" (defArgs s_check_state) (defBody s_check_state) (defScope s_check_state) .none kV10 dc10 pm10 an10 cd10 ct10), sl10⟩)
    (c10 : PySem.W.codeIn K cd10 "check_state" = true) (k10 : PySem.W.keepIn K (.ref f10) = true)
    (a11 : PySem.W.nsIn K mainGlobals "_behind_first_lowest" = some (some (.ref f11)))
    (l11 : K.lookup f11 = some ⟨oc11, od11, .func (PySem.W.fnOf "_behind_first_lowest" "_behind_first_lowest" (defArgs s__behind_first_lowest) (defBody s__behind_first_lowest) (defScope s__behind_first_lowest) .none kV11 dc11 pm11 an11 cd11 ct11), sl11⟩)
    (c11 : PySem.W.codeIn K cd11 "_behind_first_lowest" = true) (k11 : PySem.W.keepIn K (.ref f11) = true)
    (a12 : PySem.W.nsIn K mainGlobals "_low_home" = some (some (.ref f12)))
    (l12 : K.lookup f12 = some ⟨oc12, od12, .func (PySem.W.fnOf "_low_home" "_low_home" (defArgs s__low_home) (defBody s__low_home) (defScope s__low_home) .none kV12 dc12 pm12 an12 cd12 ct12), sl12⟩)
    (c12 : PySem.W.codeIn K cd12 "_low_home" = true) (k12 : PySem.W.keepIn K (.ref f12) = true)
    (a13 : PySem.W.nsIn K mainGlobals "state_of" = some (some (.ref f13)))
    (l13 : K.lookup f13 = some ⟨oc13, od13, .func (PySem.W.fnOf "state_of" "state_of" (defArgs s_state_of) (defBody s_state_of) (defScope s_state_of) .none kV13 dc13 pm13 an13 cd13 ct13), sl13⟩)
    (c13 : PySem.W.codeIn K cd13 "state_of" = true) (k13 : PySem.W.keepIn K (.ref f13) = true)
    (a14 : PySem.W.nsIn K mainGlobals "place_of" = some (some (.ref f14)))
    (l14 : K.lookup f14 = some ⟨oc14, od14, .func (PySem.W.fnOf "place_of" "place_of" (defArgs s_place_of) (defBody s_place_of) (defScope s_place_of) .none kV14 dc14 pm14 an14 cd14 ct14), sl14⟩)
    (c14 : PySem.W.codeIn K cd14 "place_of" = true) (k14 : PySem.W.keepIn K (.ref f14) = true)
    (a15 : PySem.W.nsIn K mainGlobals "home_of" = some (some (.ref f15)))
    (l15 : K.lookup f15 = some ⟨oc15, od15, .func (PySem.W.fnOf "home_of" "home_of" (defArgs s_home_of) (defBody s_home_of) (defScope s_home_of) .none kV15 dc15 pm15 an15 cd15 ct15), sl15⟩)
    (c15 : PySem.W.codeIn K cd15 "home_of" = true) (k15 : PySem.W.keepIn K (.ref f15) = true)
    (a16 : PySem.W.nsIn K mainGlobals "_check_home" = some (some (.ref f16)))
    (l16 : K.lookup f16 = some ⟨oc16, od16, .func (PySem.W.fnOf "_check_home" "_check_home" (defArgs s__check_home) (defBody s__check_home) (defScope s__check_home) .none kV16 dc16 pm16 an16 cd16 ct16), sl16⟩)
    (c16 : PySem.W.codeIn K cd16 "_check_home" = true) (k16 : PySem.W.keepIn K (.ref f16) = true)
    (a17 : PySem.W.nsIn K mainGlobals "low_state" = some (some (.ref f17)))
    (l17 : K.lookup f17 = some ⟨oc17, od17, .func (PySem.W.fnOf "low_state" "low_state" (defArgs s_low_state) (defBody s_low_state) (defScope s_low_state) .none kV17 dc17 pm17 an17 cd17 ct17), sl17⟩)
    (c17 : PySem.W.codeIn K cd17 "low_state" = true) (k17 : PySem.W.keepIn K (.ref f17) = true)
    (a18 : PySem.W.nsIn K mainGlobals "high_state" = some (some (.ref f18)))
    (l18 : K.lookup f18 = some ⟨oc18, od18, .func (PySem.W.fnOf "high_state" "high_state" (defArgs s_high_state) (defBody s_high_state) (defScope s_high_state) .none kV18 dc18 pm18 an18 cd18 ct18), sl18⟩)
    (c18 : PySem.W.codeIn K cd18 "high_state" = true) (k18 : PySem.W.keepIn K (.ref f18) = true)
    (a19 : PySem.W.nsIn K mainGlobals "is_high" = some (some (.ref f19)))
    (l19 : K.lookup f19 = some ⟨oc19, od19, .func (PySem.W.fnOf "is_high" "is_high" (defArgs s_is_high) (defBody s_is_high) (defScope s_is_high) .none kV19 dc19 pm19 an19 cd19 ct19), sl19⟩)
    (c19 : PySem.W.codeIn K cd19 "is_high" = true) (k19 : PySem.W.keepIn K (.ref f19) = true)
    (a20 : PySem.W.nsIn K mainGlobals "check_pairs" = some (some (.ref f20)))
    (l20 : K.lookup f20 = some ⟨oc20, od20, .func (PySem.W.fnOf "check_pairs" "check_pairs" (defArgs s_check_pairs) (defBody s_check_pairs) (defScope s_check_pairs) .none kV20 dc20 pm20 an20 cd20 ct20), sl20⟩)
    (c20 : PySem.W.codeIn K cd20 "check_pairs" = true) (k20 : PySem.W.keepIn K (.ref f20) = true)
    (a21 : PySem.W.nsIn K mainGlobals "moved" = some (some (.ref f21)))
    (l21 : K.lookup f21 = some ⟨oc21, od21, .func (PySem.W.fnOf "moved" "moved" (defArgs s_moved) (defBody s_moved) (defScope s_moved) .none kV21 dc21 pm21 an21 cd21 ct21), sl21⟩)
    (c21 : PySem.W.codeIn K cd21 "moved" = true) (k21 : PySem.W.keepIn K (.ref f21) = true)
    (a22 : PySem.W.nsIn K mainGlobals "exchanged" = some (some (.ref f22)))
    (l22 : K.lookup f22 = some ⟨oc22, od22, .func (PySem.W.fnOf "exchanged" "exchanged" (defArgs s_exchanged) (defBody s_exchanged) (defScope s_exchanged) .none kV22 dc22 pm22 an22 cd22 ct22), sl22⟩)
    (c22 : PySem.W.codeIn K cd22 "exchanged" = true) (k22 : PySem.W.keepIn K (.ref f22) = true)
    (a23 : PySem.W.nsIn K mainGlobals "how_many_states" = some (some (.ref f23)))
    (l23 : K.lookup f23 = some ⟨oc23, od23, .func (PySem.W.fnOf "how_many_states" "how_many_states" (defArgs s_how_many_states) (defBody s_how_many_states) (defScope s_how_many_states) .none kV23 dc23 pm23 an23 cd23 ct23), sl23⟩)
    (c23 : PySem.W.codeIn K cd23 "how_many_states" = true) (k23 : PySem.W.keepIn K (.ref f23) = true)
    (a24 : PySem.W.nsIn K mainGlobals "all_states" = some (some (.ref f24)))
    (l24 : K.lookup f24 = some ⟨oc24, od24, .func (PySem.W.fnOf "all_states" "all_states" (defArgs s_all_states) (defBody s_all_states) (defScope s_all_states) .none kV24 dc24 pm24 an24 cd24 ct24), sl24⟩)
    (c24 : PySem.W.codeIn K cd24 "all_states" = true) (k24 : PySem.W.keepIn K (.ref f24) = true)
    (a25 : PySem.W.nsIn K mainGlobals "_law_registry" = some (some (.ref f25)))
    (l25 : K.lookup f25 = some ⟨oc25, od25, .func (PySem.W.fnOf "_law_registry" "_law_registry" (defArgs s__law_registry) (defBody s__law_registry) (defScope s__law_registry) .none kV25 dc25 pm25 an25 cd25 ct25), sl25⟩)
    (c25 : PySem.W.codeIn K cd25 "_law_registry" = true) (k25 : PySem.W.keepIn K (.ref f25) = true)
    (a26 : PySem.W.nsIn K mainGlobals "_law_enter" = some (some (.ref f26)))
    (l26 : K.lookup f26 = some ⟨oc26, od26, .func (PySem.W.fnOf "_law_enter" "_law_enter" (defArgs s__law_enter) (defBody s__law_enter) (defScope s__law_enter) .none kV26 dc26 pm26 an26 cd26 ct26), sl26⟩)
    (c26 : PySem.W.codeIn K cd26 "_law_enter" = true) (k26 : PySem.W.keepIn K (.ref f26) = true)
    (a27 : PySem.W.nsIn K mainGlobals "_law_one" = some (some (.ref f27)))
    (l27 : K.lookup f27 = some ⟨oc27, od27, .func (PySem.W.fnOf "_law_one" "_law_one" (defArgs s__law_one) (defBody s__law_one) (defScope s__law_one) .none kV27 dc27 pm27 an27 cd27 ct27), sl27⟩)
    (c27 : PySem.W.codeIn K cd27 "_law_one" = true) (k27 : PySem.W.keepIn K (.ref f27) = true)
    (a28 : PySem.W.nsIn K mainGlobals "_law_all_words" = some (some (.ref f28)))
    (l28 : K.lookup f28 = some ⟨oc28, od28, .func (PySem.W.fnOf "_law_all_words" "_law_all_words" (defArgs s__law_all_words) (defBody s__law_all_words) (defScope s__law_all_words) .none kV28 dc28 pm28 an28 cd28 ct28), sl28⟩)
    (c28 : PySem.W.codeIn K cd28 "_law_all_words" = true) (k28 : PySem.W.keepIn K (.ref f28) = true)
    (a29 : PySem.W.nsIn K mainGlobals "_law_state" = some (some (.ref f29)))
    (l29 : K.lookup f29 = some ⟨oc29, od29, .func (PySem.W.fnOf "_law_state" "_law_state" (defArgs s__law_state) (defBody s__law_state) (defScope s__law_state) .none kV29 dc29 pm29 an29 cd29 ct29), sl29⟩)
    (c29 : PySem.W.codeIn K cd29 "_law_state" = true) (k29 : PySem.W.keepIn K (.ref f29) = true)
    (a30 : PySem.W.nsIn K mainGlobals "_law_mirrored" = some (some (.ref f30)))
    (l30 : K.lookup f30 = some ⟨oc30, od30, .func (PySem.W.fnOf "_law_mirrored" "_law_mirrored" (defArgs s__law_mirrored) (defBody s__law_mirrored) (defScope s__law_mirrored) .none kV30 dc30 pm30 an30 cd30 ct30), sl30⟩)
    (c30 : PySem.W.codeIn K cd30 "_law_mirrored" = true) (k30 : PySem.W.keepIn K (.ref f30) = true)
    (a31 : PySem.W.nsIn K mainGlobals "law" = some (some (.ref f31)))
    (l31 : K.lookup f31 = some ⟨oc31, od31, .func (PySem.W.fnOf "law" "law" (defArgs s_law) (defBody s_law) (defScope s_law) .none kV31 dc31 pm31 an31 cd31 ct31), sl31⟩)
    (c31 : PySem.W.codeIn K cd31 "law" = true) (k31 : PySem.W.keepIn K (.ref f31) = true)
    (z_abs : PySem.W.nsIn K mainGlobals "abs" = some none)
    (z_bool : PySem.W.nsIn K mainGlobals "bool" = some none)
    (z_enumerate : PySem.W.nsIn K mainGlobals "enumerate" = some none)
    (z_int : PySem.W.nsIn K mainGlobals "int" = some none)
    (z_isinstance : PySem.W.nsIn K mainGlobals "isinstance" = some none)
    (z_len : PySem.W.nsIn K mainGlobals "len" = some none)
    (z_list : PySem.W.nsIn K mainGlobals "list" = some none)
    (z_max : PySem.W.nsIn K mainGlobals "max" = some none)
    (z_min : PySem.W.nsIn K mainGlobals "min" = some none)
    (z_range : PySem.W.nsIn K mainGlobals "range" = some none)
    (z_repr : PySem.W.nsIn K mainGlobals "repr" = some none)
    (z_set : PySem.W.nsIn K mainGlobals "set" = some none)
    (z_sorted : PySem.W.nsIn K mainGlobals "sorted" = some none)
    (z_str : PySem.W.nsIn K mainGlobals "str" = some none)
    (z_tuple : PySem.W.nsIn K mainGlobals "tuple" = some none)
    {u_MOST_PAIRS : Value} (w_MOST_PAIRS : PySem.W.nsIn K mainGlobals "MOST_PAIRS" = some (some u_MOST_PAIRS)) (r_MOST_PAIRS : RelV (.int 200) u_MOST_PAIRS)
    {u_MOST_PAIRS_OF_STATES : Value} (w_MOST_PAIRS_OF_STATES : PySem.W.nsIn K mainGlobals "MOST_PAIRS_OF_STATES" = some (some u_MOST_PAIRS_OF_STATES)) (r_MOST_PAIRS_OF_STATES : RelV (.int 5) u_MOST_PAIRS_OF_STATES)
    (b_comb : PySem.W.nsIn K mainGlobals "comb" = some (some (.builtin "math.comb")))
    : ∃ fd : FuncData, (∀ (s : Shared) (v : Value), BindsTo s fd ⟨[v], []⟩ [("script", v)]) ∧ ∀ base : Heap, K.In base → base.Ns mainGlobals mg → FnG l.prog w K mg base CX0 12 fa fd ["script"] (spLaw K) := by
  have e := hfa.symm.trans (PySem.W.mg_of X G a31)
  cases e
  have T : Txt K mg := ⟨PySem.W.mg_none_of X G z_abs, PySem.W.mg_none_of X G z_bool, PySem.W.mg_none_of X G z_enumerate, PySem.W.mg_none_of X G z_int, PySem.W.mg_none_of X G z_isinstance, PySem.W.mg_none_of X G z_len, PySem.W.mg_none_of X G z_list, PySem.W.mg_none_of X G z_max, PySem.W.mg_none_of X G z_min, PySem.W.mg_none_of X G z_range, PySem.W.mg_none_of X G z_repr, PySem.W.mg_none_of X G z_set, PySem.W.mg_none_of X G z_sorted, PySem.W.mg_none_of X G z_str, PySem.W.mg_none_of X G z_tuple, ⟨_, PySem.W.mg_of X G w_MOST_PAIRS, r_MOST_PAIRS⟩, ⟨_, PySem.W.mg_of X G w_MOST_PAIRS_OF_STATES, r_MOST_PAIRS_OF_STATES⟩, PySem.W.mg_of X G b_comb⟩
  have F0 := fun_mk (st := s_is_integer) l0 c0 k0
  have b0 := F0.binds (ps := ["value"]) fun _ _ _ _ _ _ us hl => match us, hl with | [_], _ => rfl
  have F1 := fun_mk (st := s_is_within) l1 c1 k1
  have b1 := F1.binds (ps := ["value", "least", "most"]) fun _ _ _ _ _ _ us hl => match us, hl with | [_, _, _], _ => rfl
  have F2 := fun_mk (st := s_is_signs) l2 c2 k2
  have b2 := F2.binds (ps := ["value"]) fun _ _ _ _ _ _ us hl => match us, hl with | [_], _ => rfl
  have F3 := fun_mk (st := s_check_number) l3 c3 k3
  have b3 := F3.binds (ps := ["value", "least", "most", "part"]) fun _ _ _ _ _ _ us hl => match us, hl with | [_, _, _, _], _ => rfl
  have F4 := fun_mk (st := s_is_word) l4 c4 k4
  have b4 := F4.binds (ps := ["value"]) fun _ _ _ _ _ _ us hl => match us, hl with | [_], _ => rfl
  have F5 := fun_mk (st := s_check_word) l5 c5 k5
  have b5 := F5.binds (ps := ["value", "part"]) fun _ _ _ _ _ _ us hl => match us, hl with | [_, _], _ => rfl
  have F6 := fun_mk (st := s_exchanged_signs) l6 c6 k6
  have b6 := F6.binds (ps := ["signs"]) fun _ _ _ _ _ _ us hl => match us, hl with | [_], _ => rfl
  have F7 := fun_mk (st := s_mirrored_word) l7 c7 k7
  have b7 := F7.binds (ps := ["word"]) fun _ _ _ _ _ _ us hl => match us, hl with | [_], _ => rfl
  have F8 := fun_mk (st := s_moved_round) l8 c8 k8
  have b8 := F8.binds (ps := ["items", "many"]) fun _ _ _ _ _ _ us hl => match us, hl with | [_, _], _ => rfl
  have F9 := fun_mk (st := s_is_state) l9 c9 k9
  have b9 := F9.binds (ps := ["value"]) fun _ _ _ _ _ _ us hl => match us, hl with | [_], _ => rfl
  have F10 := fun_mk (st := s_check_state) l10 c10 k10
  have b10 := F10.binds (ps := ["value", "part"]) fun _ _ _ _ _ _ us hl => match us, hl with | [_, _], _ => rfl
  have F11 := fun_mk (st := s__behind_first_lowest) l11 c11 k11
  have b11 := F11.binds (ps := ["row"]) fun _ _ _ _ _ _ us hl => match us, hl with | [_], _ => rfl
  have F12 := fun_mk (st := s__low_home) l12 c12 k12
  have b12 := F12.binds (ps := ["row"]) fun _ _ _ _ _ _ us hl => match us, hl with | [_], _ => rfl
  have F13 := fun_mk (st := s_state_of) l13 c13 k13
  have b13 := F13.binds (ps := ["place"]) fun _ _ _ _ _ _ us hl => match us, hl with | [_], _ => rfl
  have F14 := fun_mk (st := s_place_of) l14 c14 k14
  have b14 := F14.binds (ps := ["state"]) fun _ _ _ _ _ _ us hl => match us, hl with | [_], _ => rfl
  have F15 := fun_mk (st := s_home_of) l15 c15 k15
  have b15 := F15.binds (ps := ["state"]) fun _ _ _ _ _ _ us hl => match us, hl with | [_], _ => rfl
  have F16 := fun_mk (st := s__check_home) l16 c16 k16
  have b16 := F16.binds (ps := ["word", "shift"]) fun _ _ _ _ _ _ us hl => match us, hl with | [_, _], _ => rfl
  have F17 := fun_mk (st := s_low_state) l17 c17 k17
  have b17 := F17.binds (ps := ["word", "shift"]) fun _ _ _ _ _ _ us hl => match us, hl with | [_, _], _ => rfl
  have F18 := fun_mk (st := s_high_state) l18 c18 k18
  have b18 := F18.binds (ps := ["word", "shift"]) fun _ _ _ _ _ _ us hl => match us, hl with | [_, _], _ => rfl
  have F19 := fun_mk (st := s_is_high) l19 c19 k19
  have b19 := F19.binds (ps := ["state"]) fun _ _ _ _ _ _ us hl => match us, hl with | [_], _ => rfl
  have F20 := fun_mk (st := s_check_pairs) l20 c20 k20
  have b20 := F20.binds (ps := ["pairs"]) fun _ _ _ _ _ _ us hl => match us, hl with | [_], _ => rfl
  have F21 := fun_mk (st := s_moved) l21 c21 k21
  have b21 := F21.binds (ps := ["state", "many"]) fun _ _ _ _ _ _ us hl => match us, hl with | [_, _], _ => rfl
  have F22 := fun_mk (st := s_exchanged) l22 c22 k22
  have b22 := F22.binds (ps := ["state"]) fun _ _ _ _ _ _ us hl => match us, hl with | [_], _ => rfl
  have F23 := fun_mk (st := s_how_many_states) l23 c23 k23
  have b23 := F23.binds (ps := ["pairs"]) fun _ _ _ _ _ _ us hl => match us, hl with | [_], _ => rfl
  have F24 := fun_mk (st := s_all_states) l24 c24 k24
  have b24 := F24.binds (ps := ["pairs"]) fun _ _ _ _ _ _ us hl => match us, hl with | [_], _ => rfl
  have F25 := fun_mk (st := s__law_registry) l25 c25 k25
  have b25 := F25.binds (ps := ["script"]) fun _ _ _ _ _ _ us hl => match us, hl with | [_], _ => rfl
  have F26 := fun_mk (st := s__law_enter) l26 c26 k26
  have b26 := F26.binds (ps := ["registry", "many"]) fun _ _ _ _ _ _ us hl => match us, hl with | [_, _], _ => rfl
  have F27 := fun_mk (st := s__law_one) l27 c27 k27
  have b27 := F27.binds (ps := ["registry", "some"]) fun _ _ _ _ _ _ us hl => match us, hl with | [_, _], _ => rfl
  have F28 := fun_mk (st := s__law_all_words) l28 c28 k28
  have b28 := F28.binds (ps := ["pairs"]) fun _ _ _ _ _ _ us hl => match us, hl with | [_], _ => rfl
  have F29 := fun_mk (st := s__law_state) l29 c29 k29
  have b29 := F29.binds (ps := ["word", "shift", "burns"]) fun _ _ _ _ _ _ us hl => match us, hl with | [_, _, _], _ => rfl
  have F30 := fun_mk (st := s__law_mirrored) l30 c30 k30
  have b30 := F30.binds (ps := ["word"]) fun _ _ _ _ _ _ us hl => match us, hl with | [_], _ => rfl
  refine ⟨PySem.W.fnOf "law" "law" (defArgs s_law) (defBody s_law) (defScope s_law) .none kV31 dc31 pm31 an31 cd31 ct31, fun s v => .of_eq rfl, fun base _ _ => ?_⟩
  have o0 := ok_is_integer (P := l.prog) (w := w) (mg := mg) (base := base) F0 T 
  have c_is_integer : Cl l.prog w K mg base 1 "is_integer" (spIsInt K) := Cl.mk' F0 (PySem.W.mg_of X G a0) b0 o0
  have o1 := ok_is_within (P := l.prog) (w := w) (mg := mg) (base := base) F1 T c_is_integer
  have c_is_within : Cl l.prog w K mg base 2 "is_within" (spWithin K) := Cl.mk' F1 (PySem.W.mg_of X G a1) b1 o1
  have o2 := ok_is_signs (P := l.prog) (w := w) (mg := mg) (base := base) F2 T 
  have c_is_signs : Cl l.prog w K mg base 1 "is_signs" (spSigns K) := Cl.mk' F2 (PySem.W.mg_of X G a2) b2 o2
  have o3 := ok_check_number (P := l.prog) (w := w) (mg := mg) (base := base) F3 T c_is_within
  have c_check_number : Cl l.prog w K mg base 3 "check_number" (spCheck K) := Cl.mk' F3 (PySem.W.mg_of X G a3) b3 o3
  have o4 := ok_is_word (P := l.prog) (w := w) (mg := mg) (base := base) F4 T c_is_signs
  have c_is_word : Cl l.prog w K mg base 2 "is_word" (spWord K) := Cl.mk' F4 (PySem.W.mg_of X G a4) b4 o4
  have o5 := ok_check_word (P := l.prog) (w := w) (mg := mg) (base := base) F5 T c_is_word
  have c_check_word : Cl l.prog w K mg base 3 "check_word" (spCkWord) := Cl.mk' F5 (PySem.W.mg_of X G a5) b5 o5
  have o6 := ok_exchanged_signs (P := l.prog) (w := w) (mg := mg) (base := base) F6 T 
  have c_exchanged_signs : Cl l.prog w K mg base 1 "exchanged_signs" (spExch) := Cl.mk' F6 (PySem.W.mg_of X G a6) b6 o6
  have o7 := ok_mirrored_word (P := l.prog) (w := w) (mg := mg) (base := base) F7 T c_check_word c_exchanged_signs
  have c_mirrored_word : Cl l.prog w K mg base 4 "mirrored_word" (spMirr) := Cl.mk' F7 (PySem.W.mg_of X G a7) b7 o7
  have o8 := ok_moved_round (P := l.prog) (w := w) (mg := mg) (base := base) F8 T 
  have c_moved_round : Cl l.prog w K mg base 1 "moved_round" (spMv K) := Cl.mk' F8 (PySem.W.mg_of X G a8) b8 o8
  have o9 := ok_is_state (P := l.prog) (w := w) (mg := mg) (base := base) F9 T c_is_signs
  have c_is_state : Cl l.prog w K mg base 2 "is_state" (spState K) := Cl.mk' F9 (PySem.W.mg_of X G a9) b9 o9
  have o10 := ok_check_state (P := l.prog) (w := w) (mg := mg) (base := base) F10 T c_is_state
  have c_check_state : Cl l.prog w K mg base 3 "check_state" (spCkSt0) := Cl.mk' F10 (PySem.W.mg_of X G a10) b10 o10
  have o11 := ok__behind_first_lowest (P := l.prog) (w := w) (mg := mg) (base := base) F11 T 
  have c__behind_first_lowest : Cl l.prog w K mg base 1 "_behind_first_lowest" (spBfl) := Cl.mk' F11 (PySem.W.mg_of X G a11) b11 o11
  have o12 := ok__low_home (P := l.prog) (w := w) (mg := mg) (base := base) F12 T c__behind_first_lowest (c_moved_round.imp fun _ _ _ _ h => Or.inr h)
  have c__low_home : Cl l.prog w K mg base 2 "_low_home" (spLow K) := Cl.mk' F12 (PySem.W.mg_of X G a12) b12 o12
  have o13 := ok_state_of (P := l.prog) (w := w) (mg := mg) (base := base) F13 T (c_moved_round.imp fun _ _ _ _ h => Or.inr h)
  have c_state_of : Cl l.prog w K mg base 2 "state_of" (spStateOf K) := Cl.mk' F13 (PySem.W.mg_of X G a13) b13 o13
  have o14 := ok_place_of (P := l.prog) (w := w) (mg := mg) (base := base) F14 T c_check_state c__low_home c_exchanged_signs c_mirrored_word
  have c_place_of : Cl l.prog w K mg base 5 "place_of" (spPlace) := Cl.mk' F14 (PySem.W.mg_of X G a14) b14 o14
  have o15 := ok_home_of (P := l.prog) (w := w) (mg := mg) (base := base) F15 T c_place_of
  have c_home_of : Cl l.prog w K mg base 6 "home_of" (spHome) := Cl.mk' F15 (PySem.W.mg_of X G a15) b15 o15
  have o16 := ok__check_home (P := l.prog) (w := w) (mg := mg) (base := base) F16 T c_check_word c_check_number
  have c__check_home : Cl l.prog w K mg base 4 "_check_home" (spCkHome) := Cl.mk' F16 (PySem.W.mg_of X G a16) b16 o16
  have o17 := ok_low_state (P := l.prog) (w := w) (mg := mg) (base := base) F17 T c__check_home c_state_of
  have c_low_state : Cl l.prog w K mg base 5 "low_state" (spSth false) := Cl.mk' F17 (PySem.W.mg_of X G a17) b17 o17
  have o18 := ok_high_state (P := l.prog) (w := w) (mg := mg) (base := base) F18 T c__check_home c_state_of
  have c_high_state : Cl l.prog w K mg base 5 "high_state" (spSth true) := Cl.mk' F18 (PySem.W.mg_of X G a18) b18 o18
  have o19 := ok_is_high (P := l.prog) (w := w) (mg := mg) (base := base) F19 T c_check_state
  have c_is_high : Cl l.prog w K mg base 4 "is_high" (spHigh) := Cl.mk' F19 (PySem.W.mg_of X G a19) b19 o19
  have o20 := ok_check_pairs (P := l.prog) (w := w) (mg := mg) (base := base) F20 T c_check_number
  have c_check_pairs : Cl l.prog w K mg base 4 "check_pairs" (spPairs) := Cl.mk' F20 (PySem.W.mg_of X G a20) b20 o20
  have o21 := ok_moved (P := l.prog) (w := w) (mg := mg) (base := base) F21 T c_check_state c_check_number (c_moved_round.imp fun _ _ _ _ h => Or.inr h)
  have c_moved : Cl l.prog w K mg base 4 "moved" (spMovSt) := Cl.mk' F21 (PySem.W.mg_of X G a21) b21 o21
  have o22 := ok_exchanged (P := l.prog) (w := w) (mg := mg) (base := base) F22 T c_check_state c_exchanged_signs
  have c_exchanged : Cl l.prog w K mg base 4 "exchanged" (spExSt) := Cl.mk' F22 (PySem.W.mg_of X G a22) b22 o22
  have o23 := ok_how_many_states (P := l.prog) (w := w) (mg := mg) (base := base) F23 T c_check_pairs
  have c_how_many_states : Cl l.prog w K mg base 5 "how_many_states" (spMany) := Cl.mk' F23 (PySem.W.mg_of X G a23) b23 o23
  have o24 := ok_all_states (P := l.prog) (w := w) (mg := mg) (base := base) F24 T c_check_number c_is_state
  have c_all_states : Cl l.prog w K mg base 4 "all_states" (spAllSt) := Cl.mk' F24 (PySem.W.mg_of X G a24) b24 o24
  have o25 := ok__law_registry (P := l.prog) (w := w) (mg := mg) (base := base) F25 T 
  have c__law_registry : Cl l.prog w K mg base 1 "_law_registry" (spGauge K) := Cl.mk' F25 (PySem.W.mg_of X G a25) b25 o25
  have o26 := ok__law_enter (P := l.prog) (w := w) (mg := mg) (base := base) F26 T 
  have c__law_enter : Cl l.prog w K mg base 1 "_law_enter" (spTick) := Cl.mk' F26 (PySem.W.mg_of X G a26) b26 o26
  have o27 := ok__law_one (P := l.prog) (w := w) (mg := mg) (base := base) F27 T c__law_enter
  have c__law_one : Cl l.prog w K mg base 2 "_law_one" (spDial K) := Cl.mk' F27 (PySem.W.mg_of X G a27) b27 o27
  have o28 := ok__law_all_words (P := l.prog) (w := w) (mg := mg) (base := base) F28 T 
  have c__law_all_words : Cl l.prog w K mg base 1 "_law_all_words" (spAllW) := Cl.mk' F28 (PySem.W.mg_of X G a28) b28 o28
  have o29 := ok__law_state (P := l.prog) (w := w) (mg := mg) (base := base) F29 T 
  have c__law_state : Cl l.prog w K mg base 1 "_law_state" (spLst) := Cl.mk' F29 (PySem.W.mg_of X G a29) b29 o29
  have o30 := ok__law_mirrored (P := l.prog) (w := w) (mg := mg) (base := base) F30 T 
  have c__law_mirrored : Cl l.prog w K mg base 1 "_law_mirrored" (spLmir) := Cl.mk' F30 (PySem.W.mg_of X G a30) b30 o30
  exact ok_law (fun_mk (st := s_law) l31 c31 k31) T c__law_registry c__law_enter c__law_one c__law_all_words c__law_state c__law_mirrored c_low_state c_high_state c_home_of c_is_high c_how_many_states c_all_states c_moved c_exchanged
end EH

open PySem PySem.W PyProof.Rows in
set_option maxHeartbeats 0 in
theorem PySem.Challenge.cw_everyhalf_k22_whole_each_state_at_one_ho_holds : PySem.Challenge.rw_everyhalf_k22_whole_each_state_at_one_ho.Holds := by
  w_on; o_law; k_head; (case hw => w_witness2)
  k_fill
  refine EH.walk_ofG (l := PySem.Challenge.rw_everyhalf_k22_whole_each_state_at_one_ho) (n := 63) (k := 12) (x := "script") (sp := fun K => EH.spLaw K) rfl (by decide) rfl ⟨rfl, by decide, by decide⟩ (fun w h Y => PySem.W.kIn_of Y) ?F EH.law_end
  case F =>
    intro w mg fa h KX G hmg
    refine' EH.all_mk KX G hmg ?a0 ?l0 ?c0 ?k0 ?a1 ?l1 ?c1 ?k1 ?a2 ?l2 ?c2 ?k2 ?a3 ?l3 ?c3 ?k3 ?a4 ?l4 ?c4 ?k4 ?a5 ?l5 ?c5 ?k5 ?a6 ?l6 ?c6 ?k6 ?a7 ?l7 ?c7 ?k7 ?a8 ?l8 ?c8 ?k8 ?a9 ?l9 ?c9 ?k9 ?a10 ?l10 ?c10 ?k10 ?a11 ?l11 ?c11 ?k11 ?a12 ?l12 ?c12 ?k12 ?a13 ?l13 ?c13 ?k13 ?a14 ?l14 ?c14 ?k14 ?a15 ?l15 ?c15 ?k15 ?a16 ?l16 ?c16 ?k16 ?a17 ?l17 ?c17 ?k17 ?a18 ?l18 ?c18 ?k18 ?a19 ?l19 ?c19 ?k19 ?a20 ?l20 ?c20 ?k20 ?a21 ?l21 ?c21 ?k21 ?a22 ?l22 ?c22 ?k22 ?a23 ?l23 ?c23 ?k23 ?a24 ?l24 ?c24 ?k24 ?a25 ?l25 ?c25 ?k25 ?a26 ?l26 ?c26 ?k26 ?a27 ?l27 ?c27 ?k27 ?a28 ?l28 ?c28 ?k28 ?a29 ?l29 ?c29 ?k29 ?a30 ?l30 ?c30 ?k30 ?a31 ?l31 ?c31 ?k31 ?z_abs ?z_bool ?z_enumerate ?z_int ?z_isinstance ?z_len ?z_list ?z_max ?z_min ?z_range ?z_repr ?z_set ?z_sorted ?z_str ?z_tuple ?w_MOST_PAIRS ?r_MOST_PAIRS ?w_MOST_PAIRS_OF_STATES ?r_MOST_PAIRS_OF_STATES ?b_comb
    (case a0 => k_is)
    (case l0 => k_is)
    (case c0 => k_is)
    (case k0 => k_is)
    (case a1 => k_is)
    (case l1 => k_is)
    (case c1 => k_is)
    (case k1 => k_is)
    (case a2 => k_is)
    (case l2 => k_is)
    (case c2 => k_is)
    (case k2 => k_is)
    (case a3 => k_is)
    (case l3 => k_is)
    (case c3 => k_is)
    (case k3 => k_is)
    (case a4 => k_is)
    (case l4 => k_is)
    (case c4 => k_is)
    (case k4 => k_is)
    (case a5 => k_is)
    (case l5 => k_is)
    (case c5 => k_is)
    (case k5 => k_is)
    (case a6 => k_is)
    (case l6 => k_is)
    (case c6 => k_is)
    (case k6 => k_is)
    (case a7 => k_is)
    (case l7 => k_is)
    (case c7 => k_is)
    (case k7 => k_is)
    (case a8 => k_is)
    (case l8 => k_is)
    (case c8 => k_is)
    (case k8 => k_is)
    (case a9 => k_is)
    (case l9 => k_is)
    (case c9 => k_is)
    (case k9 => k_is)
    (case a10 => k_is)
    (case l10 => k_is)
    (case c10 => k_is)
    (case k10 => k_is)
    (case a11 => k_is)
    (case l11 => k_is)
    (case c11 => k_is)
    (case k11 => k_is)
    (case a12 => k_is)
    (case l12 => k_is)
    (case c12 => k_is)
    (case k12 => k_is)
    (case a13 => k_is)
    (case l13 => k_is)
    (case c13 => k_is)
    (case k13 => k_is)
    (case a14 => k_is)
    (case l14 => k_is)
    (case c14 => k_is)
    (case k14 => k_is)
    (case a15 => k_is)
    (case l15 => k_is)
    (case c15 => k_is)
    (case k15 => k_is)
    (case a16 => k_is)
    (case l16 => k_is)
    (case c16 => k_is)
    (case k16 => k_is)
    (case a17 => k_is)
    (case l17 => k_is)
    (case c17 => k_is)
    (case k17 => k_is)
    (case a18 => k_is)
    (case l18 => k_is)
    (case c18 => k_is)
    (case k18 => k_is)
    (case a19 => k_is)
    (case l19 => k_is)
    (case c19 => k_is)
    (case k19 => k_is)
    (case a20 => k_is)
    (case l20 => k_is)
    (case c20 => k_is)
    (case k20 => k_is)
    (case a21 => k_is)
    (case l21 => k_is)
    (case c21 => k_is)
    (case k21 => k_is)
    (case a22 => k_is)
    (case l22 => k_is)
    (case c22 => k_is)
    (case k22 => k_is)
    (case a23 => k_is)
    (case l23 => k_is)
    (case c23 => k_is)
    (case k23 => k_is)
    (case a24 => k_is)
    (case l24 => k_is)
    (case c24 => k_is)
    (case k24 => k_is)
    (case a25 => k_is)
    (case l25 => k_is)
    (case c25 => k_is)
    (case k25 => k_is)
    (case a26 => k_is)
    (case l26 => k_is)
    (case c26 => k_is)
    (case k26 => k_is)
    (case a27 => k_is)
    (case l27 => k_is)
    (case c27 => k_is)
    (case k27 => k_is)
    (case a28 => k_is)
    (case l28 => k_is)
    (case c28 => k_is)
    (case k28 => k_is)
    (case a29 => k_is)
    (case l29 => k_is)
    (case c29 => k_is)
    (case k29 => k_is)
    (case a30 => k_is)
    (case l30 => k_is)
    (case c30 => k_is)
    (case k30 => k_is)
    (case a31 => k_is)
    (case l31 => k_is)
    (case c31 => k_is)
    (case k31 => k_is)
    (case z_abs => k_is)
    (case z_bool => k_is)
    (case z_enumerate => k_is)
    (case z_int => k_is)
    (case z_isinstance => k_is)
    (case z_len => k_is)
    (case z_list => k_is)
    (case z_max => k_is)
    (case z_min => k_is)
    (case z_range => k_is)
    (case z_repr => k_is)
    (case z_set => k_is)
    (case z_sorted => k_is)
    (case z_str => k_is)
    (case z_tuple => k_is)
    (case w_MOST_PAIRS => k_is)
    (case r_MOST_PAIRS => exact ⟨_, rfl⟩)
    (case w_MOST_PAIRS_OF_STATES => k_is)
    (case r_MOST_PAIRS_OF_STATES => exact ⟨_, rfl⟩)
    (case b_comb => k_is)
#print axioms PySem.Challenge.cw_everyhalf_k22_whole_each_state_at_one_ho_holds
