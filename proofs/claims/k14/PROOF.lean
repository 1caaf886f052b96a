import PyProof.Rows.All
import Wide.All
import OpenK.AllK
import Wide.FinOn
import HandS.ForMost
import HandS.More
import HandS.IsInst
import HandS.Wide
import HandS.Flow
import HandS.Steps
import HandS.Gcd
import KE.KMathGC
import PyProof.ReprRoads
import PyProof.ReprBulk
import HandS.Codes
import PyProof.Rows.StrRev
import PyProof.Rows.RegReprOcc
import PyProof.ListStr
import PyProof.TupleOfStr
import PyProof.Rows.EnumRows
import KE.DataMinMax
import PySem.Challenge.RW_everyhalf_k14_names_by_own_turning
set_option Elab.async false
set_option linter.all false
set_option maxRecDepth 100000
set_option maxHeartbeats 2000000
/-! EH1: our own words beside the hand layer: repr of data, a def entered with no guard on the stack, calls with keywords alone. -/
namespace EH
open PySem PySem.Spec PyProof.Rows L2

section
variable {X : Cx}
/-- repr(x), x any data without dicts -/
theorem cr_repr (gd : X.A.guards = some []) (hu : X.A.units + 64 < cLine) : CallR X (.builtin "repr") (fun xs H Q => ∃ x d, xs = [x] ∧ Dp X.K H x d ∧ d.showable = true ∧ d.hasDict = false ∧ d.depth ≤ 60 ∧ d.shown.length ≤ sizeLine ∧ Q (.str d.shown) H) := by
  intro pins s σ H xs us Q I r h
  obtain ⟨x, d, rfl, hd, hs, hn, hdp, hz, q⟩ := h
  obtain ⟨u, rfl, rx⟩ := vals1 r
  have viaRef : ∀ a as, Reads s.heap (.ref a) d as → wpAny (model X.prog X.w) X.A (call (.builtin "repr") [.ref a]) (EP X pins σ Q) X.xe s := fun a as rd =>
    repr_of_reads' rd hs (PyData.noDict_hsm hn) gd (by omega) (fun _ _ e => e)
      (fun h' u' tk hk => ⟨.str d.shown, H, I.un (h' := h') (t' := tk) (Un.kept hk) (I.hok.kept hk), ⟨_, rfl⟩, q⟩) hz
  obtain ⟨as, rd⟩ := Dp.reads I d x u hd rx
  cases hd with
  | non =>
    cases rx
    exact PySem.P.repr_of_none ⟨.str _, H, I.tok _, ⟨_, rfl⟩, q⟩
  | bl b =>
    cases rx
    exact PySem.P.repr_of_bool ⟨.str _, H, I.tok _, ⟨_, rfl⟩, by cases b <;> exact q⟩
  | int i =>
    obtain ⟨t, rfl⟩ := rx
    exact PySem.P.repr_of_int (by simpa [PyData.showable] using hs) ⟨.str _, H, I.tok _, ⟨_, rfl⟩, q⟩
  | str z =>
    obtain ⟨t, rfl⟩ := rx
    exact PySem.P.repr_of_str ⟨.str _, H, I.tok _, ⟨_, rfl⟩, q⟩ hz
  | lst h1 h2 =>
    cases rx
    exact viaRef _ as rd
  | tup h1 h2 =>
    cases rx
    exact viaRef _ as rd
end

/-! ### a def that is entered with no guard on the stack -/
structure FnG (P : Program) (w : World) (K : PySem.W.Frag) (mg : Str → Option Value) (base : Heap) (cx : CXT) (k : Nat) (f : Addr) (fd : FuncData) (ps : List Str) (sp : Sp) : Prop where
  len : ∀ vs H Q E, sp vs H Q E → vs.length = ps.length
  run : ∀ (A : Around) (out : List Env) (s : Shared) (H : Hp) (args : Args) (us : List Value) (vs : List V) (Q : VK) (E : XK),
    A.guards = some [] → Room k A → Env0 P w K mg base A out s H → BindsTo s fd args (ps.zip us) → Vals vs us → sp vs H Q E →
    codeAny (model P w) A (.call (.ref f) args) (CR cx out P w H s Q E) s

theorem deeper_guards {A : Around} {e : Env} (h : A.guards = some []) : (A.deeper e).guards = some [] := h

section
variable {P : Program} {w : World} {K : PySem.W.Frag} {mg : Str → Option Value} {base : Heap}
theorem okG {x qual : Str} {st : Stmt} {f : Addr} {fd : FuncData} {N ps : List Str} {k : Nat} {sp : Sp}
    (F : Fun K x qual st f fd) (S : FnScope N ps (defScope st)) (len : ∀ vs H Q E, sp vs H Q E → vs.length = ps.length)
    (hb : ∀ (cdv : Value) (A : Around) (out : List Env) (s : Shared) (H : Hp) (vs : List V) (Q : VK) (E : XK),
      (A.deeper (envOfC qual (defScope st) s.heap.objs.size f cdv)).guards = some [] →
      Room k (A.deeper (envOfC qual (defScope st) s.heap.objs.size f cdv)) → sp vs H Q E →
      ∃ t, PSs (cxOf CX0 P w K mg base N qual (defScope st) f cdv A out s H E).nox (defBody st) t ∧
        t { nx := fun _ H' => Q .non H', rt := Q } (start N vs) H) :
    FnG P w K mg base CX0 (k + 1) f fd ps sp := by
  obtain ⟨oc, od, kV, doc, pm, an, cdv, ct, osl, rfl, lk, hcd⟩ := F.ex
  refine ⟨len, fun A out s H args us vs Q E gd hr e0 bnd rv hsp => ?_⟩
  have lenV := len _ _ _ _ hsp
  have KX : K.In s.heap := e0.mod.kin.keeps fun b o e => (e0.bs b o e).1
  have noLim : s.heap.NoLimit := e0.mod.nolimit.keeps fun b o e => (e0.bs b o e).1
  have kinds : ∀ y ∈ ps.zip us, (defScope st).names.lookup y.1 = some .local ∨
      ((defScope st).names.lookup y.1 = some .cell ∧ ((cellsFrom (s.heap.objs.size + 1) (defScope st).names []).lookup y.1).isSome = true) := by
    rintro ⟨n, v⟩ hy
    refine (S.par n (List.of_mem_zip hy).1).imp id fun q => ⟨q, ?_⟩
    exact PySem.W.cellsFrom_some _ _ _ (.inl q)
  refine codeAny_call_function hr.depth (KX _ _ lk) rfl S.co S.gen rfl (PySem.W.codeRec_of KX hcd) (bnd _ _ _ _ ?_)
  refine wpAny_newFunctionEnv_cells S.kind kinds fun en he s1 ic => ?_
  subst he
  refine ⟨noLim.keeps ic.toInCall.keep, codeAny_func ?_⟩
  obtain ⟨t, ht', hq⟩ := hb cdv A out s H vs Q E (deeper_guards gd) (hr.deeper _) hsp
  have ht := ht'.nox
  have I0 : Inv (cxOf CX0 P w K mg base N qual (defScope st) f cdv A out s H E) [] (start N vs) H s1 := inv_start S hr.hd e0 lenV rv ic
  refine wpAny_mono (ht.run [] s1 (start N vs) H _ I0 hq) (fun fl s' hs => ?_) fun _ _ z => z
  cases fl with
  | ret u =>
    obtain ⟨v, σ', H', J, ru, q⟩ := hs
    exact ⟨v, H', J.os, J.bare, J.base, J.hok, ru, q⟩
  | next =>
    obtain ⟨σ', H', J, q⟩ := hs
    exact ⟨.non, H', J.os, J.bare, J.base, J.hok, rfl, q⟩
  | brk =>
    obtain ⟨_, _, _, q⟩ := hs
    exact q.elim
  | cont =>
    obtain ⟨_, _, _, q⟩ := hs
    exact q.elim
end

/-- the law's call, no guard on the stack -/
theorem law_callG {P : Program} {w : World} {K : PySem.W.Frag} {mg mb : Str → Option Value} {k : Nat} {fa a : Addr} {fd : FuncData} {x : Str} {sp : Sp} {s1 : Shared} {us : List Value} {ns : List Int}
    (KX : K.In s1.heap) (nsG : s1.heap.Ns mainGlobals mg) (nsB : s1.heap.Ns builtinsNs mb) (boot : ∀ x : Str, x ≠ "__name__" → mb x = bootBuiltins x)
    (noLim : s1.heap.NoLimit) (gens0 : s1.gens = #[]) (ha : s1.heap.get? a = some { cls := .type "list", data := .seq us.toArray }) (hi : IntsAre us ns) (hl : ns.length ≤ sizeLine) (hr : Room k callerA)
    (F : ∀ base : Heap, K.In base → base.Ns mainGlobals mg → FnG P w K mg base CX0 k fa fd [x] sp)
    (bnd : ∀ (s : Shared) (u : Value), BindsTo s fd ⟨[u], []⟩ [(x, u)])
    (hsp : ∀ H : Hp, SqL K H a (ns.map V.int) → sp [.ref a] H (fun v _ => v = .bl true) fun _ _ _ => False) :
    codeAny (model P w) callerA (.call (.ref fa) ⟨[.ref a], []⟩)
      (fun r s' => r = .ok (.ret (.bool true)) ∧ OldK s1.heap s'.heap ∧ s'.os = s1.os ∧ AllBare s'.gens) s1 := by
  have rv := vals_ints hi
  have lenU := hi.length
  have body : ∀ H : Hp, Only H → SqL K H a (ns.map V.int) → HOk P w H s1.heap → (∀ b, H b ≠ none → b = a) → (H a ≠ none → K.lookup a = none) →
      codeAny (model P w) callerA (.call (.ref fa) ⟨[.ref a], []⟩)
        (fun r s' => r = .ok (.ret (.bool true)) ∧ OldK s1.heap s'.heap ∧ s'.os = s1.os ∧ AllBare s'.gens) s1 := by
    intro H only hS hok atA notK
    have down : ∀ {b : Addr} {o : Obj}, s1.heap.get? b = some o → H b = none → (hidT s1.heap H).get? b = some o := fun e n => hidT_get e n
    have isA : ∀ {b : Addr}, H b ≠ none → b = a := fun {b} h => atA b h
    have dictFree : ∀ {b : Addr} {o : Obj} {es : Array DictEntry} {ep : Nat}, s1.heap.get? b = some o → o.data = .dict es ep → H b = none := by
      intro b o es ep e d
      cases hb : H b with
      | none => rfl
      | some u =>
        have eb : b = a := isA (by rw [hb]; exact Option.some_ne_none _)
        subst eb
        rw [ha] at e
        cases e
        cases (show Data.seq us.toArray _ = Data.dict es ep from d)
    have nsDown : ∀ {b : Addr} {m : Str → Option Value}, s1.heap.Ns b m → (hidT s1.heap H).Ns b m := by
      rintro b m ⟨o, es, ep, e, d, r⟩
      exact ⟨o, es, ep, down e (dictFree e d), d, r⟩
    have kDown : K.In (hidT s1.heap H) := by
      intro b o e
      refine down (KX b o e) ?_
      cases hb : H b with
      | none => rfl
      | some u =>
        have eb : b = a := isA (by rw [hb]; exact Option.some_ne_none _)
        subst eb
        rw [notK (by rw [hb]; exact Option.some_ne_none _)] at e
        cases e
    have md : Mod K mg (hidT s1.heap H) := by
      refine ⟨kDown, nsDown nsG, ⟨mb, nsDown nsB, boot⟩, ?_⟩
      obtain ⟨mc, h1, h2⟩ := noLim
      exact ⟨mc, nsDown h1, h2⟩
    have e0 : Env0 P w K mg (hidT s1.heap H) callerA [] s1 H :=
      ⟨rfl, md, fun _ _ e => of_hidT e, Nat.le_of_eq (hidT_size _ _), trivial, fun _ hb => absurd hb List.not_mem_nil, hok, .of_eq gens0⟩
    have run := (F _ kDown (nsDown nsG)).run callerA [] s1 H ⟨[.ref a], []⟩ [.ref a] [.ref a] _ _ rfl hr e0 (bnd s1 (.ref a)) (.cons rfl .nil) (hsp H hS)
    refine codeAny_mono run fun r s' h => ?_
    rcases r with e | fl
    · exact h.elim
    · cases fl with
      | next => exact h.elim
      | brk => exact h.elim
      | cont => exact h.elim
      | ret u =>
        obtain ⟨v, H', os, bare, un, hok', ru, q⟩ := h
        cases (show v = .bl true from q)
        cases (show u = Value.bool true from ru)
        refine ⟨rfl, OldK.of_keep fun b o e => ?_, os, bare⟩
        cases hb : H b with
        | none => exact un.keep b o e hb (fun z => absurd z List.not_mem_nil) List.not_mem_nil
        | some u =>
          rcases only b with z | ⟨ob, xs, z⟩
          · rw [hb] at z
            cases z
          · obtain ⟨e1, _⟩ := hok b _ z
            obtain ⟨e2, _⟩ := hok' b _ (un.frzs b ob _ z)
            rw [e] at e1
            cases e1
            exact e2
  cases hk : K.lookup a with
  | some o =>
    have e := KX a o hk
    rw [ha] at e
    cases e
    refine body (fun _ => none) (fun _ => .inl rfl) (.inr ⟨_, us.toArray, _, hk, rfl, rfl, rfl, ?_, ?_⟩) (fun b u => ?_) (fun b z => absurd rfl z) fun z => absurd rfl z
    · rw [List.size_toArray, lenU]
      exact hl
    · simpa using rv
    · intro z
      exact nomatch (show (none : Option HO) = some u from z)
  | none =>
    have hA : ∀ b, (fun b => if b = a then some (HO.frz { cls := .type "list", data := .seq us.toArray } (.lst (ns.map V.int))) else none) b ≠ none → b = a := by
      intro b z
      by_cases hb : b = a
      · exact hb
      · exact absurd (if_neg hb) z
    refine body (fun b => if b = a then some (.frz { cls := .type "list", data := .seq us.toArray } (.lst (ns.map V.int))) else none) (fun b => ?_) (.inl (.inr ⟨{ cls := .type "list", data := .seq us.toArray }, if_pos rfl⟩)) (fun b u z => ?_) hA fun _ => hk
    · by_cases hb : b = a
      · exact .inr ⟨_, _, if_pos hb⟩
      · exact .inl (if_neg hb)
    · have eb : b = a := hA b (by rw [z]; exact Option.some_ne_none _)
      have z' := (if_pos eb).symm.trans z
      cases z'
      subst eb
      refine ⟨ha, ?_, us, _, rv, ha⟩
      rw [List.length_map]
      exact hl

/-- from the promise of the law's def to what k_head leaves -/
theorem walk_ofG {l : PySem.W.OpenLaw} {n k : Nat} {q : Program} {loose : List Str} {XP : (Str → Option Value) → Heap → Prop} {YP : World → Heap → Prop} {d : DefRec} {K : Params → PySem.W.Frag} {sp : PySem.W.Frag → Sp} {x : Str}
    (hn : l.most = some n) (hn2 : n ≤ sizeLine) (hdf : d.params.defaults = []) (hr : Room k callerA) (hY : ∀ (w : World) (h : Heap), YP w h → (K w.params).In h)
    (F : ∀ (w : World) (mg : Str → Option Value) (fa : Addr) (h : Heap), (K w.params).In h → h.Ns mainGlobals mg → mg d.name = some (.ref fa) →
      ∃ fd : FuncData, (∀ (s : Shared) (u : Value), BindsTo s fd ⟨[u], []⟩ [(x, u)]) ∧
        ∀ base : Heap, (K w.params).In base → base.Ns mainGlobals mg → FnG l.prog w (K w.params) mg base CX0 k fa fd [x] (sp (K w.params)))
    (hsp : ∀ (K : PySem.W.Frag) (H : Hp) (a : Addr) (ns : List Int), ns.length ≤ n → SqL K H a (ns.map V.int) → sp K [.ref a] H (fun v _ => v = .bl true) fun _ _ _ => False) :
    PySem.W.WalkO q loose XP YP l.row.toRowW d [] (fun f vs => PySem.call f vs) := by
  refine Att.attach_call hn hdf fun w s0 s1 mg mb fa o pm cd doc a us ns G Y ho hd hcd hmg hobj hints hlen hg => ?_
  have KX := hY w _ Y
  obtain ⟨fd, bnd, hF⟩ := F w mg fa _ KX G.T.g hmg
  exact law_callG KX G.T.g G.T.b G.T.builtins G.T.nolimit hg hobj hints (Nat.le_trans hlen hn2) hr hF bnd fun H hS => hsp _ H a ns hlen hS

/-! ### calls with keywords alone -/
section
variable {X : Cx} {cx : CXT} {k : Nat} {f : Addr} {fd : FuncData} {ps ks : List Str} {sp : Sp} {E : XK} {x : Str} {p pos : Pos} {kws : List Keyword} {tk : TA}
variable {g : List Value → List Value → List Value} {gV : List V → List V → List V}
theorem pe_callK0 (F : FnOk X.prog X.w X.K X.mg X.base cx k f fd ps sp) (hr : Room k X.A) (hg : Gl X x) (hm : X.mg x = some (.ref f)) (hk : PySem.W.keepIn X.K (.ref f) = true)
    (hb : KBinds X.K fd ps ks g gV) (hx : Passes cx X E) (hkw : PK X kws tk)
    (hall : (backToKw pos (keywordEach kws X.env)).all (·.1.isSome) = true := by rfl) (hks : (backToKw pos (keywordEach kws X.env)).filterMap (·.1) = ks := by rfl)
    (hdb : (x == ("__debug__" : Str)) = false := by decide)
    (hpl : ((backTo pos (starEach [] X.env)).any (·.1) || (backToKw pos (keywordEach kws X.env)).any (·.1.isNone)) = false := by rfl) :
    PE X (.Call (.Name x p) [] kws pos) (tCallK sp gV E tNil tk) := by
  refine ⟨fun pins s σ H Q I h => ?_⟩
  refine wpAny_Call_Name_kw (ld_glob I hg hm ?_ hdb)
  refine PySem.W.callWith_KW0 (h₀ := X.base) I.ok.mod.kin hk hall ?_ hpl
  refine thn (hkw.run pos pins s σ H _ I h) fun ws s2 ⟨zs, H2, I2, rz, q2⟩ => ⟨I2.kIn, ?_⟩
  rw [hks]
  exact run_fnk (us := []) (vs := []) F hr hb hx I2 .nil rz q2
end

/-! ### texts -/
section
variable {X : Cx}
/-- s * n -/
theorem op_rep_str : OpR X (binaryOp .Mult) (fun x y H Q => ∃ (z : Str) (n : Nat), x = .str z ∧ y = .int n ∧ n ≤ 1000000 ∧ z.length * n ≤ sizeLine ∧ z.length ≤ 1000000 ∧ Q (.str ⟨((List.replicate n z.cps.toList).flatten).toArray⟩) H) := by
  intro pins s σ H x y v u Q I rx ry h
  obtain ⟨z, n, rfl, rfl, hn, hz, hl, q⟩ := h
  obtain ⟨t, rfl⟩ := rx
  obtain ⟨t', rfl⟩ := ry
  have key : ∀ m : Nat, (List.replicate m z.cps).foldl (· ++ ·) #[] = ((List.replicate m z.cps.toList).flatten).toArray := by
    have gen : ∀ (m : Nat) (acc : Array Nat), (List.replicate m z.cps).foldl (· ++ ·) acc = acc ++ ((List.replicate m z.cps.toList).flatten).toArray := by
      intro m
      induction m with
      | zero => intro acc; simp
      | succ m ih =>
        intro acc
        rw [List.replicate_succ, List.foldl_cons, ih, List.replicate_succ, List.flatten_cons]
        apply Array.ext'
        simp
    intro m
    rw [gen]
    simp
  have done : ∀ w' : Str, w' = ⟨((List.replicate n z.cps.toList).flatten).toArray⟩ → ∀ t2 tk2, EP X pins σ Q (.str w' t2) { s with toks := tk2 } := by
    rintro w' rfl t2 tk2
    exact ⟨.str _, H, I.tok _, ⟨_, rfl⟩, q⟩
  refine PySem.P.mul_str ?_ ?_ ?_ ?_
  · have h1 : ¬ ((n : Int) < -(2 ^ 63 : Int)) := by omega
    have h2 : ¬ ((n : Int) ≥ 2 ^ 63) := by omega
    rw [decide_eq_false h1, decide_eq_false h2]
    rfl
  · intro h1 _ h3
    have hpos : (0 : Int) < n := by omega
    have h4 : ((z.length : Int) + 1) ≤ (2 ^ 63 - 1) / n := by
      rw [Int.le_ediv_iff_mul_le hpos]
      have h5 : ((z.length : Int) + 1) * n ≤ ((z.length : Int) + 1) * 1000000 := Int.mul_le_mul_of_nonneg_left (by omega) (by omega)
      have h6 : (z.length : Int) ≤ 1000000 := by omega
      have h7 : ((z.length : Int) + 1) * 1000000 ≤ 1000001 * 1000000 := Int.mul_le_mul_of_nonneg_right (by omega) (by omega)
      omega
    omega
  · intro h1 h2
    show decide (z.length * ((n : Nat) : Int).toNat > sizeLine) = false
    rw [Int.toNat_natCast]
    exact decide_eq_false (by omega)
  · by_cases h1 : (n : Int) < 1
    · rw [if_pos h1]
      have e0 : n = 0 := by omega
      subst e0
      exact ⟨by decide, done Str.empty rfl _ _⟩
    · rw [if_neg h1]
      by_cases h2 : ((n : Int) == 1 || z.length == 0) = true
      · rw [if_pos h2]
        have e1 : z = (⟨((List.replicate n z.cps.toList).flatten).toArray⟩ : Str) := by
          rcases Bool.or_eq_true_iff.mp h2 with h3 | h3
          · have e2 : n = 1 := by
              have := of_decide_eq_true (p := (n : Int) = 1) (by simpa using h3)
              omega
            subst e2
            obtain ⟨c⟩ := z
            simp
          · obtain ⟨⟨c⟩⟩ := z
            have e3 : c = [] := by
              have h4 : c.length = 0 := of_decide_eq_true (p := c.length = 0) (by simpa [Str.length] using h3)
              exact List.eq_nil_of_length_eq_zero h4
            subst e3
            simp
        exact done z e1 _ _
      · rw [if_neg h2, Int.toNat_natCast, key]
        refine ⟨?_, done _ rfl _ _⟩
        show ((List.replicate n z.cps.toList).flatten).toArray.size ≤ sizeLine
        have e4 : ((List.replicate n z.cps.toList).flatten).length = n * z.cps.toList.length := by simp
        have e5 : z.cps.toList.length = z.length := by simp [Str.length]
        rw [List.size_toArray, e4, e5, Nat.mul_comm]
        exact hz
end

/-! ### a, b, c = x, y, z with plain local names -/
def tPar3 (i j l : Nat) (ta : TA) : TS := fun D σ H => ta σ H fun vs H1 => ∃ v w u, vs = [v, w, u] ∧ D.nx (((σ.set i (some v)).set j (some w)).set l (some u)) H1
section
variable {X : Cx} {pos : Pos}
theorem ps_par3 {i j l : Nat} {x y z : Str} {a b c : Expr} {ta : TA} {px py pz pt : Pos} {kt k2 pt2} (hc : X.calm = true) (hN : X.N.Nodup)
    (hi : X.N[i]? = some x) (hj : X.N[j]? = some y) (hl : X.N[l]? = some z) (hij : i ≠ j) (hil : i ≠ l) (hjl : j ≠ l)
    (hx : X.env.scope.names.lookup x = some .local) (hy : X.env.scope.names.lookup y = some .local) (hz : X.env.scope.names.lookup z = some .local) (ha : PA X [a, b, c] ta)
    (hw : swappedStores [.Tuple [.Name x px, .Name y py, .Name z pz] kt pt] (.Tuple [a, b, c] k2 pt2) X.env = pure (some [x, y, z]))
    (hs : swapsWithSole [.Tuple [.Name x px, .Name y py, .Name z pz] kt pt] (.Tuple [a, b, c] k2 pt2) pos.line X.env = pure false := by rfl) :
    PS X (.Assign [.Tuple [.Name x px, .Name y py, .Name z pz] kt pt] (.Tuple [a, b, c] k2 pt2) pos) (tPar3 i j l ta) := by
  refine ⟨fun pins s σ H D I h => ?_⟩
  rw [exec_Assign_arm]
  refine wpAny_bind (wpAny_standAt ?_)
  rw [hs]
  refine wpAny_bind (wpAny_pure ?_)
  rw [if_neg (by decide)]
  refine wpAny_bind (Tuple_ (thn (ha.run _ pins s σ H _ I h) fun us s1 ⟨vs, H1, I1, r1, q1⟩ => ?_))
  obtain ⟨v, w, t, e1, q1⟩ := q1
  subst e1
  obtain ⟨u1, u2, u3, rfl, rv, rw', rt⟩ : ∃ u1 u2 u3, us = [u1, u2, u3] ∧ RelV v u1 ∧ RelV w u2 ∧ RelV t u3 := by
    cases r1 with
    | cons p q =>
      cases q with
      | cons p' q' =>
        cases q' with
        | cons p'' q'' =>
          cases q''
          exact ⟨_, _, _, rfl, p, p', p''⟩
  refine wpAny_newObj_type ?_ (by show 3 ≤ sizeLine; decide)
  have I2 : Inv X pins σ H1 { s1 with heap := s1.heap.push { cls := .type "tuple", data := .seq [u1, u2, u3].toArray } } :=
    I1.kept (t' := s1.toks) fun b o e => Heap.get?_push_of_some _ e
  rw [hw]
  refine wpAny_bind (wpAny_pure ?_)
  show wpAny (model X.prog X.w) X.A (do
    rule "assign.swapped-stores"
    let items ← unpackItems (.ref s1.heap.objs.size) 3 none
    assignInOrder [fun v => bindName X.env z v, fun v => bindName X.env y v, fun v => bindName X.env x v] items.reverse
    pure Flow.next) _ _ _
  refine wpAny_bind (wpAny_rule (wpAny_bind (unpackItems_tuple (items := #[u1, u2, u3]) (I.ok.hd hc) (IsTup.new s1.heap _) fun h' hx' => ?_)))
  have I3 := I2.kept (h' := h') (t' := s1.toks) fun b o e => hx' b o (Nat.ne_of_lt (Heap.lt_size e)) e
  show wpAny _ _ (assignInOrder [fun v => bindName X.env z v, fun v => bindName X.env y v, fun v => bindName X.env x v] [u3, u2, u1] >>= fun _ => pure Flow.next) _ _ _
  refine wpAny_bind (assignInOrder_cons (wpAny_bindName (store_ok I3 hN hl (.inl hz) rt (fun s2 I4 => ?_) (.inr hz))))
  refine assignInOrder_cons (wpAny_bindName (store_ok I4 hN hj (.inl hy) rw' (fun s3 I5 => ?_) (.inr hy)))
  refine assignInOrder_cons (wpAny_bindName (store_ok I5 hN hi (.inl hx) rv (fun s4 I6 => assignInOrder_nil (wpAny_pure ?_)) (.inr hx)))
  have e : (((σ.set l (some t)).set j (some w)).set i (some v)) = (((σ.set i (some v)).set j (some w)).set l (some t)) := by
    rw [List.set_comm _ _ (Ne.symm hjl), List.set_comm _ _ (Ne.symm hil), List.set_comm _ _ (Ne.symm hij)]
  rw [e] at I6
  exact ⟨_, H1, I6, q1⟩
end

/-! ### a def that may be called by its name -/
structure Cl (P : Program) (w : World) (K : PySem.W.Frag) (mg : Str → Option Value) (base : Heap) (k : Nat) (x : Str) (sp : Sp) : Prop where
  ex : ∃ (f : Addr) (fd : FuncData) (ps : List Str), FnOk P w K mg base CX0 k f fd ps sp ∧ mg x = some (.ref f) ∧ PySem.W.keepIn K (.ref f) = true ∧ Binds K fd ps []
/-- .. with keywords alone: π brings the keywords' values into the parameters' order -/
def tF (sp : Sp) (t : TA) : TE := fun σ H Q => t σ H fun vs H1 => sp vs H1 Q E0
def tF0 (sp : Sp) : TE := fun _ H Q => sp [] H Q E0
def tFk (n : Nat) (π : List V → List V) (sp : Sp) (t : TA) : TE := fun σ H Q => t σ H fun zs H1 => zs.length = n ∧ sp (π zs) H1 Q E0
structure ClK (P : Program) (w : World) (K : PySem.W.Frag) (mg : Str → Option Value) (base : Heap) (k : Nat) (x : Str) (ks : List Str) (π : List V → List V) (sp : Sp) : Prop where
  ex : ∃ (f : Addr) (fd : FuncData) (ps : List Str) (g : List Value → List Value), FnOk P w K mg base CX0 k f fd ps sp ∧ mg x = some (.ref f) ∧ PySem.W.keepIn K (.ref f) = true ∧
    (∀ (s : Shared) (ws : List Value), ws.length = ks.length → BindsTo s fd ⟨[], ks.zip ws⟩ (ps.zip (g ws))) ∧ ∀ (zs : List V) (ws : List Value), Vals zs ws → Vals (π zs) (g ws)
section
variable {X : Cx} {k j : Nat} {x : Str} {sp : Sp} {p pos : Pos} {e : Expr} {es : List Expr} {t tk : TA} {ks : List Str} {π : List V → List V} {kws : List Keyword}
theorem pe_f (c : Cl X.prog X.w X.K X.mg X.base k x sp) (hr : Room j X.A) (hk : k ≤ j) (hg : Gl X x) (ha : PA X (e :: es) t) (hdb : (x == ("__debug__" : Str)) = false := by decide)
    (he : starEach (e :: es) X.env = (false, eval e X.env) :: starEach es X.env := by rfl) (hpl : (backTo pos (starEach es X.env)).any (·.1) = false := by rfl) :
    PE X (.Call (.Name x p) (e :: es) [] pos) (tF sp t) := by
  obtain ⟨f, fd, ps, F, hm, kp, b⟩ := c.ex
  have h := pe_call (p := p) (pos := pos) F (hr.mono hk) hg hm kp b .nil pass0 ha hdb he hpl
  refine ⟨fun pins s σ H Q I q => h.run pins s σ H Q I ?_⟩
  show t σ H fun vs H1 => sp (vs ++ []) H1 Q E0
  simp only [List.append_nil]
  exact q
theorem pe_f0 (c : Cl X.prog X.w X.K X.mg X.base k x sp) (hr : Room j X.A) (hk : k ≤ j) (hg : Gl X x) (hdb : (x == ("__debug__" : Str)) = false := by decide) :
    PE X (.Call (.Name x p) [] [] pos) (tF0 sp) := by
  obtain ⟨f, fd, ps, F, hm, kp, b⟩ := c.ex
  have h := pe_call0 (p := p) (pos := pos) F (hr.mono hk) hg hm kp b .nil pass0 hdb
  exact ⟨fun pins s σ H Q I q => h.run pins s σ H Q I q⟩
theorem pe_fk (c : ClK X.prog X.w X.K X.mg X.base k x ks π sp) (hr : Room j X.A) (hk : k ≤ j) (hg : Gl X x) (hkw : PK X kws tk)
    (hall : (backToKw pos (keywordEach kws X.env)).all (·.1.isSome) = true := by rfl) (hks : (backToKw pos (keywordEach kws X.env)).filterMap (·.1) = ks := by rfl)
    (hdb : (x == ("__debug__" : Str)) = false := by decide)
    (hpl : ((backTo pos (starEach [] X.env)).any (·.1) || (backToKw pos (keywordEach kws X.env)).any (·.1.isNone)) = false := by rfl) :
    PE X (.Call (.Name x p) [] kws pos) (tFk ks.length π sp tk) := by
  obtain ⟨f, fd, ps, g, F, hm, kp, b, rel⟩ := c.ex
  refine ⟨fun pins s σ H Q I h => ?_⟩
  refine wpAny_Call_Name_kw (ld_glob I hg hm ?_ hdb)
  refine PySem.W.callWith_KW0 (h₀ := X.base) I.ok.mod.kin kp hall ?_ hpl
  refine thn (hkw.run pos pins s σ H _ I h) fun ws s2 ⟨zs, H2, I2, rz, hlen, q2⟩ => ⟨I2.kIn, ?_⟩
  rw [hks]
  have r2 := rel zs ws rz
  refine wpAny_call (codeAny_mono (F.run X.A X.stack s2 H2 ⟨[], ks.zip ws⟩ (g ws) (π zs) Q E0 (hr.mono hk) I2.env0 (b s2 ws (by rw [← rz.length]; exact hlen)) r2 q2) fun r s' hq => ?_)
  cases r with
  | error e => exact hq.elim
  | ok fl =>
    cases fl with
    | ret u => exact I2.after hq
    | next => exact hq.elim
    | brk => exact hq.elim
    | cont => exact hq.elim
end
section
variable {P : Program} {w : World} {K : PySem.W.Frag} {mg : Str → Option Value} {base : Heap}
theorem Cl.mk' {k : Nat} {x qual : Str} {st : Stmt} {f : Addr} {fd : FuncData} {ps : List Str} {sp : Sp} (F : Fun K x qual st f fd) (m : mg x = some (.ref f)) (b : Binds K fd ps []) (ok : FnOk P w K mg base CX0 k f fd ps sp) : Cl P w K mg base k x sp :=
  ⟨f, fd, ps, ok, m, F.kp, b⟩
theorem Cl.mono {j k : Nat} {x : Str} {sp : Sp} (c : Cl P w K mg base j x sp) (h : j ≤ k) : Cl P w K mg base k x sp := by
  obtain ⟨f, fd, ps, F, m, kp, b⟩ := c.ex
  exact ⟨f, fd, ps, F.mono h, m, kp, b⟩
theorem Cl.imp {k : Nat} {x : Str} {sp sp' : Sp} (c : Cl P w K mg base k x sp) (h : ∀ vs H Q E, sp' vs H Q E → sp vs H Q E) : Cl P w K mg base k x sp' := by
  obtain ⟨f, fd, ps, F, m, kp, b⟩ := c.ex
  exact ⟨f, fd, ps, F.imp h, m, kp, b⟩
/-- a module's constant -/
structure Cst (mg : Str → Option Value) (x : Str) (v : V) : Prop where
  ex : ∃ u, mg x = some u ∧ RelV v u
theorem pe_cst {X : Cx} {x : Str} {v : V} {pos : Pos} (c : Cst X.mg x v) (hg : Gl X x) (hd : (x == ("__debug__" : Str)) = false := by decide) : PE X (.Name x pos) (tC v) := by
  obtain ⟨u, hm, r⟩ := c.ex
  exact pe_glob hg hm r hd
end

/-! ### keywords' values in the parameters' order -/
def pick (is : List Nat) {α : Type} (xs : List α) : List α := is.filterMap fun i => xs[i]?
theorem pick_vals : ∀ (is : List Nat) {zs : List V} {ws : List Value}, Vals zs ws → Vals (pick is zs) (pick is ws)
  | [], _, _, _ => .nil
  | i :: is, zs, ws, r => by
    have ih := pick_vals is r
    unfold pick at ih ⊢
    cases e : zs[i]? with
    | none =>
      have e2 := r.none_of e
      rw [List.filterMap_cons_none e, List.filterMap_cons_none e2]
      exact ih
    | some z =>
      obtain ⟨u, e2, ru⟩ := r.get e
      rw [List.filterMap_cons_some e, List.filterMap_cons_some e2]
      exact .cons ru ih

/-! ### numbers of the drawing object -/
theorem tick_b1 {x b C : Int} (h0 : 0 ≤ x) (h1 : x < 2147483648) (b0 : 0 ≤ b) (b1 : b ≤ 1000000) (c0 : 0 ≤ C) (c1 : C ≤ 1000000) : 0 ≤ x * (2 * b + C) ∧ x * (2 * b + C) ≤ 2147483648 * 3000000 := by
  refine ⟨Int.mul_nonneg h0 (by omega), ?_⟩
  exact Int.mul_le_mul (by omega) (by omega) (by omega) (by omega)
theorem tick_b2 {D b : Int} (d0 : 0 ≤ D) (d1 : D ≤ 1000000) (b0 : 0 ≤ b) (b1 : b ≤ 1000000) : 0 ≤ D * b ∧ D * b ≤ 1000000 * 1000000 ∧ 0 ≤ D * b * b ∧ D * b * b ≤ 1000000 * 1000000 * 1000000 := by
  have h1 : 0 ≤ D * b := Int.mul_nonneg d0 b0
  have h2 : D * b ≤ 1000000 * 1000000 := Int.mul_le_mul d1 b1 b0 (by decide)
  exact ⟨h1, h2, Int.mul_nonneg h1 b0, Int.mul_le_mul h2 b1 b0 (by decide)⟩

/-! ### data of ints -/
theorem dp_ints {K : PySem.W.Frag} {H : Hp} : ∀ cs : List Int, DpAll K H (cs.map V.int) (cs.map PyData.int)
  | [] => .nil
  | c :: cs => .cons (.int c) (dp_ints cs)
theorem sh_ints (cs : List Int) : SeqAt.shaped (.list (cs.map .int)) = true := by
  have h : ∀ cs : List Int, PyData.canLayAll0 (cs.map PyData.int) = true ∧ PyData.depthAll (cs.map PyData.int) = 0 := by
    intro cs
    induction cs with
    | nil => exact ⟨rfl, rfl⟩
    | cons c cs ih => simp only [List.map_cons, PyData.canLayAll0, PyData.canLay0, PyData.depthAll, PyData.depth, ih.1, ih.2, Bool.and_self, Nat.max_self, and_self]
  unfold SeqAt.shaped
  simp only [PyData.canLay0, PyData.depth, (h cs).1, (h cs).2]
  rfl

/-! ### isinstance of a value and a built-in class -/
theorem tyb_wide {K : PySem.W.Frag} {H : Hp} {v : V} {T : String} (h : TyB K H v T) : TyX K H v (.type T) := by
  cases h with
  | non => exact .base .non
  | bl b => exact .base (.bl b)
  | int i => exact .base (.int i)
  | str x => exact .base (.str x)
  | byt b => exact .byt b
  | lst h =>
    rcases h with (h | ⟨o, h⟩) | ⟨o, its, n, h1, h2, _⟩
    · exact .base (.lst h)
    · exact .base (.frz h)
    · exact .kList h1 h2
  | tup h =>
    rcases h with (h | ⟨o, h⟩) | ⟨o, its, n, h1, h2, _⟩
    · exact .base (.tup h)
    · exact .fTuple h
    · exact .kTuple h1 h2
  | dK h => exact .base (.dK h)
def kinds : List String := ["NoneType", "bool", "int", "str", "bytes", "list", "tuple", "dict"]
theorem tyb_kind {K : PySem.W.Frag} {H : Hp} {v : V} {T : String} (h : TyB K H v T) : T ∈ kinds := by
  cases h <;> decide
/-- is what is of the type T also of the type n -/
def isSub (T n : String) : Bool := T == n || (T == "bool" && n == "int")
theorem kit_sub : ∀ T ∈ kinds, ∀ n ∈ kinds, kitB T n = some (isSub T n) := by decide +kernel
theorem call_is {X : Cx} : CallR X (.builtin "isinstance") (fun xs H Q => ∃ v T n, xs = [v, .ty n] ∧ TyB X.K H v T ∧ n ∈ kinds ∧ Q (.bl (isSub T n)) H) := by
  intro pins s σ H xs us Q I r h
  obtain ⟨v, T, n, rfl, ht, hn, q⟩ := h
  exact call_isi pins s σ H _ us Q I r ⟨v, .ty n, .type T, .type n, isSub T n, rfl, .ty n, tyb_wide ht, kit_ty (kit_sub T (tyb_kind ht) n hn), q⟩

/-! ### binomials -/
def chs : Nat → Nat → Nat
  | _, 0 => 1
  | 0, _ + 1 => 0
  | n + 1, k + 1 => chs n k + chs n (k + 1)
theorem chs_zero (n : Nat) : chs n 0 = 1 := by cases n <;> rfl
theorem chs_big : ∀ (n k : Nat), n < k → chs n k = 0
  | 0, 0, h => absurd h (Nat.lt_irrefl _)
  | 0, k + 1, _ => rfl
  | n + 1, 0, h => absurd h (Nat.not_lt_zero _)
  | n + 1, k + 1, h => by
    show chs n k + chs n (k + 1) = 0
    rw [chs_big n k (by omega), chs_big n (k + 1) (by omega)]
theorem chs_step : ∀ (n k : Nat), k ≤ n → chs n (k + 1) * (k + 1) = chs n k * (n - k)
  | 0, 0, _ => rfl
  | 0, k + 1, h => absurd h (by omega)
  | n + 1, 0, _ => by
    show (chs n 0 + chs n (0 + 1)) * (0 + 1) = 1 * (n + 1 - 0)
    have h := chs_step n 0 (Nat.zero_le _)
    rw [chs_zero] at h ⊢
    omega
  | n + 1, k + 1, h => by
    show (chs n (k + 1) + chs n (k + 1 + 1)) * (k + 1 + 1) = (chs n k + chs n (k + 1)) * (n + 1 - (k + 1))
    have h1 := chs_step n k (by omega)
    have e : n + 1 - (k + 1) = n - k := by omega
    rw [e, Nat.add_mul, Nat.add_mul, ← h1]
    by_cases hk : k + 1 ≤ n
    · have h2 := chs_step n (k + 1) hk
      rw [h2, ← Nat.mul_add, ← Nat.mul_add]
      congr 1
      omega
    · have en : n = k := by omega
      subst en
      rw [chs_big n (n + 1) (by omega), chs_big n (n + 1 + 1) (by omega)]
      simp
def fct : Nat → Nat
  | 0 => 1
  | n + 1 => fct n * (n + 1)
theorem fct_pos : ∀ n, 0 < fct n
  | 0 => Nat.one_pos
  | n + 1 => Nat.mul_pos (fct_pos n) (Nat.succ_pos _)
/-- n (n - 1) .. (n - k + 1) -/
def fll (n : Nat) : Nat → Nat
  | 0 => 1
  | k + 1 => fll n k * (n - k)
theorem chs_fll (n : Nat) : ∀ k, k ≤ n → chs n k * fct k = fll n k
  | 0, _ => by rw [chs_zero]; rfl
  | k + 1, h => by
    have ih := chs_fll n k (by omega)
    have hs := chs_step n k (by omega)
    show chs n (k + 1) * (fct k * (k + 1)) = fll n k * (n - k)
    rw [← ih, Nat.mul_right_comm (chs n k), ← hs, Nat.mul_comm (fct k), ← Nat.mul_assoc]
theorem fll_self : ∀ n, fll n n = fct n := by
  intro n
  have h := chs_fll n n (Nat.le_refl _)
  have e : chs n n = 1 := by
    induction n with
    | zero => rfl
    | succ n ih =>
      show chs n n + chs n (n + 1) = 1
      rw [chs_big n (n + 1) (by omega), ih (chs_fll n n (Nat.le_refl _))]
  rw [e, Nat.one_mul] at h
  exact h.symm
theorem chs_sym : ∀ (n k : Nat), k ≤ n → chs n (n - k) = chs n k := by
  -- both times k! (n - k)! are n!
  have key : ∀ (n k : Nat), k ≤ n → chs n k * fct k * fct (n - k) = fct n := by
    intro n
    induction n with
    | zero =>
      intro k h
      have e : k = 0 := by omega
      subst e
      rfl
    | succ n ih =>
      intro k h
      cases k with
      | zero => rw [chs_zero]; show 1 * 1 * fct (n + 1) = _; omega
      | succ k =>
        have i1 := ih k (by omega)
        have e1 : n + 1 - (k + 1) = n - k := by omega
        show (chs n k + chs n (k + 1)) * (fct k * (k + 1)) * fct (n + 1 - (k + 1)) = fct n * (n + 1)
        rw [e1]
        by_cases hk : k + 1 ≤ n
        · have i2 := ih (k + 1) hk
          have e2 : fct (n - k) = fct (n - (k + 1)) * (n - k) := by
            have : n - k = (n - (k + 1)) + 1 := by omega
            rw [this]
            rfl
          have a1 : chs n k * (fct k * (k + 1)) * fct (n - k) = fct n * (k + 1) := by
            rw [← i1]
            simp only [Nat.mul_assoc, Nat.mul_comm, Nat.mul_left_comm]
          have a2 : chs n (k + 1) * (fct k * (k + 1)) * fct (n - k) = fct n * (n - k) := by
            rw [← i2, e2]
            show _ = chs n (k + 1) * (fct k * (k + 1)) * fct (n - (k + 1)) * (n - k)
            simp only [Nat.mul_assoc]
          rw [Nat.add_mul, Nat.add_mul, a1, a2, ← Nat.mul_add]
          congr 1
          omega
        · have en : n = k := by omega
          subst en
          rw [chs_big n (n + 1) (by omega), Nat.add_zero]
          have e3 : n - n = 0 := Nat.sub_self n
          rw [e3] at i1 ⊢
          calc chs n n * (fct n * (n + 1)) * fct 0 = (chs n n * fct n * fct 0) * (n + 1) := by
                simp only [Nat.mul_assoc, Nat.mul_comm, Nat.mul_left_comm]
            _ = fct n * (n + 1) := by rw [i1]
  intro n k h
  have a := key n k h
  have b := key n (n - k) (by omega)
  have e : n - (n - k) = k := by omega
  rw [e] at b
  have hp : 0 < fct k * fct (n - k) := Nat.mul_pos (fct_pos _) (fct_pos _)
  have c : chs n (n - k) * (fct k * fct (n - k)) = chs n k * (fct k * fct (n - k)) := by
    rw [← Nat.mul_assoc, ← Nat.mul_assoc, a]
    rw [Nat.mul_right_comm] at b
    exact b
  exact Nat.eq_of_mul_eq_mul_right hp c
theorem fprod (n : Nat) : ∀ k, k ≤ n → Builtin.Math.fallingProduct (n : Int) k = (fll n k : Nat)
  | 0, _ => rfl
  | k + 1, h => by
    have ih := fprod n k (by omega)
    unfold Builtin.Math.fallingProduct at ih ⊢
    rw [List.range_succ, List.foldl_append, ih]
    show ((fll n k : Nat) : Int) * ((n : Int) - (k : Int)) = ((fll n k * (n - k) : Nat) : Int)
    rw [Int.natCast_mul, Int.natCast_sub (by omega)]
theorem chs_div {n k : Nat} (h : k ≤ n) : fll n k / fct k = chs n k := by
  rw [← chs_fll n k h, Nat.mul_div_cancel _ (fct_pos k)]
theorem mcComb_chs (n k : Nat) : PySem.W.mcComb (n : Int) (k : Int) = (chs n k : Nat) := by
  by_cases h : k ≤ n
  · have em : ∃ m : Nat, min (k : Int) ((n : Int) - k) = (m : Int) ∧ m ≤ n ∧ chs n m = chs n k := by
      by_cases h2 : k ≤ n - k
      · exact ⟨k, by omega, h, rfl⟩
      · exact ⟨n - k, by omega, by omega, chs_sym n k h⟩
    obtain ⟨m, e1, e2, e3⟩ := em
    rw [PySem.W.mcComb_at (by omega) (by omega) e1, Int.toNat_natCast, fprod n m e2, fprod m m (Nat.le_refl _), fll_self, ← e3, ← chs_div e2, Int.natCast_ediv]
  · rw [PySem.W.mcComb_above (by omega), chs_big n k (by omega)]
    rfl
theorem cr_comb {X : Cx} : CallR X (.builtin "math.comb") (fun xs H Q => ∃ n k : Nat, xs = [.int n, .int k] ∧ n ≤ 18000 ∧ Q (.int (chs n k : Nat)) H) := by
  intro pins s σ H xs us Q I r h
  obtain ⟨n, k, rfl, hn, q⟩ := h
  obtain ⟨u1, u2, rfl, ⟨t, rfl⟩, ⟨t', rfl⟩⟩ := vals2 r
  refine PySem.W.mc_comb_v (by omega) (by omega) (by omega) (.inr (by omega)) (mcComb_chs n k) ?_
  exact ⟨.int _, H, I.tok _, ⟨_, rfl⟩, q⟩

/-! ### heaps -/
theorem same_put {H0 H : Hp} {D : Addr} {o : HO} (s : Same H0 H) (h : H0 D = none) : Same H0 (upd H D o) := fun b x e => by
  rw [upd_ne (ne_of_none e h)]
  exact s _ _ e

/-! ### data that may be shown and compared -/
mutual
def okD : PyData → Bool
  | .int i => decide (i.natAbs.log2 < 900)
  | .str x => x.cps.toList.all fun c => decide (c < 1114112)
  | .list xs | .tuple xs => okDs xs
  | .dict _ => false
  | .none | .bool _ => true
def okDs : List PyData → Bool
  | [] => true
  | x :: xs => okD x && okDs xs
end
mutual
theorem okD_all : ∀ d : PyData, okD d = true → d.showable = true ∧ d.hasDict = false ∧ d.leavesShort 1000 = true ∧ d.canLay0 = true
  | .none, _ => ⟨by simp only [PyData.showable], by simp only [PyData.hasDict], by simp only [PyData.leavesShort], by simp only [PyData.canLay0]⟩
  | .bool _, _ => ⟨by simp only [PyData.showable], by simp only [PyData.hasDict], by simp only [PyData.leavesShort], by simp only [PyData.canLay0]⟩
  | .int i, h => by
    have h1 : i.natAbs.log2 < 900 := by simpa only [okD, decide_eq_true_eq] using h
    refine ⟨by simp only [PyData.showable, decide_eq_true_eq]; omega, by simp only [PyData.hasDict], ?_, by simp only [PyData.canLay0]⟩
    have h2 := int_text_length_le (a := i) (k := 900) (by decide) h1
    have h3 : (PyData.shown (.int i)).length ≤ 1000 := by
      simp only [PyData.shown]
      show (Str.ofString (toString i)).length ≤ 1000
      have h4 := PySem.ofString_length (toString i)
      omega
    simp only [PyData.leavesShort]
    exact decide_eq_true h3
  | .str x, h => by
    have h1 : ∀ c ∈ x.cps.toList, c < 1114112 := by simpa only [okD, List.all_eq_true, decide_eq_true_eq] using h
    refine ⟨by simp only [PyData.showable], by simp only [PyData.hasDict], ?_, ?_⟩
    · simp only [PyData.leavesShort, List.all_eq_true, decide_eq_true_eq]
      intro c hc
      exact Nat.lt_of_lt_of_le (h1 c hc) (by decide)
    · simp only [PyData.canLay0, PyData.strOk]
      rw [← Array.all_toList, List.all_eq_true]
      intro c hc
      exact decide_eq_true (h1 c hc)
  | .list xs, h => by
    obtain ⟨a, b, c, d⟩ := okDs_all xs (by simpa only [okD] using h)
    exact ⟨by simpa only [PyData.showable] using a, by simpa only [PyData.hasDict] using b, by simpa only [PyData.leavesShort] using c, by simpa only [PyData.canLay0] using d⟩
  | .tuple xs, h => by
    obtain ⟨a, b, c, d⟩ := okDs_all xs (by simpa only [okD] using h)
    exact ⟨by simpa only [PyData.showable] using a, by simpa only [PyData.hasDict] using b, by simpa only [PyData.leavesShort] using c, by simpa only [PyData.canLay0] using d⟩
  | .dict _, h => by simp only [okD, Bool.false_eq_true] at h
theorem okDs_all : ∀ xs : List PyData, okDs xs = true → PyData.showableAll xs = true ∧ PyData.hasDictAll xs = false ∧ PyData.leavesShortAll 1000 xs = true ∧ PyData.canLayAll0 xs = true
  | [], _ => ⟨by simp only [PyData.showableAll], by simp only [PyData.hasDictAll], by simp only [PyData.leavesShortAll], by simp only [PyData.canLayAll0]⟩
  | x :: xs, h => by
    have h1 : okD x = true ∧ okDs xs = true := by simpa only [okDs, Bool.and_eq_true] using h
    obtain ⟨a, b, c, d⟩ := okD_all x h1.1
    obtain ⟨a', b', c', d'⟩ := okDs_all xs h1.2
    exact ⟨by simp only [PyData.showableAll, a, a', Bool.and_self], by simp only [PyData.hasDictAll, b, b', Bool.or_self], by simp only [PyData.leavesShortAll, c, c', Bool.and_self], by simp only [PyData.canLayAll0, d, d', Bool.and_self]⟩
end
/-- x is the data d, small enough -/
structure GD (K : PySem.W.Frag) (H : Hp) (x : V) (d : PyData) : Prop where
  at_ : Dp K H x d
  ok : okD d = true
  bk : d.bulk ≤ 10000
  dp : d.depth ≤ 60
theorem GD.shaped {K : PySem.W.Frag} {H : Hp} {x : V} {d : PyData} (h : GD K H x d) : SeqAt.shaped d = true := by
  unfold SeqAt.shaped
  rw [(okD_all d h.ok).2.2.2, decide_eq_true (Nat.le_trans h.dp (by decide))]
  rfl
theorem GD.short {K : PySem.W.Frag} {H : Hp} {x : V} {d : PyData} (h : GD K H x d) : d.shown.length ≤ sizeLine := by
  have e := PyData.shown_le_bulk 1000 (by decide) d (okD_all d h.ok).2.2.1
  have b := h.bk
  rw [sizeLine_eq]
  have m : (1000 + 2) * d.bulk ≤ (1000 + 2) * 10000 := Nat.mul_le_mul_left _ b
  omega
section
variable {X : Cx}
theorem cr_show (gd : X.A.guards = some []) (hu : X.A.units + 64 < cLine) : CallR X (.builtin "repr") (fun xs H Q => ∃ x d, xs = [x] ∧ GD X.K H x d ∧ Q (.str d.shown) H) := by
  intro pins s σ H xs us Q I r h
  obtain ⟨x, d, rfl, g, q⟩ := h
  obtain ⟨a, b, _, _⟩ := okD_all d g.ok
  exact cr_repr gd hu pins s σ H _ us Q I r ⟨x, d, rfl, g.at_, a, b, g.dp, g.short, q⟩
theorem op_eqG (hu : X.A.units + 64 < cLine) : OpR X (compareOp .Eq) (fun x y H Q => ∃ d e, GD X.K H x d ∧ GD X.K H y e ∧ Q (.bl (PyData.eqv d e)) H) := by
  intro pins s σ H x y v u Q I rx ry h
  obtain ⟨d, e, hd, he, q⟩ := h
  exact op_eqD hu pins s σ H x y v u Q I rx ry ⟨d, e, hd.at_, he.at_, hd.shaped, he.shaped, q⟩
theorem op_neG (hu : X.A.units + 64 < cLine) : OpR X (compareOp .NotEq) (fun x y H Q => ∃ d e, GD X.K H x d ∧ GD X.K H y e ∧ Q (.bl (!PyData.eqv d e)) H) := by
  intro pins s σ H x y v u Q I rx ry h
  obtain ⟨d, e, hd, he, q⟩ := h
  exact op_neD hu pins s σ H x y v u Q I rx ry ⟨d, e, hd.at_, he.at_, hd.shaped, he.shaped, q⟩
end
theorem GD.of {K : PySem.W.Frag} {H : Hp} {a : Addr} {xs : List V} {ds : List PyData} (h : SqL K H a xs) (p : DpAll K H xs ds) (o : okDs ds = true) (b : PyData.bulkAll ds ≤ 10000) (n : PyData.depthAll ds ≤ 59) : GD K H (.ref a) (.list ds) :=
  ⟨.lst h p, by simpa only [okD] using o, by simpa only [PyData.bulk] using b, by simp only [PyData.depth]; omega⟩
theorem GD.ofT {K : PySem.W.Frag} {H : Hp} {a : Addr} {xs : List V} {ds : List PyData} (h : SqT K H a xs) (p : DpAll K H xs ds) (o : okDs ds = true) (b : PyData.bulkAll ds ≤ 10000) (n : PyData.depthAll ds ≤ 59) : GD K H (.ref a) (.tuple ds) :=
  ⟨.tup h p, by simpa only [okD] using o, by simpa only [PyData.bulk] using b, by simp only [PyData.depth]; omega⟩
end EH

namespace EH
open PySem PySem.Spec PyProof.Rows L2
theorem pow_ok {m : Int} (h0 : 0 < m) (h1 : m ≤ 1000000) : m.natAbs < 2 ^ 2000 :=
  Nat.lt_of_lt_of_le (show m.natAbs < 2 ^ 20 by omega) (Nat.pow_le_pow_right (by decide) (by decide))
theorem log2_of_lt {n k : Nat} (hk : 0 < k) (h : n < 2 ^ k) : n.log2 < k := by
  by_cases h0 : n = 0
  · subst h0
    simpa using hk
  · exact (Nat.log2_lt h0).mpr h
end EH

set_option Elab.async false
set_option linter.all false
set_option maxRecDepth 100000
set_option maxHeartbeats 2000000
/-! EH2: texts as rows of signs: our rules beside the hand layer's. -/
namespace EH
open PySem PySem.Spec PyProof.Rows L2
open SX (S S_len S_cat S_inj join_S S_tl)
/-- x[lo:hi], of signs -/
def cutN (a : List Nat) (lo hi : Option Int) : List Nat := (a.drop (HT.sIx a.length 0 lo)).take (HT.sIx a.length a.length hi - HT.sIx a.length 0 lo)
theorem cutS_S (a : List Nat) (lo hi : Option Int) : cutS (S a) lo hi = S (cutN a lo hi) := by
  unfold cutS cutN
  rw [S_len]
theorem cutN_all (a : List Nat) : cutN a none none = a := by
  unfold cutN
  rw [HT.sIx_none, HT.sIx_none, Nat.sub_zero, List.drop_zero, List.take_length]
theorem cutN_to (a : List Nat) (k : Nat) : cutN a none (some (k : Int)) = a.take k := by
  unfold cutN
  rw [HT.sIx_none, HT.sIx_nat, List.drop_zero, Nat.sub_zero]
  rcases Nat.le_total k a.length with h | h
  · rw [Nat.min_eq_left h]
  · rw [Nat.min_eq_right h, List.take_of_length_le (Nat.le_refl _), List.take_of_length_le h]
theorem cutN_from (a : List Nat) (k : Nat) : cutN a (some (k : Int)) none = a.drop k := by
  unfold cutN
  rw [HT.sIx_none, HT.sIx_nat]
  rcases Nat.le_total k a.length with h | h
  · rw [Nat.min_eq_left h, List.take_of_length_le (by rw [List.length_drop]; exact Nat.le_refl _)]
  · rw [Nat.min_eq_right h, List.drop_eq_nil_of_le (Nat.le_refl _), List.drop_eq_nil_of_le h, List.take_nil]
theorem cutN_len (a : List Nat) (lo hi : Option Int) : (cutN a lo hi).length ≤ a.length := by
  unfold cutN
  rw [List.length_take, List.length_drop]
  omega
theorem cutN_mid (a : List Nat) (i j : Nat) : cutN a (some (i : Int)) (some (j : Int)) = (a.drop i).take (j - i) := by
  unfold cutN
  rw [HT.sIx_nat, HT.sIx_nat]
  rcases Nat.le_total i a.length with h | h
  · rw [Nat.min_eq_left h]
    rcases Nat.le_total j a.length with h' | h'
    · rw [Nat.min_eq_left h']
    · rw [Nat.min_eq_right h', List.take_of_length_le (by rw [List.length_drop]; exact Nat.le_refl _), List.take_of_length_le (by rw [List.length_drop]; omega)]
  · rw [Nat.min_eq_right h, List.drop_eq_nil_of_le (Nat.le_refl _), List.drop_eq_nil_of_le h, List.take_nil, List.take_nil]
theorem count_S (a : List Nat) (c : Nat) : Txt.count (S a) (S [c]) = ((a.count c : Nat) : Int) := by
  show Txt.count (S a) ⟨#[c]⟩ = _
  rw [count_cnt]
  show cnt c a = _
  induction a with
  | nil => rfl
  | cons x r ih =>
    rw [cnt_cons, ih, List.count_cons]
    by_cases e : x = c
    · subst e
      simp
      omega
    · simp [e]
section
variable {X : Cx}
/-- a written text -/
theorem pe_lit {x : Str} {j pos} {l : List Nat} (h : x = S l) : PE X (.Constant (.str x) j pos) (tC (.str (S l))) := by
  subst h
  exact pe_str
theorem mt_countS : MtR X "str.count" (fun x xs H Q => ∃ (a : List Nat) (c : Nat), x = .str (S a) ∧ xs = [.str (S [c])] ∧ Q (.int (a.count c : Nat)) H) := by
  intro pins s σ H x v xs us Q I r rs h
  obtain ⟨a, c, rfl, rfl, q⟩ := h
  rw [← count_S] at q
  exact mt_count pins s σ H _ _ _ _ Q I r rs ⟨_, _, rfl, rfl, q⟩
theorem sl_S : SlR X (fun x lo hi H Q => ∃ a : List Nat, x = .str (S a) ∧ a.length ≤ sizeLine ∧ Q (.str (S (cutN a lo hi))) H) := by
  intro pins s σ H x v vl vu lo hi sl Q I rx hs pl pu h
  obtain ⟨a, rfl, hz, q⟩ := h
  rw [← cutS_S] at q
  exact sl_str pins s σ H _ v vl vu lo hi sl Q I rx hs pl pu ⟨_, rfl, by rw [S_len]; exact hz, q⟩
theorem op_add_S : OpR X (binaryOp .Add) (fun x y H Q => ∃ a b : List Nat, x = .str (S a) ∧ y = .str (S b) ∧ a.length + b.length ≤ sizeLine ∧ Q (.str (S (a ++ b))) H) := by
  intro pins s σ H x y v u Q I rx ry h
  obtain ⟨a, b, rfl, rfl, hz, q⟩ := h
  rw [← S_cat] at q
  exact op_add_str pins s σ H _ _ v u Q I rx ry ⟨_, _, rfl, rfl, by rw [S_len, S_len]; exact hz, q⟩
theorem op_rep_S : OpR X (binaryOp .Mult) (fun x y H Q => ∃ (a : List Nat) (n : Nat), x = .str (S a) ∧ y = .int n ∧ n ≤ 1000000 ∧ a.length * n ≤ sizeLine ∧ a.length ≤ 1000000 ∧ Q (.str (S (List.replicate n a).flatten)) H) := by
  intro pins s σ H x y v u Q I rx ry h
  obtain ⟨a, n, rfl, rfl, h1, h2, h3, q⟩ := h
  exact op_rep_str pins s σ H _ _ v u Q I rx ry ⟨_, n, rfl, rfl, h1, by rw [S_len]; exact h2, by rw [S_len]; exact h3, q⟩
theorem op_eq_S : OpR X (compareOp .Eq) (fun x y H Q => ∃ a b : List Nat, x = .str (S a) ∧ y = .str (S b) ∧ Q (.bl (decide (a = b))) H) := by
  intro pins s σ H x y v u Q I rx ry h
  obtain ⟨a, b, rfl, rfl, q⟩ := h
  refine op_eq pins s σ H _ _ v u Q I rx ry ⟨rfl, ?_⟩
  have e : decide (V.str (S a) = V.str (S b)) = decide (a = b) := by
    by_cases h : a = b
    · subst h; simp
    · rw [decide_eq_false h, decide_eq_false]
      exact fun z => h (S_inj (V.str.inj z))
  rw [e]
  exact q
theorem op_ne_S : OpR X (compareOp .NotEq) (fun x y H Q => ∃ a b : List Nat, x = .str (S a) ∧ y = .str (S b) ∧ Q (.bl (!decide (a = b))) H) := by
  intro pins s σ H x y v u Q I rx ry h
  obtain ⟨a, b, rfl, rfl, q⟩ := h
  refine op_ne pins s σ H _ _ v u Q I rx ry ⟨rfl, ?_⟩
  have e : decide (V.str (S a) = V.str (S b)) = decide (a = b) := by
    by_cases h : a = b
    · subst h; simp
    · rw [decide_eq_false h, decide_eq_false]
      exact fun z => h (S_inj (V.str.inj z))
  rw [e]
  exact q
theorem op_in_S : OpR X (compareOp .In) (fun x y H Q => ∃ (c : Nat) (a : List Nat), x = .str (S [c]) ∧ y = .str (S a) ∧ Q (.bl (decide (c ∈ a))) H) := by
  intro pins s σ H x y v u Q I rx ry h
  obtain ⟨c, a, rfl, rfl, q⟩ := h
  exact op_in_sign pins s σ H _ _ v u Q I rx ry ⟨c, S a, rfl, rfl, q⟩
theorem op_notIn_S : OpR X (compareOp .NotIn) (fun x y H Q => ∃ (c : Nat) (a : List Nat), x = .str (S [c]) ∧ y = .str (S a) ∧ Q (.bl (!decide (c ∈ a))) H) := by
  intro pins s σ H x y v u Q I rx ry h
  obtain ⟨c, a, rfl, rfl, q⟩ := h
  exact op_notIn_sign pins s σ H _ _ v u Q I rx ry ⟨c, S a, rfl, rfl, q⟩
theorem call_len_S : CallR X (.builtin "len") (fun xs H Q => ∃ a : List Nat, xs = [.str (S a)] ∧ a.length ≤ sizeLine ∧ Q (.int (a.length : Nat)) H) := by
  intro pins s σ H xs us Q I r h
  obtain ⟨a, rfl, hz, q⟩ := h
  refine call_len_str pins s σ H _ us Q I r ⟨_, rfl, by rw [S_len]; exact hz, ?_⟩
  rw [S_len]
  exact q
theorem mt_joinS : MtR X "str.join" (fun x xs H Q => ∃ (p : Addr) (ys : List (List Nat)), x = .str (S []) ∧ xs = [.ref p] ∧ (SqL X.K H p (ys.map fun y => V.str (S y)) ∨ SqT X.K H p (ys.map fun y => V.str (S y))) ∧ ys.flatten.length ≤ 16777216 ∧ Q (.str (S ys.flatten)) H) := by
  intro pins s σ H x v xs us Q I r rs h
  obtain ⟨p, ys, rfl, rfl, hp, hz, q⟩ := h
  have e0 : (ys.map fun y => V.str (S y)) = (ys.map S).map V.str := by rw [List.map_map]; rfl
  have ej : ∀ l : List (List Nat), TL.joinL [] l = l.flatten := by
    intro l
    induction l with
    | nil => rfl
    | cons a l ih =>
      cases l with
      | nil => rw [List.flatten_cons, List.flatten_nil, List.append_nil]; rfl
      | cons b l => rw [List.flatten_cons, ← ih]; rfl
  have el : ∀ l : List (List Nat), ((l.map S).map (·.length)).sum = l.flatten.length := by
    intro l
    induction l with
    | nil => rfl
    | cons a l ih => rw [List.map_cons, List.map_cons, List.sum_cons, ih, List.flatten_cons, List.length_append, S_len]
  rw [e0] at hp
  refine mt_join pins s σ H _ _ _ _ Q I r rs ⟨_, p, ys.map S, rfl, rfl, hp, ?_, ?_⟩
  · rw [el, S_len]
    simpa using hz
  · rw [join_S, ej]
    exact q
end
/-- x[::-1] -/
theorem revN (a : List Nat) (u : Tok) : Txt.sliceBy (S a) none none (-1, u) = S a.reverse := by
  have h := step_rev_list (S a) u
  generalize Txt.sliceBy (S a) none none (-1, u) = z at h ⊢
  have e : z = S z.cps.toList := (S_tl z).symm
  rw [e, h]
  congr 1
  have hl : (S a).length = a.length := S_len a
  have : ((List.range (S a).length).map fun k => (S a).cps.getD ((S a).length - 1 - k) 0) = a.reverse := by
    rw [hl]
    refine List.ext_getElem (by simp) fun i h1 h2 => ?_
    rw [List.getElem_map, List.getElem_range, List.getElem_reverse]
    have hi : i < a.length := by simpa using h1
    show (a.toArray).getD (a.length - 1 - i) 0 = _
    have hj : a.length - 1 - i < a.length := by omega
    simp [Array.getD, hj]
  rw [this]
def tRevS (te : TE) : TE := fun σ H Q => te σ H fun x H1 => ∃ a : List Nat, x = .str (S a) ∧ a.length ≤ sizeLine ∧ Q (.str (S a.reverse)) H1
theorem pe_revS {X : Cx} {e : Expr} {te : TE} {k : Nat} {p1 p2 p3 pos : Pos} (he : PE X e te) : PE X (.Subscript e (.Slice none none (some (.UnaryOp .USub (.Constant (.int 1) k p1) p2)) p3) pos) (tRevS te) := by
  refine ⟨fun pins s σ H Q I h => ?_⟩
  refine Subscript_ (thn (he.run pins s σ H _ I h) fun v s1 ⟨x, H1, I1, r1, q1⟩ => ?_)
  obtain ⟨a, ex, hz, q⟩ := q1
  subst ex
  obtain ⟨t, rfl⟩ := r1
  have hst : PO X (some (.UnaryOp .USub (.Constant (.int 1) k p1) p2)) (tPart (tUn (rU fun i => .int (-i)) (tC (.int 1)))) := po_some (pe_un un_neg pe_int)
  refine wpAny_Slice (thn (po_none.run pins s1 σ H1 (fun o H2 => o = none ∧ H2 = H1) I1 ⟨rfl, rfl⟩) fun vl s2 ⟨l, H2, I2, pl, el, e2⟩ => ?_)
  subst el e2
  refine thn (po_none.run pins s2 σ H2 (fun o H3 => o = none ∧ H3 = H2) I2 ⟨rfl, rfl⟩) fun vu s3 ⟨u, H3, I3, pu, eu, e3⟩ => ?_
  subst eu e3
  refine thn (hst.run pins s3 σ H3 (fun o H4 => o = some (-1) ∧ H4 = H3) I3 ⟨1, rfl, -1, rfl, rfl, rfl⟩) fun vs s4 ⟨o, H4, I4, ps, eo, e4⟩ => ?_
  subst eo e4
  have I5 : L2.Inv X pins σ H4 { s4 with heap := s4.heap.push { cls := .type "slice", data := .fields #[vl, vu, vs] } } := I4.kept (t' := s4.toks) fun b ob q => Heap.get?_push_of_some _ q
  obtain ⟨l, rfl, hl1⟩ := IsPart.raw pl
  obtain ⟨u, rfl, hu1⟩ := IsPart.raw pu
  obtain ⟨w, rfl, hw1⟩ := IsPart.raw ps
  cases l with
  | some l => cases hl1
  | none =>
  cases u with
  | some u => cases hu1
  | none =>
  cases w with
  | none => cases hw1
  | some w =>
  obtain ⟨i, tw⟩ := w
  have ei : i = -1 := Option.some.inj hw1
  subst ei
  show wpAny (model X.prog X.w) X.A (subscriptTail e (.Slice none none (some (.UnaryOp .USub (.Constant (.int 1) k p1) p2)) p3) (.str (S a) t) (.ref s4.heap.objs.size)) (EP X pins σ Q) X.xe { s4 with heap := s4.heap.push { cls := .type "slice", data := .fields #[_, _, _] } }
  refine tail_any (ops := [.str (S a) t, .ref s4.heap.objs.size]) (typeIs_str _ _ _) F.slot_str_getitem.lookup ?_ (by with_unfolding_all rfl)
  refine wpAny_getItem_str_slice (l := none) (u := none) (st := some (-1, tw)) ⟨_, Heap.get?_push_size _ rfl, rfl, rfl⟩ rfl ?_
  have er := revN a tw
  unfold Txt.sliceBy at er
  show Made.post (if _ then Made.val (.str (S a) t) else Made.str _) _ _
  split
  · rename_i c
    rw [if_pos c] at er
    exact ⟨.str (S a), _, I5, ⟨t, rfl⟩, by rw [er]; exact q⟩
  · rename_i c
    rw [if_neg c] at er
    have hl2 : (Str.length ⟨(List.filterMap (fun x => (S a).cps[x]?) (slicePicked (S a) none none (some (-1, tw)))).toArray⟩) = a.length := by
      rw [er, S_len, List.length_reverse]
    refine ⟨Nat.le_trans (Nat.le_of_eq hl2) hz, ?_⟩
    show EP X pins σ Q (.str ⟨(List.filterMap (fun x => (S a).cps[x]?) (slicePicked (S a) none none (some (-1, tw)))).toArray⟩ _) _
    rw [er]
    exact ⟨.str (S a.reverse), _, I5.tok _, ⟨_, rfl⟩, q⟩
/-- the signs of a text, as values -/
def sgs (a : List Nat) : List V := a.map fun c => V.str (S [c])
theorem vals_signs {a : List Nat} {acc : Array Value} (h : ItemsOf (SignAt (S a)) acc (S a).cps.size) : Vals (sgs a) acc.toList := by
  obtain ⟨hs, hi⟩ := h
  have hs' : acc.size = a.length := by rw [hs]; simp
  have key : ∀ (b : List Nat) (l : List Value), b.length = l.length → (∀ (j : Nat) (v : Value), l[j]? = some v → ∃ c u, b[j]? = some c ∧ v = Value.str ⟨#[c]⟩ u) → Vals (sgs b) l := by
    intro b
    induction b with
    | nil =>
      intro l hl _
      cases l with
      | nil => exact .nil
      | cons v l => cases hl
    | cons c b ih =>
      intro l hl h
      cases l with
      | nil => cases hl
      | cons v l =>
        obtain ⟨c', u, e1, e2⟩ := h 0 v rfl
        cases e1
        exact .cons ⟨u, e2⟩ (ih l (Nat.succ.inj hl) fun j v hj => h (j + 1) v hj)
  refine key a acc.toList (by rw [Array.length_toList]; exact hs'.symm) fun j v hj => ?_
  obtain ⟨c, u, h1, h2⟩ := hi j v (by simpa using hj)
  exact ⟨c, u, by simpa using h1, h2⟩
theorem call_list_S {X : Cx} (hc : X.calm = true) : CallR X (.type "list") (fun xs H Q => ∃ a : List Nat, xs = [.str (S a)] ∧ a.length ≤ sizeLine ∧ ∀ l, H l = none → Q (.ref l) (upd H l (.lst (sgs a)))) := by
  intro pins s σ H xs us Q I r h
  obtain ⟨a, rfl, hz, q⟩ := h
  obtain ⟨u, rfl, rx⟩ := vals1 r
  obtain ⟨t, rfl⟩ := rx
  refine call_list_str (I.ok.hd hc) (S a) t (fun h' tk acc' c' kp e hi => ?_) (by simpa using hz)
  have r' := vals_signs hi
  refine ⟨.ref s.heap.objs.size, _, I.laid (t' := tk) kp (Nat.le_refl _) (show ObjOk X.prog X.w _ h' _ (.lst (sgs a)) from ⟨by unfold sgs; rw [List.length_map]; exact hz, acc'.toList, c', r', by rw [Array.toArray_toList]; exact e⟩), rfl, q _ (I.hok.fresh (Nat.le_refl _))⟩
theorem call_tuple_S {X : Cx} (hc : X.calm = true) : CallR X (.type "tuple") (fun xs H Q => ∃ a : List Nat, xs = [.str (S a)] ∧ a.length ≤ sizeLine ∧ ∀ l, H l = none → Q (.ref l) (upd H l (.tup (sgs a)))) := by
  intro pins s σ H xs us Q I r h
  obtain ⟨a, rfl, hz, q⟩ := h
  obtain ⟨u, rfl, rx⟩ := vals1 r
  obtain ⟨t, rfl⟩ := rx
  refine call_tuple_str (I.ok.hd hc) (S a) t (fun h' tk acc kp hi => ?_) (by simpa using hz)
  have r' := vals_signs hi
  have I1 : L2.Inv X pins σ H { s with heap := h' } := I.kept (t' := s.toks) kp
  have I2 : L2.Inv X pins σ (upd H h'.objs.size (.tup (sgs a))) { s with heap := h'.push { cls := .type "tuple", data := .seq acc }, toks := tk } :=
    I1.laid (t' := tk) (fun b o e => Heap.get?_push_of_some _ e) (Nat.le_refl _) (show ObjOk X.prog X.w _ _ _ (.tup (sgs a)) from ⟨by unfold sgs; rw [List.length_map]; exact hz, acc.toList, r', by rw [Array.toArray_toList]; exact IsTup.new _ _⟩)
  exact ⟨.ref h'.objs.size, _, I2, rfl, q _ (I1.hok.fresh (Nat.le_refl _))⟩
/-- what pi_str walks -/
theorem its_at {a : List Nat} {i : Nat} {H H' : Hp} {x : V} (h : (Its (S a)).yld i H x H') : H' = H ∧ ∃ c, a[i]? = some c ∧ x = .str (S [c]) := by
  obtain ⟨e, c, h1, h2⟩ := h
  refine ⟨e, c, ?_, h2⟩
  simpa using h1
theorem its_go {a : List Nat} {i : Nat} {H : Hp} (h : i < a.length) : (Its (S a)).go i H := by
  show i < (S a).cps.size
  simpa using h
theorem its_stop {a : List Nat} {i : Nat} {H : Hp} (h : a.length ≤ i) : (Its (S a)).stop i H := by
  show (S a).cps.size ≤ i
  simpa using h
theorem for_S {a : List Nat} {g : TG} {tb : TS} {D : Ends} {σ : L2.St} {H : Hp} (Pv : Nat → L2.St → Hp → Prop) (h0 : Pv 0 σ H)
    (hs : ∀ i c σ H, a[i]? = some c → Pv i σ H → g (.str (S [c])) σ H fun σ2 H2 => tb { D with nx := Pv (i + 1), ct := Pv (i + 1), bk := D.nx } σ2 H2) (hd : ∀ σ H, Pv a.length σ H → D.nx σ H) :
    ∃ W : Nat → Nat → L2.St → Hp → Prop, (∃ m, W 0 m σ H) ∧ ∀ i m σ H, W i m σ H →
      ((Its (S a)).stop i H ∧ D.nx σ H) ∨ ((Its (S a)).go i H ∧ ∃ N : L2.St → Hp → Prop, (∀ σ' H', N σ' H' → ∃ m', m' < m ∧ W (i + 1) m' σ' H') ∧ ∀ x H', (Its (S a)).yld i H x H' → g x σ H' fun σ2 H2 => tb { D with nx := N, ct := N, bk := D.nx } σ2 H2) := by
  refine ⟨fun i m σ H => m = a.length - i ∧ i ≤ a.length ∧ Pv i σ H, ⟨a.length, by simp, Nat.zero_le _, h0⟩, ?_⟩
  rintro i m σ H ⟨rfl, hi, p⟩
  by_cases hlt : i < a.length
  · refine .inr ⟨its_go hlt, Pv (i + 1), fun σ' H' p' => ⟨a.length - (i + 1), by omega, rfl, hlt, p'⟩, fun x H' y => ?_⟩
    obtain ⟨rfl, c, hc, rfl⟩ := its_at y
    exact hs i c σ _ hc p
  · have e : i = a.length := by omega
    subst e
    exact .inl ⟨its_stop (Nat.le_refl _), hd σ H p⟩
theorem lc_S {a : List Nat} {g : TG} {tt : TT} {te : TE} {vs : List Nat} {σ : L2.St} {H1 : Hp} {D : Addr} {Qd : Hp → Prop} (Pv : Nat → Hp → Prop) (h0 : Pv 0 (upd H1 D (.lst [])))
    (hs : ∀ i c H, a[i]? = some c → Pv i H → g (.str (S [c])) (wipe σ vs) H fun σ2 H2 => wipe σ2 vs = wipe σ vs ∧ tt σ2 H2 fun b H3 =>
      if b = true then te σ2 H3 fun y H4 => ∃ acc, H4 D = some (.lst acc) ∧ acc.length < sizeLine ∧ Pv (i + 1) (upd H4 D (.lst (acc ++ [y]))) else Pv (i + 1) H3) (hd : ∀ H, Pv a.length H → Qd H) :
    ∃ W : Nat → Nat → Hp → Prop, (∃ m, W 0 m (upd H1 D (.lst []))) ∧ ∀ i m H, W i m H →
      ((Its (S a)).stop i H ∧ Qd H) ∨ ((Its (S a)).go i H ∧ ∃ Nx : Hp → Prop, (∀ H', Nx H' → ∃ m', m' < m ∧ W (i + 1) m' H') ∧ ∀ x H', (Its (S a)).yld i H x H' → g x (wipe σ vs) H' fun σ2 H2 => wipe σ2 vs = wipe σ vs ∧ tt σ2 H2 fun b H3 =>
        if b = true then te σ2 H3 fun y H4 => ∃ acc, H4 D = some (.lst acc) ∧ acc.length < sizeLine ∧ Nx (upd H4 D (.lst (acc ++ [y]))) else Nx H3) := by
  refine ⟨fun i m H => m = a.length - i ∧ i ≤ a.length ∧ Pv i H, ⟨a.length, by simp, Nat.zero_le _, h0⟩, ?_⟩
  rintro i m H ⟨rfl, hi, p⟩
  by_cases hlt : i < a.length
  · refine .inr ⟨its_go hlt, Pv (i + 1), fun H' p' => ⟨a.length - (i + 1), by omega, rfl, hlt, p'⟩, fun x H' y => ?_⟩
    obtain ⟨rfl, c, hc, rfl⟩ := its_at y
    exact hs i c _ hc p
  · have e : i = a.length := by omega
    subst e
    exact .inl ⟨its_stop (Nat.le_refl _), hd H p⟩
end EH

set_option Elab.async false
set_option linter.all false
set_option maxRecDepth 100000
set_option maxHeartbeats 2000000
/-! EH3: enumerate over a text; words of lists. -/
namespace EH
open PySem PySem.Spec PyProof.Rows L2
open SX (S S_len S_cat S_inj join_S S_tl)
/-- len of a list or a tuple, told by K alone -/
def rLenSq (K : PySem.W.Frag) : List V → Hp → VK → Prop := fun xs H Q => ∃ p ys, xs = [.ref p] ∧ (SqL K H p ys ∨ SqT K H p ys) ∧ Q (.int ys.length) H
/-- the signs of a text, each with its place in a new pair -/
def ItES (x : Str) : It :=
  ⟨fun i _ => i < x.cps.size, fun i H v H' => ∃ T c, v = .ref T ∧ H T = none ∧ H' = upd H T (.tup [.int (i : Nat), .str ⟨#[c]⟩]) ∧ x.cps[i]? = some c, fun i _ => i = x.cps.size⟩
theorem turn_enumS {P : Program} {w : World} {K : PySem.W.Frag} {elts : List Expr} {kk : Nat} {tpos : Pos} (x : Str) (t : Tok) (ty : String) (hty : ty = "str_ascii_iterator" ∨ ty = "str_iterator") (e it : Addr) :
    Turn P w K (.Tuple elts kk tpos) (ItES x) [e, it] e (fun i h => (∃ old, IsEnum h e it ((i : Nat) : Int) old) ∧ h.IsStrIter it ty x t i ∧ e ≠ it) where
  mem := by simp
  obj := fun i h st b hb => by
    obtain ⟨⟨old, he⟩, ⟨o, ho, hc, hd⟩, _⟩ := st
    have e' : b = e ∨ b = it := by simpa using hb
    rcases e' with z | z
    · rw [z]; exact ⟨_, he, fun v q => nomatch q⟩
    · rw [z]; exact ⟨o, ho, fun v q => by rw [hd] at q; cases q⟩
  keep := fun i h h' st k => let ⟨⟨old, he⟩, ⟨o, ho, r⟩, hne⟩ := st; ⟨⟨old, k e (by simp) _ he⟩, ⟨o, k it (by simp) o ho, r⟩, hne⟩
  item := by
    intro X hP hw hK hc i pins s σ H E I hf st hg
    subst hP hw hK
    have D : Draws X.prog X.w X.A.in1 it [it] x.cps.size (fun i v => ∃ c u, x.cps[i]? = some c ∧ v = Value.str ⟨#[c]⟩ u) (fun i h => h.IsStrIter it ty x t i) := by
      rcases hty with e | e
      · rw [e]; exact Draws.strAscii (A := X.A.in1) (show X.A.in1.handled = none from I.ok.hd hc) it x t
      · rw [e]; exact Draws.strWide (A := X.A.in1) (show X.A.in1.handled = none from I.ok.hd hc) it x t
    obtain ⟨⟨old, he⟩, hit, hne⟩ := st
    have hel : e < s.heap.objs.size := Heap.lt_size he
    have hil : it < s.heap.objs.size := by obtain ⟨_, q, _⟩ := hit; exact Heap.lt_size q
    refine wpAny_pyNext_enum_itemD D he hit hg hne (by simpa using hne) fun u h' tk hu ho hit' hT hsz hk => ?_
    obtain ⟨c, tu, hcx, rfl⟩ := hu
    refine ⟨_, rfl, wpAny_letOwnedTupleGo_enum (s := { s with heap := h', toks := tk + 1 }) ho fun h'' he' sb => ?_⟩
    have hT2 : h''.get? s.heap.objs.size = some { cls := .type "tuple", data := .seq #[.int i tk, .str ⟨#[c]⟩ tu] } := (sb.2 _ (Nat.ne_of_gt hel)).trans hT
    have new : ObjOk X.prog X.w (upd H s.heap.objs.size (.tup [.int (i : Nat), .str ⟨#[c]⟩])) h'' s.heap.objs.size (.tup [.int (i : Nat), .str ⟨#[c]⟩]) :=
      ⟨by show 2 ≤ sizeLine; decide, [.int i tk, .str ⟨#[c]⟩ tu], .cons ⟨_, rfl⟩ (.cons ⟨_, rfl⟩ .nil), ⟨_, hT2, rfl, _, rfl⟩⟩
    have I1 : L2.Inv X pins σ (upd H s.heap.objs.size (.tup [.int (i : Nat), .str ⟨#[c]⟩])) { s with heap := h'', toks := tk + 1 } :=
      I.turnedNew (ch := [e, it]) (fun b ob hb q => (sb.2 b (fun z => hb (by simp [z]))).trans (hk b ob (fun z => hb (by simp [z])) (fun z => hb (by simp [z])) q)) hf (Nat.le_refl _) new
    refine ⟨.ref s.heap.objs.size, _, I1, rfl, ⟨_, c, rfl, I.hok.fresh (Nat.le_refl _), rfl, hcx⟩, ⟨⟨.str ⟨#[c]⟩ tu, ?_⟩, ?_, hne⟩, fun b hb => ?_⟩
    · have e1 : ((i + 1 : Nat) : Int) = (i : Int) + 1 := by omega
      rw [e1]; exact he'
    · obtain ⟨o, q1, q2⟩ := hit'
      exact ⟨o, (sb.2 it (Ne.symm hne)).trans q1, q2⟩
    · have hb' : b < s.heap.objs.size := by
        have e' : b = e ∨ b = it := by simpa using hb
        rcases e' with z | z
        · rw [z]; exact hel
        · rw [z]; exact hil
      rw [upd_ne (Nat.ne_of_lt hb')]
      exact (hf b hb).1
  done := by
    intro X hP hw hK hc i pins s σ H E I hf st hg
    subst hP hw hK
    have hi : i = x.cps.size := hg
    subst hi
    have D : Draws X.prog X.w X.A.in1 it [it] x.cps.size (fun i v => ∃ c u, x.cps[i]? = some c ∧ v = Value.str ⟨#[c]⟩ u) (fun i h => h.IsStrIter it ty x t i) := by
      rcases hty with e | e
      · rw [e]; exact Draws.strAscii (A := X.A.in1) (show X.A.in1.handled = none from I.ok.hd hc) it x t
      · rw [e]; exact Draws.strWide (A := X.A.in1) (show X.A.in1.handled = none from I.ok.hd hc) it x t
    obtain ⟨⟨old, he⟩, hit, hne⟩ := st
    obtain ⟨f0, f1, f2, f3, f4, f5⟩ := hf it (by simp)
    exact wpAny_pyNext_enum_endD D he hit fun h' eb => ⟨rfl, I.turned (t' := s.toks) (fun b o hb q => eb b o hb q) f0 f1 f3 f4 f5⟩
  self := fun A i s Q E st h => let ⟨⟨_, he⟩, _⟩ := st; wpAny_pyIter_enum he h
def iEnumS (ta : TA) : TI := fun σ H R => ta σ H fun vs H1 => ∃ a : List Nat, vs = [.str (S a)] ∧ R (ItES (S a)) H1
theorem pi_enumS {X : Cx} {e : Expr} {ta : TA} {p pos tpos : Pos} {elts : List Expr} {kk : Nat} (hg : Gl X "enumerate") (hm : X.mg "enumerate" = none) (ha : PA X [e] ta) (hs : starEach [e] X.env = [(false, eval e X.env)] := by rfl) :
    PI X (.Tuple elts kk tpos) (.Call (.Name "enumerate" p) [e] [] pos) (iEnumS ta) := by
  refine ⟨fun pins s σ H R I h => ?_⟩
  refine Call_ (ld_blt I hg hm boot_enumerate (PyProof.Rows.callWith_type1 (thn (ha.run pos pins s σ H _ I h) fun us s1 ⟨vs, H1, I1, r1, q1⟩ => ?_) hs rfl))
  obtain ⟨a, ex, q⟩ := q1
  subst ex
  obtain ⟨u, rfl, r⟩ := vals1 r1
  obtain ⟨t, rfl⟩ := r
  refine call_enumerate_str fun h' he hit hsz hk => wpAny_pyIter_enum he ?_
  have I2 : L2.Inv X pins σ H1 { s1 with heap := h' } := I1.kept (t' := s1.toks) hk
  have ty : strIterType (S a) = "str_ascii_iterator" ∨ strIterType (S a) = "str_iterator" := by
    unfold strIterType
    split
    · exact .inl rfl
    · exact .inr rfl
  refine ⟨s1.heap.objs.size + 1, [s1.heap.objs.size + 1, s1.heap.objs.size], _, _, H1, rfl, I2, turn_enumS (S a) t _ ty (s1.heap.objs.size + 1) s1.heap.objs.size, ⟨⟨.none, he⟩, hit, Nat.succ_ne_self _⟩, fun b hb => ?_, q⟩
  have e' : b = s1.heap.objs.size + 1 ∨ b = s1.heap.objs.size := by simpa using hb
  have hle : s1.heap.objs.size ≤ b := by
    rcases e' with z | z
    · rw [z]; exact Nat.le_add_right _ _
    · rw [z]; exact Nat.le_refl _
  exact I1.fpOk hle (I1.hok.fresh hle)
/-- each turn's pair: its place and its sign -/
theorem for_ES {K : PySem.W.Frag} {a : List Nat} {g : TG} {tb : TS} {D : Ends} {σ : L2.St} {H : Hp} (Pv : Nat → L2.St → Hp → Prop) (h0 : Pv 0 σ H)
    (hs : ∀ i c σ H T, a[i]? = some c → Pv i σ H → H T = none → g (.ref T) σ (upd H T (.tup [.int (i : Nat), .str (S [c])])) fun σ2 H2 => tb { D with nx := Pv (i + 1), ct := Pv (i + 1), bk := D.nx } σ2 H2) (hd : ∀ σ H, Pv a.length σ H → D.nx σ H) :
    ∃ W : Nat → Nat → L2.St → Hp → Prop, (∃ m, W 0 m σ H) ∧ ∀ i m σ H, W i m σ H →
      ((ItES (S a)).stop i H ∧ D.nx σ H) ∨ ((ItES (S a)).go i H ∧ ∃ N : L2.St → Hp → Prop, (∀ σ' H', N σ' H' → ∃ m', m' < m ∧ W (i + 1) m' σ' H') ∧ ∀ x H', (ItES (S a)).yld i H x H' → g x σ H' fun σ2 H2 => tb { D with nx := N, ct := N, bk := D.nx } σ2 H2) := by
  refine ⟨fun i m σ H => m = a.length - i ∧ i ≤ a.length ∧ Pv i σ H, ⟨a.length, by simp, Nat.zero_le _, h0⟩, ?_⟩
  rintro i m σ H ⟨rfl, hi, p⟩
  by_cases hlt : i < a.length
  · refine .inr ⟨by show i < (S a).cps.size; simpa using hlt, Pv (i + 1), fun σ' H' p' => ⟨a.length - (i + 1), by omega, rfl, hlt, p'⟩, fun x H' y => ?_⟩
    obtain ⟨T, c, rfl, hT, rfl, hc⟩ := y
    exact hs i c σ _ T (by simpa using hc) p hT
  · have e : i = a.length := by omega
    subst e
    exact .inl ⟨by show a.length = (S a).cps.size; simp, hd σ H p⟩
/-- enumerate of a list, in a for and in a comprehension -/
theorem for_E {K : PySem.W.Frag} {a : Addr} {xs : List V} {g : TG} {tb : TS} {D : Ends} {σ : L2.St} {H : Hp} (Pv : Nat → L2.St → Hp → Prop) (h0 : Pv 0 σ H) (hl : ∀ i σ H, i ≤ xs.length → Pv i σ H → SqL K H a xs)
    (hs : ∀ i x σ H T, xs[i]? = some x → Pv i σ H → H T = none → g (.ref T) σ (upd H T (.tup [.int (i : Nat), x])) fun σ2 H2 => tb { D with nx := Pv (i + 1), ct := Pv (i + 1), bk := D.nx } σ2 H2) (hd : ∀ σ H, Pv xs.length σ H → D.nx σ H) :
    ∃ W : Nat → Nat → L2.St → Hp → Prop, (∃ m, W 0 m σ H) ∧ ∀ i m σ H, W i m σ H →
      ((Ite K a).stop i H ∧ D.nx σ H) ∨ ((Ite K a).go i H ∧ ∃ N : L2.St → Hp → Prop, (∀ σ' H', N σ' H' → ∃ m', m' < m ∧ W (i + 1) m' σ' H') ∧ ∀ x H', (Ite K a).yld i H x H' → g x σ H' fun σ2 H2 => tb { D with nx := N, ct := N, bk := D.nx } σ2 H2) := by
  refine ⟨fun i m σ H => m = xs.length - i ∧ i ≤ xs.length ∧ Pv i σ H, ⟨xs.length, by simp, Nat.zero_le _, h0⟩, ?_⟩
  rintro i m σ H ⟨rfl, hi, p⟩
  have q := hl i σ H hi p
  by_cases hlt : i < xs.length
  · refine .inr ⟨⟨xs, xs[i], q, by simp [hlt]⟩, Pv (i + 1), fun σ' H' p' => ⟨xs.length - (i + 1), by omega, rfl, hlt, p'⟩, fun x H' y => ?_⟩
    obtain ⟨T, z, rfl, hT, rfl, hz⟩ := y
    exact hs i z σ _ T (hz xs q) p hT
  · have e : i = xs.length := by omega
    subst e
    exact .inl ⟨⟨xs, q, Nat.le_refl _⟩, hd σ H p⟩
theorem lc_E {K : PySem.W.Frag} {a : Addr} {xs : List V} {g : TG} {tt : TT} {te : TE} {vs : List Nat} {σ : L2.St} {H1 : Hp} {D : Addr} {Qd : Hp → Prop} (Pv : Nat → Hp → Prop) (h0 : Pv 0 (upd H1 D (.lst []))) (hl : ∀ i H, i ≤ xs.length → Pv i H → SqL K H a xs)
    (hs : ∀ i x H T, xs[i]? = some x → Pv i H → H T = none → g (.ref T) (wipe σ vs) (upd H T (.tup [.int (i : Nat), x])) fun σ2 H2 => wipe σ2 vs = wipe σ vs ∧ tt σ2 H2 fun b H3 =>
      if b = true then te σ2 H3 fun y H4 => ∃ acc, H4 D = some (.lst acc) ∧ acc.length < sizeLine ∧ Pv (i + 1) (upd H4 D (.lst (acc ++ [y]))) else Pv (i + 1) H3) (hd : ∀ H, Pv xs.length H → Qd H) :
    ∃ W : Nat → Nat → Hp → Prop, (∃ m, W 0 m (upd H1 D (.lst []))) ∧ ∀ i m H, W i m H →
      ((Ite K a).stop i H ∧ Qd H) ∨ ((Ite K a).go i H ∧ ∃ Nx : Hp → Prop, (∀ H', Nx H' → ∃ m', m' < m ∧ W (i + 1) m' H') ∧ ∀ x H', (Ite K a).yld i H x H' → g x (wipe σ vs) H' fun σ2 H2 => wipe σ2 vs = wipe σ vs ∧ tt σ2 H2 fun b H3 =>
        if b = true then te σ2 H3 fun y H4 => ∃ acc, H4 D = some (.lst acc) ∧ acc.length < sizeLine ∧ Nx (upd H4 D (.lst (acc ++ [y]))) else Nx H3) := by
  refine ⟨fun i m H => m = xs.length - i ∧ i ≤ xs.length ∧ Pv i H, ⟨xs.length, by simp, Nat.zero_le _, h0⟩, ?_⟩
  rintro i m H ⟨rfl, hi, p⟩
  have q := hl i H hi p
  by_cases hlt : i < xs.length
  · refine .inr ⟨⟨xs, xs[i], q, by simp [hlt]⟩, Pv (i + 1), fun H' p' => ⟨xs.length - (i + 1), by omega, rfl, hlt, p'⟩, fun x H' y => ?_⟩
    obtain ⟨T, z, rfl, hT, rfl, hz⟩ := y
    exact hs i z _ T (hz xs q) p hT
  · have e : i = xs.length := by omega
    subst e
    exact .inl ⟨⟨xs, q, Nat.le_refl _⟩, hd H p⟩
end EH

set_option Elab.async false
set_option linter.all false
set_option maxRecDepth 100000
set_option maxHeartbeats 2000000
/-! EH4: min of texts. -/
namespace EH
open PySem PySem.Spec PyProof.Rows L2
open SX (S S_len S_cat S_inj join_S S_tl)
open PySem.W (minD AlikeAll dataLt dataLt_str min_list_data min_tuple_data)
def minW (t : List Nat) (ts : List (List Nat)) : List Nat := ts.foldl (fun m x => if decide (x < m) = true then x else m) t
def TSd (ts : List (List Nat)) : List PyData := ts.map fun t => PyData.str (S t)
theorem readsAll_strs {h : Heap} : ∀ {ts : List (List Nat)} {its : List Value}, Vals (ts.map fun x => V.str (S x)) its → ∃ as, ReadsAll h its (TSd ts) as
  | [], its, r => by
    rw [List.map_nil] at r
    cases r
    exact ⟨_, .nil⟩
  | t :: ts, its, r => by
    rw [List.map_cons] at r
    cases r with
    | cons r1 r2 =>
      obtain ⟨tk, rfl⟩ := r1
      obtain ⟨as, ih⟩ := readsAll_strs (h := h) r2
      exact ⟨_, .cons (.str _ _) ih⟩
theorem minD_strs : ∀ (ts : List (List Nat)) (t : List Nat), minD (.str (S t)) (TSd ts) = .str (S (minW t ts))
  | [], t => rfl
  | x :: ts, t => by
    unfold minD minW TSd
    rw [List.map_cons, List.foldl_cons, List.foldl_cons]
    have e : dataLt (.str (S x)) (.str (S t)) = decide (x < t) := by
      rw [dataLt_str]
    rw [e]
    by_cases h : x < t
    · rw [decide_eq_true h]
      exact minD_strs ts x
    · rw [decide_eq_false h]
      exact minD_strs ts t
theorem alike_strs (ts : List (List Nat)) : AlikeAll (TSd ts) := by
  refine ⟨fun x hx y hy => ?_, fun x hx => ?_⟩
  · obtain ⟨a, _, rfl⟩ := List.mem_map.mp hx
    obtain ⟨b, _, rfl⟩ := List.mem_map.mp hy
    rfl
  · obtain ⟨a, _, rfl⟩ := List.mem_map.mp hx
    exact nofun
theorem depth_strs : ∀ ts : List (List Nat), PyData.depthAll (TSd ts) = 0
  | [] => by simp only [TSd, List.map_nil, PyData.depthAll]
  | t :: ts => by
    have ih := depth_strs ts
    unfold TSd at ih ⊢
    simp only [List.map_cons, PyData.depthAll, PyData.depth, ih, Nat.max_self]
/-- min of a list, of a tuple of texts -/
theorem cr_minS {X : Cx} (hc : X.calm = true) (hu : X.A.units + 64 < cLine) : CallR X (.builtin "min") (fun xs H Q => ∃ (a : Addr) (t : List Nat) (ts : List (List Nat)), xs = [.ref a] ∧
    (SqL X.K H a ((t :: ts).map fun x => V.str (S x)) ∨ SqT X.K H a ((t :: ts).map fun x => V.str (S x))) ∧ Q (.str (S (minW t ts))) H) := by
  intro pins s σ H vs us Q I r h
  obtain ⟨a, t, ts, rfl, hs, q⟩ := h
  rw [Vals.ref1 r]
  have dp := depth_strs (t :: ts)
  have fin : ∀ (v : Value) (h' : Heap) (tk : Nat) (bs : List Addr), Reads h' v (minD (.str (S t)) (TSd ts)) bs → (∀ b o, s.heap.get? b = some o → h'.get? b = some o) → EP X pins σ Q v { s with heap := h', toks := tk } := by
    intro v h' tk bs hr hk
    rw [minD_strs] at hr
    cases hr with
    | str x t' => exact ⟨.str _, H, I.kept hk, ⟨_, rfl⟩, q⟩
  rcases hs with hs | hs
  · obtain ⟨its, rv, hl, _⟩ := I.list hs
    obtain ⟨as, ra⟩ := readsAll_strs (h := s.heap) rv
    exact min_list_data (x := .str (S t)) (xs := TSd ts) (I.ok.hd hc) hl.isList ra (alike_strs (t :: ts)) (by show _ + 1 + PyData.depthAll (TSd (t :: ts)) < _; rw [dp]; omega) fun i v h' tk bs _ hr hk => fin v h' tk bs hr hk
  · obtain ⟨its, rv, hl, _⟩ := I.tuple hs
    obtain ⟨as, ra⟩ := readsAll_strs (h := s.heap) rv
    exact min_tuple_data (x := .str (S t)) (xs := TSd ts) (I.ok.hd hc) hl ra (alike_strs (t :: ts)) (by show _ + 1 + PyData.depthAll (TSd (t :: ts)) < _; rw [dp]; omega) fun i v h' tk bs _ hr hk => fin v h' tk bs hr hk
end EH

set_option Elab.async false
set_option linter.all false
set_option maxRecDepth 100000
set_option maxHeartbeats 4000000
namespace EH
open PySem PySem.Spec PyProof.Rows L2
def top (i : Nat) : Stmt := PySem.Challenge.pw_everyhalf_k14_names_by_own_turning.main.body.getD i (.Pass ⟨0, 0, 0, 0⟩)

structure Txt (K : PySem.W.Frag) (mg : Str → Option Value) : Prop where
  n_int : mg "int" = none
  n_len : mg "len" = none
  n_abs : mg "abs" = none
  n_range : mg "range" = none
  n_isinstance : mg "isinstance" = none
  n_repr : mg "repr" = none
  n_str : mg "str" = none
  n_bool : mg "bool" = none
  n_enumerate : mg "enumerate" = none
  n_list : mg "list" = none
  n_tuple : mg "tuple" = none
  n_min : mg "min" = none
  c_MOST_PAIRS : Cst mg "MOST_PAIRS" (.int 200)
abbrev s_is_integer : Stmt := top 7
abbrev N_is_integer : List Str := ["value"]
theorem sc_is_integer : FnScope N_is_integer ["value"] (defScope s_is_integer) :=
  ⟨rfl, rfl, rfl, by decide +kernel, rfl, by decide +kernel, by decide +kernel⟩
abbrev s_is_within : Stmt := top 8
abbrev N_is_within : List Str := ["value", "least", "most"]
theorem sc_is_within : FnScope N_is_within ["value", "least", "most"] (defScope s_is_within) :=
  ⟨rfl, rfl, rfl, by decide +kernel, rfl, by decide +kernel, by decide +kernel⟩
abbrev s_is_signs : Stmt := top 9
abbrev N_is_signs : List Str := ["value"]
theorem sc_is_signs : FnScope N_is_signs ["value"] (defScope s_is_signs) :=
  ⟨rfl, rfl, rfl, by decide +kernel, rfl, by decide +kernel, by decide +kernel⟩
abbrev s_check_number : Stmt := top 10
abbrev N_check_number : List Str := ["value", "least", "most", "part"]
theorem sc_check_number : FnScope N_check_number ["value", "least", "most", "part"] (defScope s_check_number) :=
  ⟨rfl, rfl, rfl, by decide +kernel, rfl, by decide +kernel, by decide +kernel⟩
abbrev s_check_pairs : Stmt := top 11
abbrev N_check_pairs : List Str := ["pairs"]
theorem sc_check_pairs : FnScope N_check_pairs ["pairs"] (defScope s_check_pairs) :=
  ⟨rfl, rfl, rfl, by decide +kernel, rfl, by decide +kernel, by decide +kernel⟩
abbrev s_is_word : Stmt := top 13
abbrev N_is_word : List Str := ["value", "height", "sign"]
theorem sc_is_word : FnScope N_is_word ["value"] (defScope s_is_word) :=
  ⟨rfl, rfl, rfl, by decide +kernel, rfl, by decide +kernel, by decide +kernel⟩
abbrev s_check_word : Stmt := top 14
abbrev N_check_word : List Str := ["value", "part"]
theorem sc_check_word : FnScope N_check_word ["value", "part"] (defScope s_check_word) :=
  ⟨rfl, rfl, rfl, by decide +kernel, rfl, by decide +kernel, by decide +kernel⟩
abbrev s_gaps_of : Stmt := top 17
abbrev N_gaps_of : List Str := ["word", "gaps", "still_open", "at", "sign", "start"]
theorem sc_gaps_of : FnScope N_gaps_of ["word"] (defScope s_gaps_of) :=
  ⟨rfl, rfl, rfl, by decide +kernel, rfl, by decide +kernel, by decide +kernel⟩
abbrev s_moved_round : Stmt := top 18
abbrev N_moved_round : List Str := ["items", "many", "start"]
theorem sc_moved_round : FnScope N_moved_round ["items", "many"] (defScope s_moved_round) :=
  ⟨rfl, rfl, rfl, by decide +kernel, rfl, by decide +kernel, by decide +kernel⟩
abbrev s_word_of_gaps : Stmt := top 19
abbrev N_word_of_gaps : List Str := ["gaps", "at", "gap"]
theorem sc_word_of_gaps : FnScope N_word_of_gaps ["gaps"] (defScope s_word_of_gaps) :=
  ⟨rfl, rfl, rfl, by decide +kernel, rfl, by decide +kernel, by decide +kernel⟩
abbrev s_period : Stmt := top 15
abbrev N_period : List Str := ["word", "gaps", "many"]
theorem sc_period : FnScope N_period ["word"] (defScope s_period) :=
  ⟨rfl, rfl, rfl, by decide +kernel, rfl, by decide +kernel, by decide +kernel⟩
abbrev s_turns_of : Stmt := top 16
abbrev N_turns_of : List Str := ["word", "many", "gaps", "turns"]
theorem sc_turns_of : FnScope N_turns_of ["word"] (defScope s_turns_of) :=
  ⟨rfl, rfl, rfl, by decide +kernel, rfl, by decide +kernel, by decide +kernel⟩
abbrev s_name_of : Stmt := top 21
abbrev N_name_of : List Str := ["word"]
theorem sc_name_of : FnScope N_name_of ["word"] (defScope s_name_of) :=
  ⟨rfl, rfl, rfl, by decide +kernel, rfl, by decide +kernel, by decide +kernel⟩
abbrev s_are_one_tree : Stmt := top 22
abbrev N_are_one_tree : List Str := ["one", "other"]
theorem sc_are_one_tree : FnScope N_are_one_tree ["one", "other"] (defScope s_are_one_tree) :=
  ⟨rfl, rfl, rfl, by decide +kernel, rfl, by decide +kernel, by decide +kernel⟩
abbrev s_star : Stmt := top 23
abbrev N_star : List Str := ["pairs"]
theorem sc_star : FnScope N_star ["pairs"] (defScope s_star) :=
  ⟨rfl, rfl, rfl, by decide +kernel, rfl, by decide +kernel, by decide +kernel⟩
abbrev s_line : Stmt := top 24
abbrev N_line : List Str := ["pairs"]
theorem sc_line : FnScope N_line ["pairs"] (defScope s_line) :=
  ⟨rfl, rfl, rfl, by decide +kernel, rfl, by decide +kernel, by decide +kernel⟩
abbrev s__law_badge : Stmt := top 26
abbrev N__law_badge : List Str := ["script", "cell"]
theorem sc__law_badge : FnScope N__law_badge ["script"] (defScope s__law_badge) :=
  ⟨rfl, rfl, rfl, by decide +kernel, rfl, by decide +kernel, by decide +kernel⟩
abbrev s__law_pin : Stmt := top 27
abbrev N__law_pin : List Str := ["badge", "many", "left", "turn", "cell", "mixed"]
theorem sc__law_pin : FnScope N__law_pin ["badge", "many"] (defScope s__law_pin) :=
  ⟨rfl, rfl, rfl, by decide +kernel, rfl, by decide +kernel, by decide +kernel⟩
abbrev s__law_one_of : Stmt := top 28
abbrev N__law_one_of : List Str := ["badge", "some"]
theorem sc__law_one_of : FnScope N__law_one_of ["badge", "some"] (defScope s__law_one_of) :=
  ⟨rfl, rfl, rfl, by decide +kernel, rfl, by decide +kernel, by decide +kernel⟩
abbrev s__law_word : Stmt := top 29
abbrev N__law_word : List Str := ["badge", "pairs", "lean", "signs", "ones", "deep", "place", "is_up"]
theorem sc__law_word : FnScope N__law_word ["badge", "pairs"] (defScope s__law_word) :=
  ⟨rfl, rfl, rfl, by decide +kernel, rfl, by decide +kernel, by decide +kernel⟩
abbrev s__law_turned : Stmt := top 30
abbrev N__law_turned : List Str := ["word", "deep", "at"]
theorem sc__law_turned : FnScope N__law_turned ["word"] (defScope s__law_turned) :=
  ⟨rfl, rfl, rfl, by decide +kernel, rfl, by decide +kernel, by decide +kernel⟩
abbrev s__law_turns : Stmt := top 31
abbrev N__law_turns : List Str := ["word", "found", "each"]
theorem sc__law_turns : FnScope N__law_turns ["word"] (defScope s__law_turns) :=
  ⟨rfl, rfl, rfl, by decide +kernel, rfl, by decide +kernel, by decide +kernel⟩
abbrev s_law : Stmt := top 32
abbrev N_law : List Str := ["script", "badge", "turn", "pairs", "word", "turns", "each", "other", "due"]
theorem sc_law : FnScope N_law ["script"] (defScope s_law) :=
  ⟨rfl, rfl, rfl, by decide +kernel, rfl, by decide +kernel, by decide +kernel⟩
/-! ### the drawing object: a list of the cells, how many were begun, what is left -/
/-- at g stands what draws, at most n cells begun -/
def GA (H : Hp) (g : Addr) (n : Nat) : Prop :=
  ∃ (c : Addr) (cs : List Int) (b : Nat) (r : Int), H g = some (.lst [.ref c, .int b, .int r]) ∧ H c = some (.lst (cs.map V.int)) ∧ c ≠ g ∧ b ≤ n ∧ 0 ≤ r
theorem GA.mono {H : Hp} {g : Addr} {n m : Nat} (h : GA H g n) (l : n ≤ m) : GA H g m := by
  obtain ⟨c, cs, b, r, h1, h2, h3, h4, h5⟩ := h
  exact ⟨c, cs, b, r, h1, h2, h3, Nat.le_trans h4 l, h5⟩
/-- g's cells stand at c -/
def Ce (H : Hp) (g c : Addr) : Prop := ∃ b r : Int, H g = some (.lst [.ref c, .int b, .int r])
theorem Ce.upd {H : Hp} {g c : Addr} {x y b r : Int} (h : H g = some (.lst [.ref c, .int x, .int y])) : ∀ d, Ce H g d → Ce (upd H g (.lst [.ref c, .int b, .int r])) g d := fun d ⟨_, _, e⟩ => by
  rw [h] at e
  cases e
  exact ⟨_, _, upd_same⟩
/-- all that was tracked is as it was, but what stands at g -/
structure Fm (g : Addr) (H H' : Hp) : Prop where
  k : ∀ b o, b ≠ g → H b = some o → H' b = some o
  c : ∀ d, Ce H g d → Ce H' g d
instance {g : Addr} {H H' : Hp} : CoeFun (Fm g H H') (fun _ => ∀ b o, b ≠ g → H b = some o → H' b = some o) := ⟨Fm.k⟩
theorem Fm.refl (g : Addr) (H : Hp) : Fm g H H := ⟨fun _ _ _ h => h, fun _ h => h⟩
theorem Fm.trans {g : Addr} {H H1 H2 : Hp} (a : Fm g H H1) (b : Fm g H1 H2) : Fm g H H2 := ⟨fun c o n h => b.k c o n (a.k c o n h), fun d h => b.c d (a.c d h)⟩
theorem Fm.of {g : Addr} {H H' : Hp} (s : Same H H') : Fm g H H' := ⟨fun c o _ h => s c o h, fun d ⟨b, r, e⟩ => ⟨b, r, s _ _ e⟩⟩
theorem Fm.upd {g : Addr} {H : Hp} {o : HO} (k : ∀ d, Ce H g d → Ce (upd H g o) g d) : Fm g H (upd H g o) := ⟨fun c u n h => by
  rw [upd_ne n]
  exact h, k⟩
theorem Fm.new {g : Addr} {H : Hp} {p : Addr} {o : HO} (h : H p = none) : Fm g H (L2.upd H p o) := Fm.of fun b x e => by
  rw [upd_ne (ne_of_none e h)]
  exact e
/-- where the cells stand, apart from what isn't there yet -/
theorem GA.off {H : Hp} {g D : Addr} {n : Nat} (h : GA H g n) (hD : H D = none) : ∃ c, Ce H g c ∧ D ≠ c := by
  obtain ⟨c, cs, b, r, h1, h2, h3, h4, h5⟩ := h
  exact ⟨c, ⟨_, _, h1⟩, fun e => by subst e; rw [hD] at h2; cases h2⟩
theorem GA.put {H : Hp} {g D c : Addr} {n : Nat} {o : HO} (h : GA H g n) (k : Ce H g c) (nc : D ≠ c) (ng : D ≠ g) : GA (L2.upd H D o) g n := by
  obtain ⟨c', cs, b, r, h1, h2, h3, h4, h5⟩ := h
  obtain ⟨b', r', e⟩ := k
  rw [h1] at e
  cases e
  exact ⟨c, cs, b, r, by rw [upd_ne (Ne.symm ng)]; exact h1, by rw [upd_ne (Ne.symm nc)]; exact h2, h3, h4, h5⟩
theorem Ce.put {H : Hp} {g D c : Addr} {o : HO} (k : Ce H g c) (ng : D ≠ g) : Ce (L2.upd H D o) g c := by
  obtain ⟨b', r', e⟩ := k
  exact ⟨b', r', by rw [upd_ne (Ne.symm ng)]; exact e⟩
theorem GA.new {H : Hp} {g p : Addr} {n : Nat} {o : HO} (h : GA H g n) (hp : H p = none) : GA (upd H p o) g n := by
  obtain ⟨c, cs, b, r, h1, h2, h3, h4, h5⟩ := h
  exact ⟨c, cs, b, r, by rw [upd_ne (ne_of_none h1 hp)]; exact h1, by rw [upd_ne (ne_of_none h2 hp)]; exact h2, h3, h4, h5⟩
theorem GA.same {H H' : Hp} {g : Addr} {n : Nat} (h : GA H g n) (s : Same H H') : GA H' g n := by
  obtain ⟨c, cs, b, r, h1, h2, h3, h4, h5⟩ := h
  exact ⟨c, cs, b, r, s _ _ h1, s _ _ h2, h3, h4, h5⟩
theorem same_new {H : Hp} {p : Addr} {o : HO} (h : H p = none) : Same H (upd H p o) := fun b x e => by
  rw [upd_ne (ne_of_none e h)]
  exact e
theorem Fm.none {g : Addr} {H H' : Hp} (h : Fm g H H') (hg : H g ≠ Option.none) {p : Addr} (hp : H' p = Option.none) (hg' : H' g ≠ Option.none) : H p = Option.none := by
  cases e : H p with
  | none => rfl
  | some o =>
    by_cases q : p = g
    · subst q
      exact absurd hp hg'
    · rw [h.k p o q e] at hp
      cases hp
theorem GA.some {H : Hp} {g : Addr} {n : Nat} (h : GA H g n) : H g ≠ Option.none := by
  obtain ⟨c, cs, b, r, h1, _⟩ := h
  rw [h1]
  exact Option.some_ne_none _
theorem Fm.sq {K : PySem.W.Frag} {g : Addr} {H H' : Hp} {a : Addr} {xs : List V} (h : Fm g H H') (n : a ≠ g) (s : SqL K H a xs) : SqL K H' a xs := by
  rcases s with (s | ⟨o, s⟩) | s
  · exact .inl (.inl (h.k _ _ n s))
  · exact .inl (.inr ⟨o, h.k _ _ n s⟩)
  · exact .inr s
theorem Fm.sqT {K : PySem.W.Frag} {g : Addr} {H H' : Hp} {a : Addr} {xs : List V} (h : Fm g H H') (n : a ≠ g) (s : SqT K H a xs) : SqT K H' a xs := by
  rcases s with (s | ⟨o, s⟩) | s
  · exact .inl (.inl (h.k _ _ n s))
  · exact .inl (.inr ⟨o, h.k _ _ n s⟩)
  · exact .inr s
def spGauge (K : PySem.W.Frag) : Sp := fun vs H Q _ => ∃ (a : Addr) (ns : List Int), vs = [.ref a] ∧ SqL K H a (ns.map V.int) ∧ ns.length ≤ 63 ∧
  ∀ (g : Addr) (H' : Hp), Same H H' → H g = none → GA H' g 0 → Q (.ref g) H'
def spTick : Sp := fun vs H Q _ => ∃ (g : Addr) (n : Nat) (m : Int), vs = [.ref g, .int m] ∧ GA H g n ∧ n < 1000000 ∧ 0 < m ∧ m.natAbs < 2 ^ 2000 ∧
  ∀ (H' : Hp) (v : Int), 0 ≤ v → v < m → Fm g H H' → GA H' g (n + 1) → Q (.int v) H'
def spDial (K : PySem.W.Frag) : Sp := fun vs H Q _ => ∃ (g a : Addr) (n : Nat) (xs : List V), vs = [.ref g, .ref a] ∧ GA H g n ∧ n < 1000000 ∧ SqL K H a xs ∧ a ≠ g ∧ 0 < xs.length ∧ xs.length < 1000 ∧
  ∀ (H' : Hp) (v : V), v ∈ xs → Fm g H H' → GA H' g (n + 1) → Q v H'
theorem cut_upto (xs : List V) (k : Nat) : cutV xs none (some (k : Int)) = xs.take k := by
  unfold cutV
  rw [HT.sIx_none, show HT.sIx xs.length xs.length (some (k : Int)) = min k xs.length from HT.sIx_nat xs.length xs.length k, List.drop_zero, Nat.sub_zero]
  rcases Nat.le_total k xs.length with h | h
  · rw [Nat.min_eq_left h]
  · rw [Nat.min_eq_right h, List.take_of_length_le (Nat.le_refl _), List.take_of_length_le h]
theorem natAbs_pow_lt {x : Int} {b : Int} (h0 : 0 ≤ x) (h1 : x < b) : x.natAbs < b.toNat := by omega
section
variable {P : Program} {w : World} {K : PySem.W.Frag} {mg : Str → Option Value} {base : Heap}
theorem ok__law_badge {f : Addr} {fd : FuncData} (F : Fun K "_law_badge" "_law_badge" s__law_badge f fd) (T : Txt K mg) : FnOk P w K mg base CX0 1 f fd ["script"] (spGauge K) := by
  have nd := sc__law_badge.nd
  refine F.ok sc__law_badge (fun vs H Q E h => ?_) (fun cdv A outer s H vs Q E hr h => ?_)
  · obtain ⟨a, ns, rfl, _⟩ := h
    rfl
  · obtain ⟨a, ns, rfl, hS, hl, q⟩ := h
    refine ⟨_, (pss_one (ps_ret (pe_lst (pa_cons (pe_lc (own := [("cell", 1)]) rfl nd (pi_list (pe_slice sl_list (pv 0) po_none (po_some pe_int))) (blkOk_by (N := N__law_badge) (sc := defScope s__law_badge) (by decide +kernel)) (fun _ _ _ _ _ => (pg_name (i := 1) nd rfl (by first | exact Or.inl rfl | exact Or.inr rfl))) (fun _ _ _ _ _ => pts_nil) (fun _ _ _ _ _ => (pe_callTy call_int1 (by rfl) T.n_int (by decide +kernel) (pa_cons (pv 1) pa_nil)))) (pa_cons pe_int (pa_cons pe_int pa_nil)))))), ?_⟩
    refine ⟨_, rfl, _, rfl, a, _, rfl, hS, fun p np => ?_⟩
    have e60 : cutV (ns.map V.int) none (some (60 : Int)) = (ns.take 60).map V.int := by
      rw [List.map_take]
      exact cut_upto (ns.map V.int) 60
    rw [e60]
    have hcl : (ns.take 60).length ≤ 60 := List.length_take_le ..
    generalize ns.take 60 = cs at hcl ⊢
    refine ⟨p, rfl, ⟨_, SqL.of upd_same⟩, fun D nD => ?_⟩
    have s1 : Same H (upd H p (.lst (cs.map V.int))) := same_new np
    have npD : p ≠ D := fun e => by
      rw [← e, upd_same] at nD
      cases nD
    refine lc_list (K := K) (a := p) (xs := cs.map V.int) (fun i H' => Same H H' ∧ H' p = some (.lst (cs.map V.int)) ∧ H' D = some (.lst ((cs.take i).map V.int)))
      ⟨s1.trans (same_new nD), by rw [upd_ne npD]; exact upd_same, upd_same⟩ (fun i H' _ h => SqL.of h.2.1) ?_ ?_
    · rintro i x H' hx ⟨sm, hp, hD⟩
      have hi : i < cs.length := by
        have := (List.getElem?_eq_some_iff.mp hx).1
        rw [List.length_map] at this
        exact this
      have ex : x = .int cs[i] := by
        rw [List.getElem?_map, List.getElem?_eq_getElem hi] at hx
        exact (Option.some.inj hx).symm
      subst ex
      refine ⟨rfl, ?_⟩
      dsimp only [tYes]
      rw [if_pos rfl]
      refine ⟨_, rfl, .inl ⟨_, rfl, _, hD, ?_, ?_⟩⟩
      · rw [List.length_map, List.length_take]
        exact Nat.lt_of_le_of_lt (Nat.min_le_right _ _) (small1000 (by omega))
      · refine ⟨fun b o e => ?_, by rw [upd_ne npD]; exact hp, ?_⟩
        · have nb : b ≠ D := fun z => by
            subst z
            rw [same_new np _ _ e] at nD
            cases nD
          rw [upd_ne nb]
          exact sm _ _ e
        · rw [upd_same, List.take_add_one, List.getElem?_eq_getElem hi, List.map_append]
          rfl
    · rintro H' ⟨sm, hp, hD⟩
      refine ⟨by show 3 ≤ sizeLine; decide, fun g ng => ?_⟩
      have ncg : D ≠ g := ne_of_none hD ng
      have eD : (cs.take (cs.map V.int).length).map V.int = cs.map V.int := by
        rw [List.length_map, List.take_length]
      refine q g _ (sm.trans (same_new ng)) (sm.free ng) ⟨D, cs, 0, 0, upd_same, ?_, ncg, Nat.le_refl _, by decide⟩
      rw [upd_ne ncg, hD, eD]

theorem ok__law_pin {f : Addr} {fd : FuncData} (F : Fun K "_law_pin" "_law_pin" s__law_pin f fd) (T : Txt K mg) : FnOk P w K mg base CX0 1 f fd ["badge", "many"] spTick := by
  have nd := sc__law_pin.nd
  refine F.ok sc__law_pin (fun vs H Q E h => ?_) (fun cdv A outer s H vs Q E hr h => ?_)
  · obtain ⟨g, n, m, rfl, _⟩ := h
    rfl
  · obtain ⟨g, n, m, rfl, ⟨c, cs, b, r, hg, hc, ncg, hb, hr0⟩, hn, hm0, hm1, q⟩ := h
    have hu64 := hr.units
    have nmod : ∀ x : Int, 0 ≤ x % m := fun x => Int.emod_nonneg _ (by omega)
    have lmod : ∀ x : Int, x % m < m := fun x => Int.emod_lt_of_pos _ hm0
    have wd : ∀ x : Int, CDivW x m := fun x => wide_div hm0 hm1 (by decide) (by decide)
    have ix2 : ∀ (b r : Int), atI [V.ref c, V.int b, V.int r] 2 = some (V.int r) := fun _ _ => rfl
    have ix1 : ∀ (b r : Int), atI [V.ref c, V.int b, V.int r] 1 = some (V.int b) := fun _ _ => rfl
    have ix0 : ∀ (b r : Int), atI [V.ref c, V.int b, V.int r] 0 = some (V.ref c) := fun _ _ => rfl
    refine ⟨_, (pss_cons (ps_if (pt_cmpR op_gt (pe_ix (show IxR _ (rIxL K) from ix_list) (pv 0) pe_int (fun _ _ => rfl)) pe_int (nomark _))
 (pss_cons (ps_set (i := 2) nd rfl (by first | exact Or.inl rfl | exact Or.inr rfl) (pe_callTy call_int1 (by rfl) T.n_int (by decide +kernel) (pa_cons (pe_ix (show IxR _ (rIxL K) from ix_list) (pv 0) pe_int (fun _ _ => rfl)) pa_nil)))
 (pss_cons (ps_asg (pe_op op_fdivW (pv 2) (pv 1)) (pg_sub (pv 0) pe_int set_list))
 (pss_one (ps_ret (pe_op op_mod (pe_callTy call_int1 (by rfl) T.n_int (by decide +kernel) (pa_cons (pv 2) pa_nil)) (pv 1))))))
 pss_nil)
 (pss_cons (ps_set (i := 3) nd rfl (by first | exact Or.inl rfl | exact Or.inr rfl) (pe_ix (show IxR _ (rIxL K) from ix_list) (pv 0) pe_int (fun _ _ => rfl)))
 (pss_cons (ps_asg (pe_op op_add (pv 3) pe_int) (pg_sub (pv 0) pe_int set_list))
 (pss_cons (ps_set (i := 4) nd rfl (by first | exact Or.inl rfl | exact Or.inr rfl) (pe_op op_add (pe_op op_mul pe_int (pv 3)) pe_int))
 (pss_cons (ps_if (pt_cmpR (op_neD hu64) (pe_ix (show IxR _ (rIxL K) from ix_list) (pv 0) pe_int (fun _ _ => rfl)) (pe_lst pa_nil) (nomark _))
 (pss_one (ps_set (i := 4) nd rfl (by first | exact Or.inl rfl | exact Or.inr rfl) (pe_ix (show IxR _ (rIxL K) from ix_list) (pe_ix (show IxR _ (rIxL K) from ix_list) (pv 0) pe_int (fun _ _ => rfl)) (pe_op op_mod (pe_callTy call_int1 (by rfl) T.n_int (by decide +kernel) (pa_cons (pv 3) pa_nil)) (pe_callB (show CallR _ (.builtin "len") (rLenSq K) from call_len_seq) (by rfl) T.n_len (by decide +kernel) (pa_cons (pe_ix (show IxR _ (rIxL K) from ix_list) (pv 0) pe_int (fun _ _ => rfl)) pa_nil))) (fun _ _ => rfl))))
 pss_nil)
 (pss_cons (ps_if (PW.pt (pw_and (pt_cmpR op_lt (pv 3) (pe_callB (show CallR _ (.builtin "len") (rLenSq K) from call_len_seq) (by rfl) T.n_len (by decide +kernel) (pa_cons (pe_ix (show IxR _ (rIxL K) from ix_list) (pv 0) pe_int (fun _ _ => rfl)) pa_nil)) (nomark _)) (pw_and1 (pt_cmpR op_ge (pe_callB call_abs (by rfl) T.n_abs (by decide +kernel) (pa_cons (pv 4) pa_nil)) (pe_op op_pow pe_int pe_int) (nomark _)))))
 (pss_cons (ps_set (i := 2) nd rfl (by first | exact Or.inl rfl | exact Or.inr rfl) (pe_op op_add (pe_op op_mul pe_int (pe_op op_sub (pe_callB call_abs (by rfl) T.n_abs (by decide +kernel) (pa_cons (pe_callTy call_int1 (by rfl) T.n_int (by decide +kernel) (pa_cons (pv 4) pa_nil)) pa_nil)) (pe_op op_pow pe_int pe_int))) (pe_callTy call_int1 (by rfl) T.n_int (by decide +kernel) (pa_cons (pe_cmpR op_lt (pv 4) pe_int (nomark _)) pa_nil))))
 (pss_cons (ps_asg (pe_op op_fdivW (pv 2) (pv 1)) (pg_sub (pv 0) pe_int set_list))
 (pss_one (ps_ret (pe_op op_mod (pe_callTy call_int1 (by rfl) T.n_int (by decide +kernel) (pa_cons (pv 2) pa_nil)) (pv 1))))))
 pss_nil)
 (pss_cons (ps_set (i := 5) nd rfl (by first | exact Or.inl rfl | exact Or.inr rfl) (pe_op op_mod (pe_callTy call_int1 (by rfl) T.n_int (by decide +kernel) (pa_cons (pe_op op_pow (pe_op op_add (pe_op op_add (pe_op op_mod (pe_callTy call_int1 (by rfl) T.n_int (by decide +kernel) (pa_cons (pv 4) pa_nil)) pe_int) (pe_op op_mul pe_int (pv 3))) pe_int) pe_int) pa_nil)) pe_int))
 (pss_cons (ps_set (i := 5) nd rfl (by first | exact Or.inl rfl | exact Or.inr rfl) (pe_op op_mod (pe_callTy call_int1 (by rfl) T.n_int (by decide +kernel) (pa_cons (pe_op op_pow (pe_op op_add (pe_op op_add (pe_op op_mul (pv 5) (pe_op op_add (pe_op op_mul pe_int (pv 3)) pe_int)) (pe_op op_mul (pe_op op_mul pe_int (pv 3)) (pv 3))) pe_int) pe_int) pa_nil)) pe_int))
 (pss_one (ps_ret (pe_op op_mod (pe_callTy call_int1 (by rfl) T.n_int (by decide +kernel) (pa_cons (pe_op op_fdiv (pv 5) pe_int) pa_nil)) (pv 1)))))))))))), ?_⟩
    -- what is left of a great cell
    refine ⟨_, rfl, g, _, _, _, rfl, rfl, SqL.of hg, ix2 _ _, _, _, rfl, rfl, _, rfl, ?_⟩
    refine ite2 (fun e => ?_) (fun e => ?_)
    · refine ⟨_, rfl, g, _, _, _, rfl, rfl, SqL.of hg, ix2 _ _, .inl ⟨_, rfl, ?_⟩⟩
      first
        | refine ⟨_, rfl, _, rfl, _, _, rfl, rfl, wd r, _, rfl, g, _, _, 2, rfl, rfl, hg, rfl, ?_⟩
        | refine ⟨_, rfl, .inl ⟨_, rfl, _, rfl, _, _, rfl, rfl, wd r, _, rfl, g, _, _, 2, rfl, rfl, hg, rfl, ?_⟩⟩
      refine ⟨_, rfl, .inl ⟨_, rfl, _, rfl, _, _, rfl, rfl, hm0, ?_⟩⟩
      refine q _ _ (nmod _) (lmod _) (Fm.upd (Ce.upd hg)) ⟨c, cs, b, r / m, upd_same, ?_, ncg, by omega, Int.ediv_nonneg hr0 (by omega)⟩
      rw [upd_ne ncg]
      exact hc
    -- the next cell
    refine ⟨_, rfl, g, _, _, _, rfl, rfl, SqL.of hg, ix1 _ _, ?_⟩
    refine ⟨_, rfl, _, _, rfl, rfl, _, rfl, g, _, _, 1, rfl, rfl, hg, rfl, ?_⟩
    have hg1 : (upd H g (.lst [.ref c, .int ((b : Int) + 1), .int r])) g = some (.lst [.ref c, .int ((b : Int) + 1), .int r]) := upd_same
    have hc1 : (upd H g (.lst [.ref c, .int ((b : Int) + 1), .int r])) c = some (.lst (cs.map V.int)) := by
      rw [upd_ne ncg]
      exact hc
    have fm1 : Fm g H (upd H g (.lst [.ref c, .int ((b : Int) + 1), .int r])) := Fm.upd (Ce.upd hg)
    show tSeq _ _ _ _ (upd H g (.lst [.ref c, .int ((b : Int) + 1), .int r]))
    generalize upd H g (.lst [.ref c, .int ((b : Int) + 1), .int r]) = H1 at hg1 hc1 fm1 ⊢
    -- the cell that the place alone tells
    refine ⟨_, rfl, _, _, rfl, rfl, .inl (by omega), _, _, rfl, rfl, ?_⟩
    -- where there are cells: that one
    refine ⟨_, rfl, g, _, _, _, rfl, rfl, SqL.of hg1, ix0 _ _, Nat.zero_le _, fun l nl => ?_⟩
    have hg2 : (upd H1 l (.lst [])) g = some (.lst [.ref c, .int ((b : Int) + 1), .int r]) := by
      rw [upd_ne (ne_of_none hg1 nl)]
      exact hg1
    have hc2 : (upd H1 l (.lst [])) c = some (.lst (cs.map V.int)) := by
      rw [upd_ne (ne_of_none hc1 nl)]
      exact hc1
    have hl2 : (upd H1 l (.lst [])) l = some (.lst []) := upd_same
    have fm2 : Fm g H (upd H1 l (.lst [])) := fm1.trans (Fm.new nl)
    generalize upd H1 l (.lst []) = H2 at hg2 hc2 hl2 fm2 ⊢
    refine ⟨.list (cs.map .int), .list [], .lst (SqL.of hc2) (dp_ints cs), .lst (SqL.of hl2) .nil, sh_ints cs, rfl, _, rfl, ?_⟩
    refine ite2 (fun e2 => ?_) (fun e2 => ?_)
    · have hcs : 0 < cs.length := by
        cases cs with
        | nil => exact absurd e2 (by decide)
        | cons x y => exact Nat.zero_lt_succ _
      have hbl : (b : Int) % ((cs.map V.int).length : Nat) = ((b % cs.length : Nat) : Int) := by
        rw [List.length_map]
        exact (Int.natCast_emod b cs.length).symm
      have hj : b % cs.length < cs.length := Nat.mod_lt _ hcs
      refine ⟨_, rfl, g, _, _, _, rfl, rfl, SqL.of hg2, ix0 _ _, _, rfl, .inl ⟨_, rfl, _, rfl, g, _, _, _, rfl, rfl, SqL.of hg2, ix0 _ _, c, _, rfl, .inl (SqL.of hc2), _, _, rfl, rfl, ?_, c, _, _, .int cs[b % cs.length], rfl, rfl, SqL.of hc2, ?_, ?_⟩⟩
      · rw [List.length_map]
        omega
      · rw [hbl]
        exact atI_nat (by rw [List.getElem?_map, List.getElem?_eq_getElem hj]; rfl)
      · generalize cs[b % cs.length] = cell
        refine ⟨_, rfl, _, rfl, g, _, _, _, rfl, rfl, SqL.of hg2, ix0 _ _, c, _, rfl, .inl (SqL.of hc2), _, _, rfl, rfl, _, rfl, ?_⟩
        refine ite2 (fun e3 => ?_) (fun e3 => iteF ?_)
        · refine ⟨_, rfl, _, rfl, _, _, rfl, rfl, ⟨by decide, by decide, by decide⟩, _, _, rfl, rfl, _, rfl, ?_⟩
          refine ite2 (fun e4 => ?_) (fun e4 => ?_)
          · have e5 := of_decide_eq_true e4
            first
              | refine ⟨_, rfl, _, rfl, _, _, rfl, rfl, ⟨by decide, by decide, by decide⟩, _, _, rfl, rfl, _, _, rfl, rfl, .inl ⟨by decide, by decide⟩, _, rfl, _, _, rfl, rfl, .inr ⟨_, rfl, _, _, rfl, rfl, ?_⟩⟩
              | refine ⟨_, rfl, .inl ⟨_, rfl, _, rfl, _, _, rfl, rfl, ⟨by decide, by decide, by decide⟩, _, _, rfl, rfl, _, _, rfl, rfl, .inl ⟨by decide, by decide⟩, _, rfl, _, _, rfl, rfl, .inr ⟨_, rfl, _, _, rfl, rfl, ?_⟩⟩⟩
            have r0 : 0 ≤ 2 * ((if cell < 0 then -cell else cell) - 10 ^ (18 : Int).toNat) + (if decide (cell < 0) = true then (1 : Int) else 0) := by
              have e6 : (10 : Int) ^ (18 : Int).toNat ≤ (if cell < 0 then -cell else cell) := e5
              split <;> omega
            dsimp only
            generalize 2 * ((if cell < 0 then -cell else cell) - 10 ^ (18 : Int).toNat) + (if decide (cell < 0) = true then (1 : Int) else 0) = r2 at r0 ⊢
            first
              | refine ⟨_, rfl, _, rfl, _, _, rfl, rfl, wd r2, _, rfl, g, _, _, 2, rfl, rfl, hg2, rfl, ?_⟩
              | refine ⟨_, rfl, .inl ⟨_, rfl, _, rfl, _, _, rfl, rfl, wd r2, _, rfl, g, _, _, 2, rfl, rfl, hg2, rfl, ?_⟩⟩
            refine ⟨_, rfl, .inl ⟨_, rfl, _, rfl, _, _, rfl, rfl, hm0, ?_⟩⟩
            refine q _ _ (nmod _) (lmod _) (fm2.trans (Fm.upd (Ce.upd hg2))) ⟨c, cs, b + 1, r2 / m, upd_same, ?_, ncg, by omega, Int.ediv_nonneg r0 (by omega)⟩
            rw [upd_ne ncg]
            exact hc2
          · refine ⟨_, rfl, .inl ⟨_, rfl, _, _, rfl, rfl, by show (0 : Int) < _; decide, _, rfl, _, _, rfl, rfl, .inl ⟨by decide, by decide⟩, _, _, rfl, rfl, _, _, rfl, rfl, _, _, rfl, rfl, ⟨by decide, by decide, by omega⟩, .inl ⟨_, rfl, _, _, rfl, rfl, by show (0 : Int) < _; decide, ?_⟩⟩⟩
            dsimp only
            have mx0 : 0 ≤ (cell % 2147483587 + 61105 * (b : Int) + 4057) ^ (5 : Int).toNat % 2147483629 := Int.emod_nonneg _ (by decide)
            have mx1 : (cell % 2147483587 + 61105 * (b : Int) + 4057) ^ (5 : Int).toNat % 2147483629 < 2147483629 := Int.emod_lt_of_pos _ (by decide)
            generalize (cell % 2147483587 + 61105 * (b : Int) + 4057) ^ (5 : Int).toNat % 2147483629 = mx at mx0 mx1 ⊢
            have t1 := tick_b1 (x := mx) (b := b) (C := 5173) mx0 (by omega) (by omega) (by omega) (by omega) (by omega)
            have t2 := tick_b2 (D := 90091) (b := b) (by omega) (by omega) (by omega) (by omega)
            refine ⟨_, rfl, _, rfl, _, _, rfl, rfl, .inl ⟨by decide, by decide⟩, _, _, rfl, rfl, _, _, rfl, rfl, .inl ⟨by omega, by omega⟩, _, rfl, _, _, rfl, rfl, .inl ⟨by decide, by decide⟩, _, rfl, _, _, rfl, rfl, .inr ⟨by omega, by omega⟩, _, _, rfl, rfl, _, _, rfl, rfl, _, _, rfl, rfl, ⟨by decide, by decide, by omega⟩, .inl ⟨_, rfl, _, _, rfl, rfl, by show (0 : Int) < _; decide, ?_⟩⟩
            refine ⟨_, rfl, _, _, rfl, rfl, ⟨by decide, by decide⟩, .inl ⟨_, rfl, _, rfl, _, _, rfl, rfl, hm0, ?_⟩⟩
            exact q _ _ (nmod _) (lmod _) fm2 ⟨c, cs, b + 1, r, hg2, hc2, ncg, by omega, hr0⟩
        · refine ⟨_, rfl, .inl ⟨_, rfl, _, _, rfl, rfl, by show (0 : Int) < _; decide, _, rfl, _, _, rfl, rfl, .inl ⟨by decide, by decide⟩, _, _, rfl, rfl, _, _, rfl, rfl, _, _, rfl, rfl, ⟨by decide, by decide, by omega⟩, .inl ⟨_, rfl, _, _, rfl, rfl, by show (0 : Int) < _; decide, ?_⟩⟩⟩
          dsimp only
          have mx0 : 0 ≤ (cell % 2147483587 + 61105 * (b : Int) + 4057) ^ (5 : Int).toNat % 2147483629 := Int.emod_nonneg _ (by decide)
          have mx1 : (cell % 2147483587 + 61105 * (b : Int) + 4057) ^ (5 : Int).toNat % 2147483629 < 2147483629 := Int.emod_lt_of_pos _ (by decide)
          generalize (cell % 2147483587 + 61105 * (b : Int) + 4057) ^ (5 : Int).toNat % 2147483629 = mx at mx0 mx1 ⊢
          have t1 := tick_b1 (x := mx) (b := b) (C := 5173) mx0 (by omega) (by omega) (by omega) (by omega) (by omega)
          have t2 := tick_b2 (D := 90091) (b := b) (by omega) (by omega) (by omega) (by omega)
          refine ⟨_, rfl, _, rfl, _, _, rfl, rfl, .inl ⟨by decide, by decide⟩, _, _, rfl, rfl, _, _, rfl, rfl, .inl ⟨by omega, by omega⟩, _, rfl, _, _, rfl, rfl, .inl ⟨by decide, by decide⟩, _, rfl, _, _, rfl, rfl, .inr ⟨by omega, by omega⟩, _, _, rfl, rfl, _, _, rfl, rfl, _, _, rfl, rfl, ⟨by decide, by decide, by omega⟩, .inl ⟨_, rfl, _, _, rfl, rfl, by show (0 : Int) < _; decide, ?_⟩⟩
          refine ⟨_, rfl, _, _, rfl, rfl, ⟨by decide, by decide⟩, .inl ⟨_, rfl, _, rfl, _, _, rfl, rfl, hm0, ?_⟩⟩
          exact q _ _ (nmod _) (lmod _) fm2 ⟨c, cs, b + 1, r, hg2, hc2, ncg, by omega, hr0⟩
    · dsimp only
      generalize 90091 * (b : Int) + 4057 = cell
      refine ⟨_, rfl, _, rfl, g, _, _, _, rfl, rfl, SqL.of hg2, ix0 _ _, c, _, rfl, .inl (SqL.of hc2), _, _, rfl, rfl, _, rfl, ?_⟩
      refine ite2 (fun e3 => ?_) (fun e3 => iteF ?_)
      · refine ⟨_, rfl, _, rfl, _, _, rfl, rfl, ⟨by decide, by decide, by decide⟩, _, _, rfl, rfl, _, rfl, ?_⟩
        refine ite2 (fun e4 => ?_) (fun e4 => ?_)
        · have e5 := of_decide_eq_true e4
          first
            | refine ⟨_, rfl, _, rfl, _, _, rfl, rfl, ⟨by decide, by decide, by decide⟩, _, _, rfl, rfl, _, _, rfl, rfl, .inl ⟨by decide, by decide⟩, _, rfl, _, _, rfl, rfl, .inr ⟨_, rfl, _, _, rfl, rfl, ?_⟩⟩
            | refine ⟨_, rfl, .inl ⟨_, rfl, _, rfl, _, _, rfl, rfl, ⟨by decide, by decide, by decide⟩, _, _, rfl, rfl, _, _, rfl, rfl, .inl ⟨by decide, by decide⟩, _, rfl, _, _, rfl, rfl, .inr ⟨_, rfl, _, _, rfl, rfl, ?_⟩⟩⟩
          have r0 : 0 ≤ 2 * ((if cell < 0 then -cell else cell) - 10 ^ (18 : Int).toNat) + (if decide (cell < 0) = true then (1 : Int) else 0) := by
            have e6 : (10 : Int) ^ (18 : Int).toNat ≤ (if cell < 0 then -cell else cell) := e5
            split <;> omega
          dsimp only
          generalize 2 * ((if cell < 0 then -cell else cell) - 10 ^ (18 : Int).toNat) + (if decide (cell < 0) = true then (1 : Int) else 0) = r2 at r0 ⊢
          first
            | refine ⟨_, rfl, _, rfl, _, _, rfl, rfl, wd r2, _, rfl, g, _, _, 2, rfl, rfl, hg2, rfl, ?_⟩
            | refine ⟨_, rfl, .inl ⟨_, rfl, _, rfl, _, _, rfl, rfl, wd r2, _, rfl, g, _, _, 2, rfl, rfl, hg2, rfl, ?_⟩⟩
          refine ⟨_, rfl, .inl ⟨_, rfl, _, rfl, _, _, rfl, rfl, hm0, ?_⟩⟩
          refine q _ _ (nmod _) (lmod _) (fm2.trans (Fm.upd (Ce.upd hg2))) ⟨c, cs, b + 1, r2 / m, upd_same, ?_, ncg, by omega, Int.ediv_nonneg r0 (by omega)⟩
          rw [upd_ne ncg]
          exact hc2
        · refine ⟨_, rfl, .inl ⟨_, rfl, _, _, rfl, rfl, by show (0 : Int) < _; decide, _, rfl, _, _, rfl, rfl, .inl ⟨by decide, by decide⟩, _, _, rfl, rfl, _, _, rfl, rfl, _, _, rfl, rfl, ⟨by decide, by decide, by omega⟩, .inl ⟨_, rfl, _, _, rfl, rfl, by show (0 : Int) < _; decide, ?_⟩⟩⟩
          dsimp only
          have mx0 : 0 ≤ (cell % 2147483587 + 61105 * (b : Int) + 4057) ^ (5 : Int).toNat % 2147483629 := Int.emod_nonneg _ (by decide)
          have mx1 : (cell % 2147483587 + 61105 * (b : Int) + 4057) ^ (5 : Int).toNat % 2147483629 < 2147483629 := Int.emod_lt_of_pos _ (by decide)
          generalize (cell % 2147483587 + 61105 * (b : Int) + 4057) ^ (5 : Int).toNat % 2147483629 = mx at mx0 mx1 ⊢
          have t1 := tick_b1 (x := mx) (b := b) (C := 5173) mx0 (by omega) (by omega) (by omega) (by omega) (by omega)
          have t2 := tick_b2 (D := 90091) (b := b) (by omega) (by omega) (by omega) (by omega)
          refine ⟨_, rfl, _, rfl, _, _, rfl, rfl, .inl ⟨by decide, by decide⟩, _, _, rfl, rfl, _, _, rfl, rfl, .inl ⟨by omega, by omega⟩, _, rfl, _, _, rfl, rfl, .inl ⟨by decide, by decide⟩, _, rfl, _, _, rfl, rfl, .inr ⟨by omega, by omega⟩, _, _, rfl, rfl, _, _, rfl, rfl, _, _, rfl, rfl, ⟨by decide, by decide, by omega⟩, .inl ⟨_, rfl, _, _, rfl, rfl, by show (0 : Int) < _; decide, ?_⟩⟩
          refine ⟨_, rfl, _, _, rfl, rfl, ⟨by decide, by decide⟩, .inl ⟨_, rfl, _, rfl, _, _, rfl, rfl, hm0, ?_⟩⟩
          exact q _ _ (nmod _) (lmod _) fm2 ⟨c, cs, b + 1, r, hg2, hc2, ncg, by omega, hr0⟩
      · refine ⟨_, rfl, .inl ⟨_, rfl, _, _, rfl, rfl, by show (0 : Int) < _; decide, _, rfl, _, _, rfl, rfl, .inl ⟨by decide, by decide⟩, _, _, rfl, rfl, _, _, rfl, rfl, _, _, rfl, rfl, ⟨by decide, by decide, by omega⟩, .inl ⟨_, rfl, _, _, rfl, rfl, by show (0 : Int) < _; decide, ?_⟩⟩⟩
        dsimp only
        have mx0 : 0 ≤ (cell % 2147483587 + 61105 * (b : Int) + 4057) ^ (5 : Int).toNat % 2147483629 := Int.emod_nonneg _ (by decide)
        have mx1 : (cell % 2147483587 + 61105 * (b : Int) + 4057) ^ (5 : Int).toNat % 2147483629 < 2147483629 := Int.emod_lt_of_pos _ (by decide)
        generalize (cell % 2147483587 + 61105 * (b : Int) + 4057) ^ (5 : Int).toNat % 2147483629 = mx at mx0 mx1 ⊢
        have t1 := tick_b1 (x := mx) (b := b) (C := 5173) mx0 (by omega) (by omega) (by omega) (by omega) (by omega)
        have t2 := tick_b2 (D := 90091) (b := b) (by omega) (by omega) (by omega) (by omega)
        refine ⟨_, rfl, _, rfl, _, _, rfl, rfl, .inl ⟨by decide, by decide⟩, _, _, rfl, rfl, _, _, rfl, rfl, .inl ⟨by omega, by omega⟩, _, rfl, _, _, rfl, rfl, .inl ⟨by decide, by decide⟩, _, rfl, _, _, rfl, rfl, .inr ⟨by omega, by omega⟩, _, _, rfl, rfl, _, _, rfl, rfl, _, _, rfl, rfl, ⟨by decide, by decide, by omega⟩, .inl ⟨_, rfl, _, _, rfl, rfl, by show (0 : Int) < _; decide, ?_⟩⟩
        refine ⟨_, rfl, _, _, rfl, rfl, ⟨by decide, by decide⟩, .inl ⟨_, rfl, _, rfl, _, _, rfl, rfl, hm0, ?_⟩⟩
        exact q _ _ (nmod _) (lmod _) fm2 ⟨c, cs, b + 1, r, hg2, hc2, ncg, by omega, hr0⟩

theorem ok__law_one_of {f : Addr} {fd : FuncData} (F : Fun K "_law_one_of" "_law_one_of" s__law_one_of f fd) (T : Txt K mg) (c__law_pin : Cl P w K mg base 1 "_law_pin" spTick) : FnOk P w K mg base CX0 2 f fd ["badge", "some"] (spDial K) := by
  have nd := sc__law_one_of.nd
  refine F.ok sc__law_one_of (fun vs H Q E h => ?_) (fun cdv A outer s H vs Q E hr h => ?_)
  · obtain ⟨g, a, n, xs, rfl, _⟩ := h
    rfl
  · obtain ⟨g, a, n, xs, rfl, hG, hn, hS, nag, hl0, hl1, q⟩ := h
    refine ⟨_, (pss_one (ps_ret (pe_ix (show IxR _ (rIxL K) from ix_list) (pv 1) (pe_f c__law_pin hr (by decide) (by rfl) (pa_cons (pv 0) (pa_cons (pe_callB (show CallR _ (.builtin "len") (rLenSq K) from call_len_seq) (by rfl) T.n_len (by decide +kernel) (pa_cons (pv 1) pa_nil)) pa_nil))) (fun _ _ => rfl)))), ?_⟩
    have p2 : 1000 < 2 ^ 2000 := Nat.lt_of_lt_of_le (by decide : 1000 < 2 ^ 10) (Nat.pow_le_pow_right (by decide) (by decide))
    refine ⟨_, rfl, _, rfl, _, rfl, a, xs, rfl, .inl hS, g, n, xs.length, rfl, hG, hn, by omega, ?_, fun H' v hv0 hv1 fm ga => ?_⟩
    · rw [Int.natAbs_natCast]
      exact Nat.lt_trans hl1 p2
    · obtain ⟨j, rfl⟩ : ∃ j : Nat, v = (j : Int) := ⟨v.toNat, by omega⟩
      have hj : j < xs.length := by omega
      exact ⟨a, xs, _, xs[j], rfl, rfl, fm.sq nag hS, atI_nat (List.getElem?_eq_getElem hj), q H' _ (List.getElem_mem hj) fm ga⟩
end

open SX (S S_len S_cat S_inj join_S S_tl)
/-! ### checks of numbers -/
/-- a bound: none, or an integer -/
def Bd (x : V) : Prop := x = .non ∨ ∃ a, x = .int a
def isW (v lo hi : V) : Bool :=
  match v with
  | .int i => (match lo with | .int a => decide (a ≤ i) | _ => true) && (match hi with | .int b => decide (i ≤ b) | _ => true)
  | _ => false
def spIsInt (K : PySem.W.Frag) : Sp := fun vs H Q _ => ∃ (v : V) (t : String), vs = [v] ∧ TyB K H v t ∧ Q (.bl (t == "int")) H
def spWithin (K : PySem.W.Frag) : Sp := fun vs H Q _ => ∃ (v lo hi : V) (t : String), vs = [v, lo, hi] ∧ TyB K H v t ∧ Bd lo ∧ Bd hi ∧ Q (.bl (isW v lo hi)) H
def spCheck (K : PySem.W.Frag) : Sp := fun vs H Q _ => ∃ (v lo hi p : V) (t : String), vs = [v, lo, hi, p] ∧ TyB K H v t ∧ Bd lo ∧ Bd hi ∧ isW v lo hi = true ∧ Q .non H
theorem ty_only : ∀ t ∈ kinds, (if isSub t "int" = true then !isSub t "bool" else false) = (t == "int") := by decide
theorem tyb_int {K : PySem.W.Frag} {H : Hp} {v : V} {t : String} (h : TyB K H v t) (e : (t == "int") = true) : ∃ i, v = .int i := by
  cases h with
  | int i => exact ⟨i, rfl⟩
  | _ => exact absurd e (by decide)
theorem tyb_noint {K : PySem.W.Frag} {H : Hp} {v : V} {t : String} (h : TyB K H v t) (e : ¬ (t == "int") = true) (lo hi : V) : isW v lo hi = false := by
  cases h with
  | int i => exact absurd (by decide) e
  | _ => rfl
section
variable {P : Program} {w : World} {K : PySem.W.Frag} {mg : Str → Option Value} {base : Heap}
theorem ok_is_integer {f : Addr} {fd : FuncData} (F : Fun K "is_integer" "is_integer" s_is_integer f fd) (T : Txt K mg) : FnOk P w K mg base CX0 1 f fd ["value"] (spIsInt K) := by
  have nd := sc_is_integer.nd
  refine F.ok sc_is_integer (fun vs H Q E h => ?_) (fun cdv A outer s H vs Q E hr h => ?_)
  · obtain ⟨v, t, rfl, _⟩ := h
    rfl
  · obtain ⟨v, t, rfl, ht, q⟩ := h
    refine ⟨_, (pss_one (ps_ret (pe_and (pe_callB call_is (by rfl) T.n_isinstance (by decide +kernel) (pa_cons (pv 0) (pa_cons (pe_bltn (v := .ty "int") (by rfl) T.n_int (by decide +kernel) rfl) pa_nil))) (pe_one (pe_not (pe_callB call_is (by rfl) T.n_isinstance (by decide +kernel) (pa_cons (pv 0) (pa_cons (pe_bltn (v := .ty "bool") (by rfl) T.n_bool (by decide +kernel) rfl) pa_nil)))))))), ?_⟩
    rw [← ty_only t (tyb_kind ht)] at q
    refine ⟨_, rfl, v, t, "int", rfl, ht, by decide, _, rfl, ?_⟩
    refine ite2 (fun e => ?_) (fun e => ?_)
    · rw [if_pos e] at q
      exact ⟨_, rfl, v, t, "bool", rfl, ht, by decide, _, rfl, q⟩
    · rw [if_neg e] at q
      exact q
theorem ok_is_within {f : Addr} {fd : FuncData} (F : Fun K "is_within" "is_within" s_is_within f fd) (T : Txt K mg) (c_is_integer : Cl P w K mg base 1 "is_integer" (spIsInt K)) :
    FnOk P w K mg base CX0 2 f fd ["value", "least", "most"] (spWithin K) := by
  have nd := sc_is_within.nd
  refine F.ok sc_is_within (fun vs H Q E h => ?_) (fun cdv A outer s H vs Q E hr h => ?_)
  · obtain ⟨v, lo, hi, t, rfl, _⟩ := h
    rfl
  · obtain ⟨v, lo, hi, t, rfl, ht, hlo, hhi, q⟩ := h
    refine ⟨_, (pss_cons (ps_if (pt_not (pt_val (pe_f c_is_integer hr (by decide) (by rfl) (pa_cons (pv 0) pa_nil))))
 (pss_one (ps_ret pe_bl))
 pss_nil)
 (pss_cons (ps_if (PW.pt (pw_and (pt_cmpR op_notN (pv 1) pe_non (nomark _)) (pw_and1 (pt_cmpR op_lt (pv 0) (pv 1) (nomark _)))))
 (pss_one (ps_ret pe_bl))
 pss_nil)
 (pss_one (ps_ret (pe_or (pe_cmpR op_isN (pv 2) pe_non (nomark _)) (pe_one (pe_cmpR op_le (pv 0) (pv 2) (nomark _)))))))), ?_⟩
    refine ⟨_, rfl, v, t, rfl, ht, _, rfl, ?_⟩
    by_cases ei : (t == "int") = true
    · obtain ⟨i, rfl⟩ := tyb_int ht ei
      rw [ei]
      refine iteF ?_
      have up : ∀ lo', isW (.int i) lo' hi = isW (.int i) .non hi → Q (.bl (isW (.int i) lo' hi)) H → (tOrV (tOp (fun x y H Q => y = V.non ∧ Q (.bl (decide (x = .non))) H) (tVar 2) (tC .non)) (tOp (rI0 fun i j => .bl (decide (i ≤ j))) (tVar 0) (tVar 2))) [some (.int i), some lo', some hi] H Q := by
        intro lo' e1 q
        rw [e1] at q
        refine ⟨hi, rfl, rfl, _, rfl, ?_⟩
        rcases hhi with rfl | ⟨b, rfl⟩
        · exact q
        · refine (if_neg (by simp)).mpr ?_
          exact ⟨_, rfl, _, rfl, _, _, rfl, rfl, by simpa [isW] using q⟩
      refine ⟨lo, rfl, rfl, _, rfl, ?_⟩
      rcases hlo with rfl | ⟨a, rfl⟩
      · refine (if_neg (by decide)).mpr ?_
        refine iteF ?_
        exact up _ rfl q
      · refine (if_pos (by simp)).mpr ?_
        refine ⟨_, rfl, _, rfl, _, _, rfl, rfl, _, rfl, ?_⟩
        refine ite2 (fun e => ?_) (fun e => ?_)
        · have e2 : i < a := of_decide_eq_true e
          have e3 : isW (.int i) (.int a) hi = false := by
            show (decide (a ≤ i) && _) = false
            rw [decide_eq_false (by omega), Bool.false_and]
          rw [e3] at q
          exact q
        · have e2 : ¬ i < a := fun z => e (decide_eq_true z)
          refine up _ ?_ q
          show (decide (a ≤ i) && _) = (true && _)
          rw [decide_eq_true (by omega)]
          rfl
    · rw [Bool.eq_false_iff.mpr ei]
      refine iteT ?_
      rw [tyb_noint ht ei] at q
      exact q
theorem ok_check_number {f : Addr} {fd : FuncData} (F : Fun K "check_number" "check_number" s_check_number f fd) (T : Txt K mg) (c_is_within : Cl P w K mg base 2 "is_within" (spWithin K)) :
    FnOk P w K mg base CX0 3 f fd ["value", "least", "most", "part"] (spCheck K) := by
  have nd := sc_check_number.nd
  refine F.ok sc_check_number (fun vs H Q E h => ?_) (fun cdv A outer s H vs Q E hr h => ?_)
  · obtain ⟨v, lo, hi, p, t, rfl, _⟩ := h
    rfl
  · obtain ⟨v, lo, hi, p, t, rfl, ht, hlo, hhi, e, q⟩ := h
    refine ⟨_, (pss_one (ps_if (pt_not (pt_val (pe_f c_is_within hr (by decide) (by rfl) (pa_cons (pv 0) (pa_cons (pv 1) (pa_cons (pv 2) pa_nil))))))
 (pss_one ps_never)
 pss_nil)), ?_⟩
    refine ⟨_, rfl, _, rfl, _, rfl, v, lo, hi, t, rfl, ht, hlo, hhi, _, rfl, ?_⟩
    rw [e]
    exact iteF q
end

def spPairs : Sp := fun vs H Q _ => ∃ n : Nat, vs = [.int n] ∧ 1 ≤ n ∧ n ≤ 200 ∧ Q .non H
/-- in how many ways a word goes on -/
def wayI (o : Nat) (z : Int) : Int := if o = 0 then 1 else (chs (o + z.toNat) o : Int) - (chs (o + z.toNat) (o - 1) : Int)
def catI (n : Nat) : Int := (chs (n + n) n : Int) - (chs (n + n) (n - 1) : Int)
def spWays : Sp := fun vs H Q _ => ∃ (o : Nat) (z : Int), vs = [.int o, .int z] ∧ (o = 0 ∨ (0 ≤ z ∧ z ≤ 1000 ∧ o ≤ 1000)) ∧ Q (.int (wayI o z)) H
def spWords : Sp := fun vs H Q _ => ∃ n : Nat, vs = [.int n] ∧ 1 ≤ n ∧ n ≤ 200 ∧ Q (.int (catI n)) H
section
variable {P : Program} {w : World} {K : PySem.W.Frag} {mg : Str → Option Value} {base : Heap}
theorem ok_check_pairs {f : Addr} {fd : FuncData} (F : Fun K "check_pairs" "check_pairs" s_check_pairs f fd) (T : Txt K mg) (c_check_number : Cl P w K mg base 3 "check_number" (spCheck K)) :
    FnOk P w K mg base CX0 4 f fd ["pairs"] spPairs := by
  have nd := sc_check_pairs.nd
  refine F.ok sc_check_pairs (fun vs H Q E h => ?_) (fun cdv A outer s H vs Q E hr h => ?_)
  · obtain ⟨n, rfl, _⟩ := h
    rfl
  · obtain ⟨n, rfl, h1, h2, q⟩ := h
    refine ⟨_, (pss_one (ps_expr (pe_f c_check_number hr (by decide) (by rfl) (pa_cons (pv 0) (pa_cons pe_int (pa_cons (pe_cst T.c_MOST_PAIRS (by rfl)) (pa_cons (pe_lit (l := [112, 97, 105, 114, 115]) (by decide +kernel)) pa_nil))))))), ?_⟩
    refine ⟨_, rfl, _, _, _, _, "int", rfl, .int _, .inr ⟨_, rfl⟩, .inr ⟨_, rfl⟩, ?_, q⟩
    show (decide ((1 : Int) ≤ n) && decide ((n : Int) ≤ 200)) = true
    rw [decide_eq_true (by omega), decide_eq_true (by omega)]
    rfl
end

/-! ### rows of signs, words -/
/-- all signs are 0 or 1 -/
def sg (a : List Nat) : Bool := a.all fun c => c == 48 || c == 49
/-- how high it stands behind these signs; none, where it went below -/
def hgt : Nat → List Nat → Option Nat
  | h, [] => some h
  | h, c :: r => if c = 49 then hgt (h + 1) r else match h with
    | 0 => none
    | k + 1 => hgt k r
theorem hgt_up (h : Nat) (r : List Nat) : hgt h (49 :: r) = hgt (h + 1) r := rfl
theorem hgt_zero {c : Nat} (e : c ≠ 49) (r : List Nat) : hgt 0 (c :: r) = none := by
  show (if c = 49 then _ else _) = _
  rw [if_neg e]
theorem hgt_down {c : Nat} (e : c ≠ 49) (k : Nat) (r : List Nat) : hgt (k + 1) (c :: r) = hgt k r := by
  show (if c = 49 then _ else _) = _
  rw [if_neg e]
theorem hgt_app : ∀ (a b : List Nat) (h : Nat), hgt h (a ++ b) = (hgt h a).bind fun k => hgt k b
  | [], b, h => rfl
  | c :: a, b, h => by
    rw [List.cons_append]
    by_cases e : c = 49
    · subst e
      rw [hgt_up, hgt_up]
      exact hgt_app a b _
    · cases h with
      | zero => rw [hgt_zero e, hgt_zero e]; rfl
      | succ k => rw [hgt_down e, hgt_down e]; exact hgt_app a b k
theorem hgt_len : ∀ (a : List Nat) (h : Nat), hgt h a = some 0 → h ≤ a.length ∧ (h + a.length) % 2 = 0
  | [], h, e => by
    have : h = 0 := Option.some.inj e
    subst this
    exact ⟨Nat.le_refl _, rfl⟩
  | c :: r, h, e => by
    rw [List.length_cons]
    by_cases ec : c = 49
    · subst ec
      rw [hgt_up] at e
      have := hgt_len r _ e
      omega
    · cases h with
      | zero => rw [hgt_zero ec] at e; cases e
      | succ k =>
        rw [hgt_down ec] at e
        have := hgt_len r _ e
        omega
theorem sg_app (a b : List Nat) : sg (a ++ b) = (sg a && sg b) := List.all_append
def isWd (a : List Nat) : Bool := (sg a && (decide (2 ≤ a.length) && decide (a.length ≤ 400))) && (hgt 0 a == some 0)
theorem isWd_mk {a : List Nat} (h1 : sg a = true) (h2 : 2 ≤ a.length) (h3 : a.length ≤ 400) (h4 : hgt 0 a = some 0) : isWd a = true := by
  unfold isWd
  rw [h1, h4, decide_eq_true h2, decide_eq_true h3]
  rfl
theorem isWd_of {a : List Nat} (h : isWd a = true) : sg a = true ∧ 2 ≤ a.length ∧ a.length ≤ 400 ∧ hgt 0 a = some 0 := by
  unfold isWd at h
  simp only [Bool.and_eq_true, decide_eq_true_eq, beq_iff_eq] at h
  exact ⟨h.1.1, h.1.2.1, h.1.2.2, h.2⟩
def sgV : V → Bool
  | .str z => sg z.cps.toList
  | _ => false
def wdV : V → Bool
  | .str z => isWd z.cps.toList
  | _ => false
/-- a text, if it is one, is no longer than a line -/
def Sht (v : V) : Prop := ∀ z, v = .str z → z.length ≤ sizeLine
theorem sht_S {a : List Nat} (h : a.length ≤ sizeLine) : Sht (.str (S a)) := fun z e => by
  cases e
  rw [S_len]
  exact h
theorem count_two : ∀ a : List Nat, a.count 48 + a.count 49 ≤ a.length ∧ (sg a = decide (a.count 48 + a.count 49 = a.length))
  | [] => ⟨Nat.le_refl _, rfl⟩
  | c :: a => by
    obtain ⟨h1, h2⟩ := count_two a
    have e : sg (c :: a) = ((c == 48 || c == 49) && sg a) := rfl
    rw [e, h2, List.count_cons, List.count_cons, List.length_cons]
    by_cases e0 : c = 48
    · subst e0
      refine ⟨by simp; omega, ?_⟩
      simp
      omega
    · by_cases e1 : c = 49
      · subst e1
        refine ⟨by simp; omega, ?_⟩
        simp
        omega
      · have f0 : (c == 48) = false := beq_false_of_ne e0
        have f1 : (c == 49) = false := beq_false_of_ne e1
        rw [f0, f1]
        refine ⟨by simp; omega, ?_⟩
        simp
        omega
theorem drop_at {α : Type} {a : List α} {i : Nat} {c : α} (h : a[i]? = some c) : a.drop i = c :: a.drop (i + 1) := by
  obtain ⟨hi, e⟩ := List.getElem?_eq_some_iff.mp h
  rw [List.drop_eq_getElem_cons hi, e]
theorem tyb_str {K : PySem.W.Frag} {H : Hp} {v : V} {t : String} (h : TyB K H v t) (e : (t == "str") = true) : ∃ a, v = .str (S a) := by
  cases h with
  | str z => exact ⟨z.cps.toList, by rw [S_tl]⟩
  | _ => exact absurd e (by decide)
theorem tyb_nostr {K : PySem.W.Frag} {H : Hp} {v : V} {t : String} (h : TyB K H v t) (e : ¬ (t == "str") = true) : sgV v = false ∧ wdV v = false := by
  cases h with
  | str z => exact absurd (by decide) e
  | _ => exact ⟨rfl, rfl⟩
theorem sub_str : ∀ t ∈ kinds, isSub t "str" = (t == "str") := by decide
def spSigns (K : PySem.W.Frag) : Sp := fun vs H Q _ => ∃ (v : V) (t : String), vs = [v] ∧ TyB K H v t ∧ Sht v ∧ Q (.bl (sgV v)) H
def spWord (K : PySem.W.Frag) : Sp := fun vs H Q _ => ∃ (v : V) (t : String), vs = [v] ∧ TyB K H v t ∧ Sht v ∧ Q (.bl (wdV v)) H
def spCkWord : Sp := fun vs H Q _ => ∃ (a : List Nat) (p : V), vs = [.str (S a), p] ∧ isWd a = true ∧ Q .non H
def spPairsIn : Sp := fun vs H Q _ => ∃ a : List Nat, vs = [.str (S a)] ∧ isWd a = true ∧ Q (.int (a.length / 2 : Nat)) H
section
variable {P : Program} {w : World} {K : PySem.W.Frag} {mg : Str → Option Value} {base : Heap}
theorem ok_is_signs {f : Addr} {fd : FuncData} (F : Fun K "is_signs" "is_signs" s_is_signs f fd) (T : Txt K mg) : FnOk P w K mg base CX0 1 f fd ["value"] (spSigns K) := by
  have nd := sc_is_signs.nd
  refine F.ok sc_is_signs (fun vs H Q E h => ?_) (fun cdv A outer s H vs Q E hr h => ?_)
  · obtain ⟨v, t, rfl, _⟩ := h
    rfl
  · obtain ⟨v, t, rfl, ht, hz, q⟩ := h
    refine ⟨_, (pss_one (ps_ret (pe_and (pe_callB call_is (by rfl) T.n_isinstance (by decide +kernel) (pa_cons (pv 0) (pa_cons (pe_bltn (v := .ty "str") (by rfl) T.n_str (by decide +kernel) rfl) pa_nil))) (pe_one (pe_cmpR op_eq (pe_op op_add (pe_m1 PySem.F.slot_str_count PySem.F.type_str_count mt_countS (pv 0) (pe_lit (l := [48]) (by decide +kernel))) (pe_m1 PySem.F.slot_str_count PySem.F.type_str_count mt_countS (pv 0) (pe_lit (l := [49]) (by decide +kernel)))) (pe_callB call_len_S (by rfl) T.n_len (by decide +kernel) (pa_cons (pv 0) pa_nil)) (nomark _)))))), ?_⟩
    refine ⟨_, rfl, v, t, "str", rfl, ht, by decide, _, rfl, ?_⟩
    rw [sub_str t (tyb_kind ht)]
    refine ite2 (fun e => ?_) (fun e => ?_)
    · obtain ⟨a, rfl⟩ := tyb_str ht e
      have ha : a.length ≤ sizeLine := by
        have := hz _ rfl
        rwa [S_len] at this
      have e2 : decide (V.int (((a.count 48 : Nat) : Int) + ((a.count 49 : Nat) : Int)) = V.int ((a.length : Nat) : Int)) = sg a := by
        rw [(count_two a).2]
        by_cases e3 : a.count 48 + a.count 49 = a.length
        · rw [decide_eq_true e3, decide_eq_true (by rw [← e3]; rfl)]
        · rw [decide_eq_false e3, decide_eq_false]
          intro z
          have := V.int.inj z
          omega
      refine ⟨_, rfl, ⟨_, rfl⟩, a, 48, rfl, rfl, _, rfl, ⟨_, rfl⟩, a, 49, rfl, rfl, _, _, rfl, rfl, _, rfl, a, rfl, ha, rfl, ?_⟩
      rw [e2]
      exact q
    · rw [(tyb_nostr ht e).1] at q
      exact q
theorem ok_is_word {f : Addr} {fd : FuncData} (F : Fun K "is_word" "is_word" s_is_word f fd) (T : Txt K mg) (c_is_signs : Cl P w K mg base 1 "is_signs" (spSigns K)) : FnOk P w K mg base CX0 2 f fd ["value"] (spWord K) := by
  have nd := sc_is_word.nd
  refine F.ok sc_is_word (fun vs H Q E h => ?_) (fun cdv A outer s H vs Q E hr h => ?_)
  · obtain ⟨v, t, rfl, _⟩ := h
    rfl
  · obtain ⟨v, t, rfl, ht, hz, q⟩ := h
    refine ⟨_, (pss_cons (ps_if (PW.pt (pw_or (pt_not (pt_val (pe_f c_is_signs hr (by decide) (by rfl) (pa_cons (pv 0) pa_nil)))) (pw_or1 (pt_not (pt_chain op_le op_le pe_int (pe_callB call_len_S (by rfl) T.n_len (by decide +kernel) (pa_cons (pv 0) pa_nil)) (pe_op op_mul pe_int (pe_cst T.c_MOST_PAIRS (by rfl))))))))
 (pss_one (ps_ret pe_bl))
 pss_nil)
 (pss_cons (ps_set (i := 1) nd rfl (by first | exact Or.inl rfl | exact Or.inr rfl) pe_int)
 (pss_cons (ps_for PassesOwn.never rfl (pi_str (pv 0)) (pg_name (i := 2) nd rfl (by first | exact Or.inl rfl | exact Or.inr rfl))
 (pss_cons (ps_aug (i := 1) nd rfl (by first | exact Or.inl rfl | exact Or.inr rfl) (pe_ifExp (pt_cmpR op_eq_S (pv 2) (pe_lit (l := [49]) (by decide +kernel)) (nomark _)) pe_int (pe_un un_neg pe_int)) ip_add)
 (pss_one (ps_if (pt_cmpR op_lt (pv 1) pe_int (nomark _))
 (pss_one (ps_ret pe_bl))
 pss_nil))))
 (pss_one (ps_ret (pe_cmpR op_eq (pv 1) pe_int (nomark _))))))), ?_⟩
    refine ⟨_, rfl, v, t, rfl, ht, hz, _, rfl, ?_⟩
    by_cases e0 : (t == "str") = true
    · obtain ⟨a, rfl⟩ := tyb_str ht e0
      have ha : a.length ≤ sizeLine := by
        have := hz _ rfl
        rwa [S_len] at this
      have es : sgV (.str (S a)) = sg a := rfl
      have ew : wdV (.str (S a)) = isWd a := rfl
      rw [ew] at q
      rw [es]
      by_cases e1 : sg a = true
      · rw [e1]
        refine iteF ?_
        have out : ∀ (b : Bool), isWd a = b → Q (.bl b) H := fun b e => by rw [← e]; exact q
        refine ⟨_, rfl, a, rfl, ha, _, _, rfl, rfl, _, rfl, ?_⟩
        refine ite2 (fun e2 => ?_) (fun e2 => ?_)
        · have l2 : 2 ≤ a.length := by have := of_decide_eq_true e2; omega
          refine ⟨_, _, rfl, rfl, .inl ⟨by decide, by decide⟩, _, _, rfl, rfl, _, rfl, ?_⟩
          refine ite2 (fun e3 => ?_) (fun e3 => ?_)
          · refine out false ?_
            have hn : ¬ a.length ≤ 400 := fun z => by
              rw [decide_eq_true (show ((a.length : Nat) : Int) ≤ 2 * 200 by omega)] at e3
              exact absurd e3 (by decide)
            unfold isWd
            rw [decide_eq_false hn, Bool.and_false, Bool.and_false, Bool.false_and]
          · have l3 : a.length ≤ 400 := by
              rcases Nat.lt_or_ge 400 a.length with h | h
              · rw [decide_eq_false (show ¬ ((a.length : Nat) : Int) ≤ 2 * 200 by omega)] at e3
                exact absurd rfl e3
              · exact h
            have out2 : ∀ (b : Bool), (hgt 0 a == some 0) = b → Q (.bl b) H := fun b e => out b (by
              unfold isWd
              rw [e1, decide_eq_true l2, decide_eq_true l3, e]
              rfl)
            refine ⟨_, rfl, S a, rfl, for_S (a := a) (fun i σ H' => H' = H ∧ ∃ (k : Nat) (v2 : Option V), σ = [some (.str (S a)), some (.int k), v2] ∧ hgt 0 a = hgt k (a.drop i)) ⟨rfl, 0, none, rfl, rfl⟩ ?_ ?_⟩
            · rintro i c σ H' hc ⟨rfl, k, v2, rfl, hk⟩
              rw [drop_at hc] at hk
              refine ⟨_, rfl, _, rfl, [c], [49], rfl, rfl, _, rfl, ?_⟩
              by_cases ec : c = 49
              · subst ec
                rw [decide_eq_true rfl]
                refine iteT ?_
                refine ⟨_, _, rfl, rfl, _, rfl, _, _, rfl, rfl, _, rfl, ?_⟩
                rw [decide_eq_false (show ¬ (k : Int) + 1 < 0 by omega)]
                refine iteF ?_
                exact ⟨rfl, k + 1, _, rfl, hk⟩
              · rw [decide_eq_false (show ¬ [c] = [49] from fun z => ec (List.cons.inj z).1)]
                refine iteF ?_
                refine ⟨_, rfl, _, _, rfl, rfl, _, rfl, _, _, rfl, rfl, _, rfl, ?_⟩
                cases k with
                | zero =>
                  refine iteT ?_
                  rw [hgt_zero ec] at hk
                  refine out2 false ?_
                  rw [hk]
                  rfl
                | succ k =>
                  rw [hgt_down ec] at hk
                  rw [decide_eq_false (show ¬ ((k + 1 : Nat) : Int) + -1 < 0 by omega)]
                  refine iteF ?_
                  refine ⟨rfl, k, some (.str (S [c])), ?_, hk⟩
                  have e5 : ((k + 1 : Nat) : Int) + -1 = (k : Int) := by omega
                  show [some (V.str (S a)), some (V.int (((k + 1 : Nat) : Int) + -1)), some (V.str (S [c]))] = _
                  rw [e5]
            · rintro σ H' ⟨rfl, k, v2, rfl, hk⟩
              rw [List.drop_length] at hk
              refine ⟨_, rfl, rfl, ?_⟩
              refine out2 _ ?_
              rw [hk]
              show (some k == some 0) = _
              cases k with
              | zero => rfl
              | succ k =>
                rw [decide_eq_false (show ¬ V.int ((k + 1 : Nat) : Int) = V.int 0 from fun z => by have := V.int.inj z; omega)]
                rfl
        · refine ⟨_, rfl, iteT ?_⟩
          refine out false ?_
          have hn : ¬ 2 ≤ a.length := fun z => e2 (decide_eq_true (by omega))
          unfold isWd
          rw [decide_eq_false hn, Bool.false_and, Bool.and_false, Bool.false_and]
      · rw [Bool.eq_false_iff.mpr e1]
        refine iteT ?_
        have : isWd a = false := by
          unfold isWd
          rw [Bool.eq_false_iff.mpr e1]
          rfl
        rw [this] at q
        exact q
    · rw [(tyb_nostr ht e0).1]
      rw [(tyb_nostr ht e0).2] at q
      refine iteT ?_
      exact q
theorem ok_check_word {f : Addr} {fd : FuncData} (F : Fun K "check_word" "check_word" s_check_word f fd) (T : Txt K mg) (c_is_word : Cl P w K mg base 2 "is_word" (spWord K)) : FnOk P w K mg base CX0 3 f fd ["value", "part"] spCkWord := by
  have nd := sc_check_word.nd
  refine F.ok sc_check_word (fun vs H Q E h => ?_) (fun cdv A outer s H vs Q E hr h => ?_)
  · obtain ⟨a, p, rfl, _⟩ := h
    rfl
  · obtain ⟨a, p, rfl, ha, q⟩ := h
    have l := (isWd_of ha).2.2.1
    refine ⟨_, (pss_one (ps_if (pt_not (pt_val (pe_f c_is_word hr (by decide) (by rfl) (pa_cons (pv 0) pa_nil))))
 (pss_one ps_never)
 pss_nil)), ?_⟩
    refine ⟨_, rfl, _, _, rfl, .str _, sht_S (Nat.le_trans l (by decide)), _, rfl, ?_⟩
    have e : wdV (.str (S a)) = isWd a := rfl
    rw [e, ha]
    exact iteF q
end

/-! ### small data -/
theorem gd2b {K : PySem.W.Frag} {H : Hp} {p : Addr} {a b : Bool} (h : SqL K H p [.bl a, .bl b]) : GD K H (.ref p) (.list [.bool a, .bool b]) :=
  GD.of h (.cons (.bl _) (.cons (.bl _) .nil)) (by simp only [okDs, okD, Bool.and_self]) (by simp only [PyData.bulkAll, PyData.bulk]; decide) (by simp only [PyData.depthAll, PyData.depth]; decide)
theorem gd2i {K : PySem.W.Frag} {H : Hp} {p : Addr} {a b : Int} (h : SqL K H p [.int a, .int b]) (ha : a.natAbs.log2 < 900) (hb : b.natAbs.log2 < 900) : GD K H (.ref p) (.list [.int a, .int b]) :=
  GD.of h (.cons (.int _) (.cons (.int _) .nil)) (by simp only [okDs, okD, decide_eq_true ha, decide_eq_true hb, Bool.and_self]) (by simp only [PyData.bulkAll, PyData.bulk]; decide) (by simp only [PyData.depthAll, PyData.depth]; decide)
theorem dp_sgs {K : PySem.W.Frag} {H : Hp} : ∀ a : List Nat, DpAll K H (sgs a) (a.map fun c => PyData.str (S [c]))
  | [] => .nil
  | c :: cs => .cons (.str _) (dp_sgs cs)
theorem sh_sgs (a : List Nat) (ha : a.all (fun c => decide (c < 1114112)) = true) : SeqAt.shaped (.list (a.map fun c => PyData.str (S [c]))) = true := by
  have h : ∀ a : List Nat, a.all (fun c => decide (c < 1114112)) = true → PyData.canLayAll0 (a.map fun c => PyData.str (S [c])) = true ∧ PyData.depthAll (a.map fun c => PyData.str (S [c])) = 0 := by
    intro a
    induction a with
    | nil => exact fun _ => ⟨rfl, rfl⟩
    | cons c cs ih =>
      intro h
      rw [List.all_cons, Bool.and_eq_true] at h
      have e1 : PyData.canLay0 (PyData.str (S [c])) = true := by
        simp only [PyData.canLay0, PyData.strOk]
        rw [← Array.all_toList, List.all_eq_true]
        intro x hx
        have : x = c := by simpa using hx
        subst this
        exact h.1
      simp only [List.map_cons, PyData.canLayAll0, PyData.depthAll, PyData.depth, e1, (ih h.2).1, (ih h.2).2, Bool.and_self, Nat.max_self, and_self]
  unfold SeqAt.shaped
  simp only [PyData.canLay0, PyData.depth, (h a ha).1, (h a ha).2]
  rfl
theorem gdb {K : PySem.W.Frag} {H : Hp} {b : Bool} : GD K H (.bl b) (.bool b) := ⟨.bl _, by simp only [okD], by simp only [PyData.bulk]; decide, by simp only [PyData.depth]; decide⟩
theorem eqv_nil : ∀ ys : List Nat, PyData.eqv (.list (ys.map fun c => PyData.str (S [c]))) (.list []) = decide (ys = [])
  | [] => by rw [List.map_nil, decide_eq_true rfl]; exact SeqAt.eqv_refl _ (by decide)
  | c :: cs => by
    rw [decide_eq_false (List.cons_ne_nil _ _), List.map_cons]
    simp only [PyData.eqv, PyData.eqvAll]
def offs (r : List Nat) : List Nat := r.filter fun c => !decide (c ∈ [48, 49])
theorem offs_sg : ∀ r : List Nat, decide (offs r = []) = sg r
  | [] => rfl
  | c :: r => by
    have ih := offs_sg r
    unfold offs at ih ⊢
    have e : sg (c :: r) = ((c == 48 || c == 49) && sg r) := rfl
    rw [e, List.filter_cons]
    by_cases h : c ∈ [48, 49]
    · rw [decide_eq_true h]
      have h2 : (c == 48 || c == 49) = true := by simpa using h
      rw [h2, Bool.true_and, ← ih]
      rfl
    · rw [decide_eq_false h]
      have h2 : (c == 48 || c == 49) = false := by simpa using h
      rw [h2]
      simp
theorem flat_ones : ∀ ys : List Nat, (ys.map fun c => [c]).flatten = ys
  | [] => rfl
  | c :: r => by rw [List.map_cons, List.flatten_cons, flat_ones r]; rfl
theorem sgs_map (ys : List Nat) : sgs ys = (ys.map fun c => [c]).map fun y => V.str (S y) := by
  unfold sgs
  rw [List.map_map]
  rfl

/-! ### a word drawn sign by sign, by how deep it stands -/
def spLword : Sp := fun vs H Q _ => ∃ (g : Addr) (m n : Nat), vs = [.ref g, .int n] ∧ GA H g m ∧ 1 ≤ n ∧ n ≤ 200 ∧ m + 500 < 1000000 ∧
  ∀ (H' : Hp) (a : List Nat), sg a = true → hgt 0 a = some 0 → a.length = 2 * n → Fm g H H' → GA H' g (m + 401) → Q (.str (S a)) H'
section
variable {P : Program} {w : World} {K : PySem.W.Frag} {mg : Str → Option Value} {base : Heap}
theorem ok__law_word {f : Addr} {fd : FuncData} (F : Fun K "_law_word" "_law_word" s__law_word f fd) (T : Txt K mg) (c__law_pin : Cl P w K mg base 1 "_law_pin" spTick) (c__law_one_of : Cl P w K mg base 2 "_law_one_of" (spDial K)) : FnOk P w K mg base CX0 3 f fd ["badge", "pairs"] spLword := by
  have nd := sc__law_word.nd
  refine F.ok sc__law_word (fun vs H Q E h => ?_) (fun cdv A outer s H vs Q E hr h => ?_)
  · obtain ⟨g, m, n, rfl, _⟩ := h
    rfl
  · obtain ⟨g, m, n, rfl, hG, n1, n2, hm, q⟩ := h
    refine ⟨_, (pss_cons (ps_asg (pe_tup (pa_cons (pe_f c__law_one_of hr (by decide) (by rfl) (pa_cons (pv 0) (pa_cons (pe_lst (pa_cons pe_int (pa_cons pe_int (pa_cons pe_int (pa_cons pe_int (pa_cons pe_int (pa_cons pe_int pa_nil))))))) pa_nil))) (pa_cons (pe_lst pa_nil) (pa_cons pe_int (pa_cons pe_int pa_nil))))) (pg_tup rfl (pgs_cons (pg_name (i := 2) nd rfl (by first | exact Or.inl rfl | exact Or.inr rfl)) (pgs_cons (pg_name (i := 3) nd rfl (by first | exact Or.inl rfl | exact Or.inr rfl)) (pgs_cons (pg_name (i := 4) nd rfl (by first | exact Or.inl rfl | exact Or.inr rfl)) (pgs_cons (pg_name (i := 5) nd rfl (by first | exact Or.inl rfl | exact Or.inr rfl)) pgs_nil))))))
 (pss_cons (ps_for PassesOwn.never rfl (pi_range1 (by rfl) T.n_range (pa_cons (pe_op op_mul pe_int (pv 1)) pa_nil)) (pg_name (i := 6) nd rfl (by first | exact Or.inl rfl | exact Or.inr rfl))
 (pss_cons (ps_set (i := 7) nd rfl (by first | exact Or.inl rfl | exact Or.inr rfl) (pe_or (pe_cmpR op_eq (pv 5) pe_int (nomark _)) (pe_one (pe_and (pe_cmpR op_lt (pv 4) (pv 1) (nomark _)) (pe_one (pe_cmpR op_lt (pe_f c__law_pin hr (by decide) (by rfl) (pa_cons (pv 0) (pa_cons pe_int pa_nil))) (pv 2) (nomark _)))))))
 (pss_cons (ps_expr (pe_bm PySem.F.plainAttrs_list PySem.F.slot_list_append PySem.F.type_list_append mt_append (pv 3) (pa_cons (pe_ifExp (pt_val (pv 7)) (pe_lit (l := [49]) (by decide +kernel)) (pe_lit (l := [48]) (by decide +kernel))) pa_nil)))
 (pss_one (ps_par (i := 4) (j := 5) rfl nd rfl rfl (by decide) rfl rfl (pa_cons (pe_op op_add (pv 4) (pe_callTy call_int1 (by rfl) T.n_int (by decide +kernel) (pa_cons (pv 7) pa_nil))) (pa_cons (pe_op op_add (pv 5) (pe_ifExp (pt_val (pv 7)) pe_int (pe_un un_neg pe_int))) pa_nil)) (by rfl))))))
 (pss_one (ps_ret (pe_m1 PySem.F.slot_str_join PySem.F.type_str_join mt_joinS (pe_lit (l := []) (by decide +kernel)) (pv 3)))))), ?_⟩
    refine ⟨_, rfl, by show 6 ≤ sizeLine; decide, fun L nL => ?_⟩
    have nLg : L ≠ g := fun e => by
      subst e
      exact hG.some nL
    refine ⟨g, L, _, _, rfl, hG.new nL, by omega, SqL.of upd_same, nLg, by show 0 < 6; decide, by show 6 < 1000; decide, fun H1 u hu f1 G1 => ?_⟩
    obtain ⟨lean, rfl⟩ : ∃ k : Int, u = .int k := by
      simp only [List.mem_cons, List.not_mem_nil, or_false] at hu
      rcases hu with h | h | h | h | h | h <;> exact ⟨_, h⟩
    refine ⟨by show 0 ≤ sizeLine; decide, fun D nD => ⟨by show 4 ≤ sizeLine; decide, fun p np => ⟨p, _, rfl, SqT.of upd_same, rfl, _, _, rfl, _, _, rfl, _, _, rfl, _, _, rfl, rfl, ?_⟩⟩⟩
    have nDg : D ≠ g := fun e => by
      subst e
      exact G1.some nD
    obtain ⟨ce, ce1, ce2⟩ := G1.off nD
    have f0 : Fm g H H1 := (Fm.new nL).trans f1
    have HD : H D = none := by
      cases e : H D with
      | none => rfl
      | some o =>
        rw [f0.k _ _ nDg e] at nD
        cases nD
    refine ⟨_, rfl, _, _, rfl, rfl, .inl ⟨by decide, by decide⟩, 2 * (n : Int), rfl, by omega, by omega, ?_⟩
    have e2n : (2 * (n : Int)).toNat = 2 * n := by omega
    rw [e2n]
    refine for_range (lo := 0) (n := 2 * n) (fun i σ H' => Ce H' g ce ∧ ∃ (ys : List Nat) (o d : Nat) (v6 v7 : Option V), σ = [some (.ref g), some (.int n), some (.int lean), some (.ref D), some (.int o), some (.int d), v6, v7] ∧
      o ≤ n ∧ ys.length = i ∧ 2 * o = i + d ∧ sg ys = true ∧ hgt 0 ys = some d ∧ H' D = some (.lst (sgs ys)) ∧ Fm g H H' ∧ GA H' g (m + 1 + i)) ?_ ?_ ?_
    · exact ⟨(Fm.new np).c _ (ce1.put nDg), [], 0, 0, none, none, rfl, Nat.zero_le _, rfl, rfl, rfl, rfl, same_new np _ _ upd_same, (f0.trans (Fm.new nD)).trans (Fm.new np), (G1.new nD).new np⟩
    · rintro i σ H' hi ⟨cj, ys, o, d, v6, v7, rfl, on, yl, yd, ysg, yh, hD, fj, GJ⟩
      have yz : (sgs ys).length < sizeLine := by
        unfold sgs
        rw [List.length_map]
        exact small1000 (by omega)
      have fin : ∀ (b : Bool) (v6 v7 : Option V) (H2 : Hp), Ce H2 g ce → H2 D = some (.lst (sgs ys)) → Fm g H H2 → GA H2 g (m + 1 + (i + 1)) → (b = true → o < n) → (b = false → 0 < d) →
          Ce (upd H2 D (.lst (sgs ys ++ [.str (S (if b = true then [49] else [48]))]))) g ce ∧ ∃ (ys' : List Nat) (o' d' : Nat) (u6 u7 : Option V),
            [some (V.ref g), some (V.int n), some (V.int lean), some (V.ref D), some (V.int ((o : Int) + (if b = true then 1 else 0))), some (V.int ((d : Int) + (if b = true then 1 else -1))), v6, v7] =
            [some (.ref g), some (.int n), some (.int lean), some (.ref D), some (.int o'), some (.int d'), u6, u7] ∧ o' ≤ n ∧ ys'.length = i + 1 ∧ 2 * o' = (i + 1) + d' ∧ sg ys' = true ∧ hgt 0 ys' = some d' ∧
            (upd H2 D (.lst (sgs ys ++ [.str (S (if b = true then [49] else [48]))]))) D = some (.lst (sgs ys')) ∧ Fm g H (upd H2 D (.lst (sgs ys ++ [.str (S (if b = true then [49] else [48]))]))) ∧ GA (upd H2 D (.lst (sgs ys ++ [.str (S (if b = true then [49] else [48]))]))) g (m + 1 + (i + 1)) := by
        intro b v6 v7 H2 c2 h2 f2 G2 b1 b0
        have put : ∀ o : HO, Fm g H (upd H2 D o) := fun o => ⟨fun x y nx e => by
          have : x ≠ D := fun z => by
            subst z
            rw [HD] at e
            cases e
          rw [upd_ne this]
          exact f2.k _ _ nx e, fun x hx => (f2.c x hx).put nDg⟩
        have ap : ∀ c : Nat, sgs ys ++ [V.str (S [c])] = sgs (ys ++ [c]) := fun c => by
          unfold sgs
          rw [List.map_append]
          rfl
        cases b with
        | true =>
          have := b1 rfl
          refine ⟨c2.put nDg, ys ++ [49], o + 1, d + 1, v6, v7, rfl, by omega, by rw [List.length_append, yl]; rfl, by omega, by rw [sg_app, ysg]; rfl, ?_, by rw [upd_same]; exact congrArg (fun l => some (HO.lst l)) (ap 49), put _, G2.put c2 ce2 nDg⟩
          rw [hgt_app, yh]
          rfl
        | false =>
          have := b0 rfl
          obtain ⟨j, rfl⟩ : ∃ j, d = j + 1 := ⟨d - 1, by omega⟩
          refine ⟨c2.put nDg, ys ++ [48], o, j, v6, v7, ?_, on, by rw [List.length_append, yl]; rfl, by omega, by rw [sg_app, ysg]; rfl, ?_, by rw [upd_same]; exact congrArg (fun l => some (HO.lst l)) (ap 48), put _, G2.put c2 ce2 nDg⟩
          · have e1 : ((j + 1 : Nat) : Int) + -1 = (j : Int) := by omega
            show [_, _, _, _, some (V.int ((o : Int) + 0)), some (V.int (((j + 1 : Nat) : Int) + -1)), _, _] = _
            rw [e1, Int.add_zero]
          · rw [hgt_app, yh]
            show hgt (j + 1) [48] = _
            rw [hgt_down (by decide)]
            rfl
      refine ⟨_, rfl, rfl, _, rfl, ?_⟩
      refine ite2 (fun e => ?_) (fun e => ?_)
      · have d0 : d = 0 := by
          have := V.int.inj (of_decide_eq_true e)
          omega
        refine ⟨_, rfl, .inl ⟨rfl, _, SqL.of hD⟩, _, rfl, _, rfl, iteT ?_⟩
        refine ⟨D, _, _, rfl, rfl, hD, yz, _, rfl, _, rfl, .inr ⟨_, rfl, _, _, rfl, rfl, _, rfl, _, rfl, _, rfl, iteT ⟨_, _, rfl, rfl, _, _, rfl, ?_⟩⟩⟩
        exact fin true _ _ _ cj hD fj (GJ.mono (by omega)) (fun _ => by omega) (fun z => nomatch z)
      · have dp : 0 < d := by
          rcases Nat.eq_zero_or_pos d with h | h
          · exact absurd (decide_eq_true (by rw [h]; rfl)) e
          · exact h
        refine ⟨_, rfl, _, rfl, _, _, rfl, rfl, _, rfl, ?_⟩
        refine ite2 (fun e2 => ?_) (fun e2 => ?_)
        · have ol : o < n := by have := of_decide_eq_true e2; omega
          refine ⟨_, rfl, g, m + 1 + i, 6, rfl, GJ, by omega, by decide, pow_ok (by decide) (by decide), fun H2 t a0 b0 f2 G2 => ?_⟩
          have hD2 := f2.k _ _ nDg hD
          refine ⟨_, rfl, _, _, rfl, rfl, ?_⟩
          dsimp only
          cases decide (t < lean) with
          | true =>
            refine ⟨_, rfl, .inl ⟨rfl, _, SqL.of hD2⟩, _, rfl, _, rfl, iteT ?_⟩
            refine ⟨D, _, _, rfl, rfl, hD2, yz, _, rfl, _, rfl, .inr ⟨_, rfl, _, _, rfl, rfl, _, rfl, _, rfl, _, rfl, iteT ⟨_, _, rfl, rfl, _, _, rfl, ?_⟩⟩⟩
            exact fin true _ _ _ (f2.c _ cj) hD2 (fj.trans f2) G2 (fun _ => ol) (fun z => nomatch z)
          | false =>
            refine ⟨_, rfl, .inl ⟨rfl, _, SqL.of hD2⟩, _, rfl, _, rfl, iteF ?_⟩
            refine ⟨D, _, _, rfl, rfl, hD2, yz, _, rfl, _, rfl, .inr ⟨_, rfl, _, _, rfl, rfl, _, rfl, _, rfl, _, rfl, iteF ⟨_, rfl, _, _, rfl, rfl, _, _, rfl, ?_⟩⟩⟩
            exact fin false _ _ _ (f2.c _ cj) hD2 (fj.trans f2) G2 (fun z => nomatch z) (fun _ => dp)
        · refine ⟨_, rfl, .inl ⟨rfl, _, SqL.of hD⟩, _, rfl, _, rfl, iteF ?_⟩
          refine ⟨D, _, _, rfl, rfl, hD, yz, _, rfl, _, rfl, .inr ⟨_, rfl, _, _, rfl, rfl, _, rfl, _, rfl, _, rfl, iteF ⟨_, rfl, _, _, rfl, rfl, _, _, rfl, ?_⟩⟩⟩
          exact fin false _ _ _ cj hD fj (GJ.mono (by omega)) (fun z => nomatch z) (fun _ => dp)
    · rintro σ H' ⟨cj, ys, o, d, v6, v7, rfl, on, yl, yd, ysg, yh, hD, fj, GJ⟩
      have d0 : d = 0 := by omega
      subst d0
      rw [sgs_map] at hD
      refine ⟨⟨_, rfl⟩, _, rfl, D, _, rfl, rfl, .inl (SqL.of hD), by rw [flat_ones]; omega, ?_⟩
      rw [flat_ones]
      exact q H' ys ysg yh yl fj (GJ.mono (by omega))
end

/-! ### words as rows of trees; the gaps of their pairs -/
inductive Bw where
  | nil : Bw
  | node : Bw → Bw → Bw
namespace Bw
def w : Bw → List Nat
  | nil => []
  | node u v => 49 :: (u.w ++ 48 :: v.w)
def n (b : Bw) : Nat := b.w.length
theorem n_node (u v : Bw) : (node u v).n = u.n + v.n + 2 := by
  show (49 :: (u.w ++ 48 :: v.w)).length = _
  rw [List.length_cons, List.length_append, List.length_cons]
  unfold n
  omega
theorem n_nil : nil.n = 0 := rfl
theorem w_ok : ∀ (b : Bw) (h : Nat), sg b.w = true ∧ hgt h b.w = some h
  | nil, h => ⟨rfl, rfl⟩
  | node u v, h => by
    refine ⟨?_, ?_⟩
    · show ((49 == 48 || 49 == 49) && sg (u.w ++ 48 :: v.w)) = true
      rw [sg_app, (w_ok u 0).1]
      show (true && (true && ((48 == 48 || 48 == 49) && sg v.w))) = true
      rw [(w_ok v 0).1]
      rfl
    · show hgt h (49 :: (u.w ++ 48 :: v.w)) = some h
      rw [hgt_up, hgt_app, (w_ok u (h + 1)).2]
      show hgt (h + 1) (48 :: v.w) = some h
      rw [hgt_down (by decide)]
      exact (w_ok v h).2
theorem sg_tail {c : Nat} {r : List Nat} (h : sg (c :: r) = true) : (c = 48 ∨ c = 49) ∧ sg r = true := by
  have : ((c == 48 || c == 49) && sg r) = true := h
  simp only [Bool.and_eq_true, Bool.or_eq_true, beq_iff_eq] at this
  exact this
theorem parse : ∀ (k : Nat) (a : List Nat) (h : Nat), a.length ≤ k → sg a = true → hgt h a = some 0 → ∃ (b : Bw) (r : List Nat), a = b.w ++ r ∧ (h = 0 → r = []) ∧ (∀ j, h = j + 1 → ∃ r', r = 48 :: r' ∧ hgt j r' = some 0 ∧ sg r' = true)
  | k, [], h, _, _, e => by
    have : h = 0 := Option.some.inj e
    subst this
    exact ⟨nil, [], rfl, (fun _ => rfl), (fun j hj => nomatch hj)⟩
  | 0, c :: t, h, hl, _, _ => absurd hl (by rw [List.length_cons]; omega)
  | k + 1, c :: t, h, hl, hs, e => by
    rw [List.length_cons] at hl
    obtain ⟨h2, st⟩ := sg_tail hs
    rcases h2 with rfl | rfl
    · cases h with
      | zero => rw [hgt_zero (by decide)] at e; cases e
      | succ j =>
        rw [hgt_down (by decide)] at e
        exact ⟨nil, 48 :: t, rfl, (fun z => nomatch z), fun i hi => ⟨t, rfl, by rw [← Nat.succ.inj hi]; exact e, st⟩⟩
    · rw [hgt_up] at e
      obtain ⟨u, r, e1, _, e3⟩ := parse k t (h + 1) (by omega) st e
      obtain ⟨r', rfl, e4, s4⟩ := e3 h rfl
      have ll : t.length = u.w.length + (r'.length + 1) := by rw [e1, List.length_append, List.length_cons]
      obtain ⟨v, r2, e5, e6, e7⟩ := parse k r' h (by omega) s4 e4
      refine ⟨node u v, r2, ?_, e6, e7⟩
      rw [e1, e5]
      show _ = 49 :: (u.w ++ 48 :: v.w) ++ r2
      simp
theorem of_word {a : List Nat} (hs : sg a = true) (h : hgt 0 a = some 0) : ∃ b : Bw, a = b.w := by
  obtain ⟨b, r, e, e0, _⟩ := parse a.length a 0 (Nat.le_refl _) hs h
  rw [e0 rfl, List.append_nil] at e
  exact ⟨b, e⟩
/-- from a sign to its partner's: how far, on or back -/
def gf : Bw → Nat → Int
  | nil, _ => 0
  | node u v, i => if i = 0 then (u.n + 1 : Nat) else if i ≤ u.n then gf u (i - 1) else if i = u.n + 1 then -((u.n + 1 : Nat) : Int) else gf v (i - u.n - 2)
theorem gf_0 (u v : Bw) : gf (node u v) 0 = (u.n + 1 : Nat) := by
  show (if 0 = 0 then _ else _) = _
  rw [if_pos rfl]
theorem gf_u (u v : Bw) {i : Nat} (h1 : 1 ≤ i) (h2 : i ≤ u.n) : gf (node u v) i = gf u (i - 1) := by
  show (if i = 0 then _ else if i ≤ u.n then _ else _) = _
  rw [if_neg (by omega), if_pos h2]
theorem gf_m (u v : Bw) : gf (node u v) (u.n + 1) = -((u.n + 1 : Nat) : Int) := by
  show (if u.n + 1 = 0 then _ else if u.n + 1 ≤ u.n then _ else if u.n + 1 = u.n + 1 then _ else _) = _
  rw [if_neg (by omega), if_neg (by omega), if_pos rfl]
theorem gf_v (u v : Bw) {i : Nat} (h : u.n + 2 ≤ i) : gf (node u v) i = gf v (i - u.n - 2) := by
  show (if i = 0 then _ else if i ≤ u.n then _ else if i = u.n + 1 then _ else _) = _
  rw [if_neg (by omega), if_neg (by omega), if_neg (by omega)]
theorem gf_in : ∀ (b : Bw) (k : Nat), k < b.n → 0 ≤ (k : Int) + gf b k ∧ (k : Int) + gf b k < b.n ∧ ((b.w[k]? = some 49 ∧ 0 < gf b k) ∨ (b.w[k]? = some 48 ∧ gf b k < 0))
  | nil, k, h => absurd h (Nat.not_lt_zero _)
  | node u v, k, h => by
    rw [n_node] at h ⊢
    have e : (node u v).w = 49 :: (u.w ++ 48 :: v.w) := rfl
    rw [e]
    have un : u.w.length = u.n := rfl
    have vn : v.w.length = v.n := rfl
    by_cases h0 : k = 0
    · subst h0
      rw [gf_0]
      refine ⟨by omega, by omega, .inl ⟨rfl, by omega⟩⟩
    · obtain ⟨j, rfl⟩ : ∃ j, k = j + 1 := ⟨k - 1, by omega⟩
      rw [List.getElem?_cons_succ]
      by_cases h1 : j + 1 ≤ u.n
      · rw [gf_u u v (by omega) h1, Nat.add_sub_cancel, List.getElem?_append_left (by omega)]
        obtain ⟨a1, a2, a3⟩ := gf_in u j (by omega)
        exact ⟨by omega, by omega, a3⟩
      · rw [List.getElem?_append_right (by omega), un]
        by_cases h2 : j = u.n
        · subst h2
          rw [gf_m, Nat.sub_self]
          exact ⟨by omega, by omega, .inr ⟨rfl, by omega⟩⟩
        · rw [gf_v u v (by omega)]
          obtain ⟨i, rfl⟩ : ∃ i, j = u.n + 1 + i := ⟨j - u.n - 1, by omega⟩
          have e1 : u.n + 1 + i - u.n = i + 1 := by omega
          have e2 : u.n + 1 + i + 1 - u.n - 2 = i := by omega
          rw [e1, e2, List.getElem?_cons_succ]
          obtain ⟨a1, a2, a3⟩ := gf_in v i (by omega)
          exact ⟨by omega, by omega, a3⟩
/-- one behind another -/
def app : Bw → Bw → Bw
  | nil, c => c
  | node u v, c => node u (app v c)
theorem app_w : ∀ b c : Bw, (app b c).w = b.w ++ c.w
  | nil, c => rfl
  | node u v, c => by
    show 49 :: (u.w ++ 48 :: (app v c).w) = 49 :: (u.w ++ 48 :: v.w) ++ c.w
    rw [app_w v c]
    simp
theorem app_n (b c : Bw) : (app b c).n = b.n + c.n := by
  unfold n
  rw [app_w, List.length_append]
theorem gf_app : ∀ (b c : Bw) (i : Nat), gf (app b c) i = if i < b.n then gf b i else gf c (i - b.n)
  | nil, c, i => by
    rw [n_nil, if_neg (Nat.not_lt_zero _)]
    rfl
  | node u v, c, i => by
    show gf (node u (app v c)) i = _
    rw [n_node]
    by_cases h0 : i = 0
    · subst h0
      rw [gf_0, if_pos (by omega), gf_0]
    · by_cases h1 : i ≤ u.n
      · rw [gf_u _ _ (by omega) h1, if_pos (by omega), gf_u _ _ (by omega) h1]
      · by_cases h2 : i = u.n + 1
        · subst h2
          rw [gf_m, if_pos (by omega), gf_m]
        · rw [gf_v _ _ (by omega), gf_app v c]
          by_cases h3 : i < u.n + v.n + 2
          · rw [if_pos (by omega), if_pos h3, gf_v _ _ (by omega)]
          · rw [if_neg (by omega), if_neg h3]
            congr 1
            omega
/-- turned: 1 u 0 v becomes u 1 v 0 -/
def turn : Bw → Bw
  | nil => nil
  | node u v => app u (node v nil)
theorem turn_w (u v : Bw) : (turn (node u v)).w = u.w ++ 49 :: (v.w ++ [48]) := app_w _ _
theorem turn_n : ∀ b : Bw, (turn b).n = b.n
  | nil => rfl
  | node u v => by
    show (app u (node v nil)).n = _
    rw [app_n, n_node, n_node, n_nil]
    omega
/-- the gap on, all around -/
def gap (b : Bw) (k : Nat) : Int := if 0 < gf b k then gf b k else (b.n : Int) + gf b k
theorem gap_turn (b : Bw) (k : Nat) (h : k < b.n) : gap (turn b) k = gap b ((k + 1) % b.n) := by
  cases b with
  | nil => exact absurd h (Nat.not_lt_zero _)
  | node u v =>
    have e : gf (turn (node u v)) k = if k < u.n then gf u k else gf (node v nil) (k - u.n) := gf_app _ _ _
    have hn := turn_n (node u v)
    unfold gap
    rw [hn, e]
    rw [n_node] at h ⊢
    by_cases h1 : k < u.n
    · rw [if_pos h1, Nat.mod_eq_of_lt (by omega), gf_u u v (by omega) (by omega), Nat.add_sub_cancel]
    · rw [if_neg h1]
      by_cases h2 : k = u.n
      · subst h2
        rw [Nat.sub_self, gf_0, Nat.mod_eq_of_lt (by omega), gf_m, if_pos (by omega), if_neg (by omega)]
        omega
      · by_cases h3 : k < u.n + v.n + 1
        · rw [gf_u v nil (by omega) (by omega), Nat.mod_eq_of_lt (by omega), gf_v u v (by omega)]
          have e1 : k - u.n - 1 = k + 1 - u.n - 2 := by omega
          rw [e1]
        · have e1 : k - u.n = v.n + 1 := by omega
          have e2 : k + 1 = u.n + v.n + 2 := by omega
          rw [e1, gf_m, e2, Nat.mod_self, gf_0, if_neg (by omega), if_pos (by omega)]
          omega
def turns : Nat → Bw → Bw
  | 0, b => b
  | s + 1, b => turns s (turn b)
theorem turns_n : ∀ (s : Nat) (b : Bw), (turns s b).n = b.n
  | 0, b => rfl
  | s + 1, b => by
    show (turns s (turn b)).n = b.n
    rw [turns_n s, turn_n]
theorem turns_add : ∀ (s t : Nat) (b : Bw), turns (s + t) b = turns t (turns s b)
  | 0, t, b => by rw [Nat.zero_add]; rfl
  | s + 1, t, b => by
    have e : s + 1 + t = (s + t) + 1 := by omega
    rw [e]
    exact turns_add s t (turn b)
theorem gap_turns : ∀ (s : Nat) (b : Bw) (k : Nat), k < b.n → gap (turns s b) k = gap b ((k + s) % b.n)
  | 0, b, k, h => by rw [Nat.add_zero, Nat.mod_eq_of_lt h]; rfl
  | s + 1, b, k, h => by
    show gap (turns s (turn b)) k = _
    have hp : 0 < b.n := by omega
    rw [gap_turns s (turn b) k (by rw [turn_n]; exact h), turn_n, gap_turn b _ (Nat.mod_lt _ hp)]
    congr 1
    rw [Nat.mod_add_mod]
    rfl
/-- the signs that gaps tell -/
theorem sign_gap (b : Bw) (k : Nat) (h : k < b.n) : b.w[k]? = some (if (k : Int) + gap b k < b.n then 49 else 48) := by
  obtain ⟨a1, a2, a3⟩ := gf_in b k h
  unfold gap
  rcases a3 with ⟨e, p⟩ | ⟨e, p⟩
  · rw [if_pos p, if_pos a2, e]
  · rw [if_neg (show ¬ 0 < gf b k by omega), if_neg (show ¬ (k : Int) + ((b.n : Int) + gf b k) < b.n by omega), e]
theorem w_of_gap {b c : Bw} (hn : b.n = c.n) (h : ∀ k, k < b.n → gap b k = gap c k) : b.w = c.w := by
  refine List.ext_getElem? fun k => ?_
  by_cases hk : k < b.n
  · rw [sign_gap b k hk, sign_gap c k (by omega), h k hk, hn]
  · have h1 : b.w.length = b.n := rfl
    have h2 : c.w.length = c.n := rfl
    rw [List.getElem?_eq_none (by omega), List.getElem?_eq_none (by omega)]
theorem w_inj : ∀ b c : Bw, b.w = c.w → b = c
  | nil, nil, _ => rfl
  | nil, node _ _, h => nomatch h
  | node _ _, nil, h => nomatch h
  | node u v, node x y, h => by
    have e : u.w ++ 48 :: v.w = x.w ++ 48 :: y.w := (List.cons.inj h).2
    have key : ∀ (a b : Bw) (r t : List Nat), a.w ++ 48 :: r = b.w ++ 48 :: t → a.w.length < b.w.length → False := by
      intro a b r t e hl
      have h1 : b.w.take (a.w.length + 1) = a.w ++ [48] := by
        have := congrArg (List.take (a.w.length + 1)) e
        rw [List.take_append_of_le_length (l₁ := b.w) (by omega)] at this
        rw [← this, List.take_append, List.take_of_length_le (Nat.le_succ _)]
        have e9 : a.w.length + 1 - a.w.length = 1 := by omega
        rw [e9]
        rfl
      have h2 := (w_ok b 0).2
      have h3 : b.w = (a.w ++ [48]) ++ b.w.drop (a.w.length + 1) := by rw [← h1, List.take_append_drop]
      rw [h3, hgt_app, hgt_app, (w_ok a 0).2] at h2
      cases h2
    have hl : u.w.length = x.w.length := by
      rcases Nat.lt_trichotomy u.w.length x.w.length with h1 | h1 | h1
      · exact (key u x _ _ e h1).elim
      · exact h1
      · exact (key x u _ _ e.symm h1).elim
    obtain ⟨e1, e2⟩ := List.append_inj e hl
    rw [w_inj u x e1, w_inj v y (List.cons.inj e2).2]
instance : DecidableEq Bw := fun a b => decidable_of_iff (a.w = b.w) ⟨w_inj a b, fun h => by rw [h]⟩
theorem turns_full (b : Bw) : turns b.n b = b := by
  refine w_inj _ _ (w_of_gap (turns_n _ _) fun k hk => ?_)
  rw [turns_n] at hk
  rw [gap_turns _ _ _ hk, Nat.add_mod_right, Nat.mod_eq_of_lt hk]
theorem gap_inj {b c : Bw} (hn : b.n = c.n) (h : ∀ k, k < b.n → gap b k = gap c k) : b = c := w_inj _ _ (w_of_gap hn h)
end Bw

/-! ### the program's gaps, and its turns -/
def fset (F : Nat → Int) (i : Nat) (v : Int) : Nat → Int := fun k => if k = i then v else F k
def runF (L : Nat) : List Nat → Nat → (Nat → Int) → List Nat → (Nat → Int)
  | [], _, F, _ => F
  | c :: r, p, F, sk => if c = 49 then runF L r (p + 1) F (p :: sk) else match sk with
    | [] => F
    | s :: t => runF L r (p + 1) (fset (fset F s ((p : Int) - (s : Int))) p ((L : Int) - ((p : Int) - (s : Int)))) t
def putD (L : Nat) : Bw → Nat → (Nat → Int) → (Nat → Int)
  | .nil, _, F => F
  | .node u v, p, F => putD L v (p + u.n + 2) (fset (fset (putD L u (p + 1) F) p (((p + u.n + 1 : Nat) : Int) - (p : Int))) (p + u.n + 1) ((L : Int) - (((p + u.n + 1 : Nat) : Int) - (p : Int))))
theorem run_b (L : Nat) : ∀ (b : Bw) (r : List Nat) (p : Nat) (F : Nat → Int) (sk : List Nat), runF L (b.w ++ r) p F sk = runF L r (p + b.n) (putD L b p F) sk
  | .nil, r, p, F, sk => rfl
  | .node u v, r, p, F, sk => by
    have e : (Bw.node u v).w ++ r = 49 :: (u.w ++ (48 :: (v.w ++ r))) := by
      show (49 :: (u.w ++ 48 :: v.w)) ++ r = _
      simp
    rw [e, Bw.n_node]
    show runF L (u.w ++ (48 :: (v.w ++ r))) (p + 1) F (p :: sk) = _
    rw [run_b L u]
    show runF L (v.w ++ r) (p + 1 + u.n + 1) (fset (fset (putD L u (p + 1) F) p (((p + 1 + u.n : Nat) : Int) - (p : Int))) (p + 1 + u.n) ((L : Int) - (((p + 1 + u.n : Nat) : Int) - (p : Int)))) sk = _
    rw [run_b L v]
    have e1 : p + 1 + u.n = p + u.n + 1 := by omega
    have e2 : p + 1 + u.n + 1 + v.n = p + (u.n + v.n + 2) := by omega
    have e3 : p + 1 + u.n + 1 = p + u.n + 2 := by omega
    rw [e2, e3, e1]
    rfl
theorem putD_at (L : Nat) : ∀ (b : Bw) (p : Nat) (F : Nat → Int) (i : Nat), putD L b p F i = if p ≤ i ∧ i < p + b.n then (if 0 < Bw.gf b (i - p) then Bw.gf b (i - p) else (L : Int) + Bw.gf b (i - p)) else F i
  | .nil, p, F, i => by
    rw [Bw.n_nil, if_neg (by omega)]
    rfl
  | .node u v, p, F, i => by
    show putD L v (p + u.n + 2) _ i = _
    rw [putD_at L v, Bw.n_node]
    by_cases h1 : p + u.n + 2 ≤ i ∧ i < p + u.n + 2 + v.n
    · have e : i - (p + u.n + 2) = i - p - u.n - 2 := by omega
      rw [if_pos h1, if_pos (show p ≤ i ∧ i < p + (u.n + v.n + 2) by omega), Bw.gf_v u v (by omega), e]
    · rw [if_neg h1]
      show (if i = p + u.n + 1 then _ else (if i = p then _ else putD L u (p + 1) F i)) = _
      by_cases h2 : i = p + u.n + 1
      · subst h2
        have e : p + u.n + 1 - p = u.n + 1 := by omega
        rw [if_pos rfl, if_pos (by omega), e, Bw.gf_m, if_neg (by omega)]
        omega
      · rw [if_neg h2]
        by_cases h3 : i = p
        · subst h3
          rw [if_pos rfl, if_pos (by omega), Nat.sub_self, Bw.gf_0, if_pos (by omega)]
          omega
        · rw [if_neg h3, putD_at L u]
          by_cases h4 : p + 1 ≤ i ∧ i < p + 1 + u.n
          · have e : i - (p + 1) = i - p - 1 := by omega
            rw [if_pos h4, if_pos (show p ≤ i ∧ i < p + (u.n + v.n + 2) by omega), Bw.gf_u u v (by omega) (by omega), e]
          · rw [if_neg h4, if_neg (by omega)]
theorem run_gap (b : Bw) (k : Nat) (h : k < b.n) : runF b.n b.w 0 (fun _ => 0) [] k = Bw.gap b k := by
  have e := run_b b.n b [] 0 (fun _ => 0) []
  rw [List.append_nil] at e
  rw [e]
  show putD b.n b 0 (fun _ => 0) k = _
  rw [putD_at, if_pos (by omega), Nat.sub_zero]
  rfl
def gapL (b : Bw) : List V := (List.range b.n).map fun k => V.int (Bw.gap b k)
theorem gapL_len (b : Bw) : (gapL b).length = b.n := by unfold gapL; rw [List.length_map, List.length_range]
theorem map_fset (L : Nat) (F : Nat → Int) (i : Nat) (v : Int) : ((List.range L).map fun k => V.int (F k)).set i (.int v) = (List.range L).map fun k => V.int (fset F i v k) := by
  refine List.ext_getElem? fun k => ?_
  rw [List.getElem?_set, List.getElem?_map, List.getElem?_map]
  by_cases hk : k < L
  · rw [List.getElem?_range hk]
    unfold fset
    by_cases e : i = k
    · subst e
      rw [if_pos rfl, if_pos (by rw [List.length_map, List.length_range]; exact hk)]
      simp
    · rw [if_neg e]
      simp [Ne.symm e]
  · have e0 : (List.range L)[k]? = none := List.getElem?_eq_none (by rw [List.length_range]; omega)
    rw [e0]
    by_cases e : i = k
    · subst e
      rw [if_pos rfl, if_neg (by rw [List.length_map, List.length_range]; exact hk)]
      rfl
    · rw [if_neg e]
      rfl
theorem rot_gap (b : Bw) (s : Nat) (hs : s < b.n) : (gapL b).drop s ++ (gapL b).take s = gapL (Bw.turns s b) := by
  refine List.ext_getElem? fun k => ?_
  have hl := gapL_len b
  have hl2 := gapL_len (Bw.turns s b)
  have hn := Bw.turns_n s b
  by_cases hk : k < b.n
  · have r2 : (gapL (Bw.turns s b))[k]? = some (.int (Bw.gap b ((k + s) % b.n))) := by
      unfold gapL
      rw [List.getElem?_map, hn, List.getElem?_range hk]
      show some (V.int (Bw.gap (Bw.turns s b) k)) = _
      rw [Bw.gap_turns s b k hk]
    rw [r2]
    by_cases h1 : k < b.n - s
    · rw [List.getElem?_append_left (by rw [List.length_drop, hl]; exact h1), List.getElem?_drop, Nat.mod_eq_of_lt (by omega), Nat.add_comm s k]
      unfold gapL
      rw [List.getElem?_map, List.getElem?_range (by omega)]
      rfl
    · rw [List.getElem?_append_right (by rw [List.length_drop, hl]; omega), List.length_drop, hl]
      have e : (k + s) % b.n = k - (b.n - s) := by
        have e1 : k + s = (k - (b.n - s)) + b.n := by omega
        rw [e1, Nat.add_mod_right, Nat.mod_eq_of_lt (by omega)]
      rw [e, List.getElem?_take_of_lt (by omega)]
      unfold gapL
      rw [List.getElem?_map, List.getElem?_range (by omega)]
      rfl
  · rw [List.getElem?_eq_none (by rw [List.length_append, List.length_drop, List.length_take, hl]; omega), List.getElem?_eq_none (by omega)]
theorem gapL_inj {b c : Bw} (h : gapL b = gapL c) : b = c := by
  have hn : b.n = c.n := by rw [← gapL_len b, ← gapL_len c, h]
  refine Bw.gap_inj hn fun k hk => ?_
  have e := congrArg (fun l : List V => l[k]?) h
  have e2 : (gapL b)[k]? = (gapL c)[k]? := e
  unfold gapL at e2
  rw [List.getElem?_map, List.getElem?_map, List.getElem?_range hk, List.getElem?_range (by omega)] at e2
  exact V.int.inj (Option.some.inj e2)
theorem sq_same {K : PySem.W.Frag} {H H' : Hp} {a : Addr} {xs : List V} (h : Same H H') (s : SqL K H a xs) : SqL K H' a xs := by
  rcases s with (s | ⟨o, s⟩) | s
  · exact .inl (.inl (h _ _ s))
  · exact .inl (.inr ⟨o, h _ _ s⟩)
  · exact .inr s
theorem ixN_nat {n i : Nat} (h : i < n) : ixN n (i : Int) = some i := by
  unfold ixN
  rw [if_pos (by omega), if_pos (by omega), Int.toNat_natCast]
theorem cutV_from (xs : List V) (k : Nat) : cutV xs (some (k : Int)) none = xs.drop k := by
  unfold cutV
  rw [HT.sIx_none, HT.sIx_nat]
  rcases Nat.le_total k xs.length with h | h
  · rw [Nat.min_eq_left h, List.take_of_length_le (by rw [List.length_drop]; exact Nat.le_refl _)]
  · rw [Nat.min_eq_right h, List.drop_eq_nil_of_le (Nat.le_refl _), List.drop_eq_nil_of_le h, List.take_nil]
def spGaps : Sp := fun vs H Q _ => ∃ b : Bw, vs = [.str (S b.w)] ∧ b.n ≤ 400 ∧ ∀ (H' : Hp) (G : Addr), Same H H' → H G = none → H' G = some (.lst (gapL b)) → Q (.ref G) H'
def spMoved (K : PySem.W.Frag) : Sp := fun vs H Q _ => ∃ (A : Addr) (xs : List V) (m : Int), vs = [.ref A, .int m] ∧ SqL K H A xs ∧ 0 < xs.length ∧ xs.length ≤ 2000 ∧ ∀ (H' : Hp) (R : Addr), Same H H' → H R = none → H' R = some (.lst (xs.drop (m % xs.length).toNat ++ xs.take (m % xs.length).toNat)) → Q (.ref R) H'
def spWog (K : PySem.W.Frag) : Sp := fun vs H Q _ => ∃ (A : Addr) (b : Bw), vs = [.ref A] ∧ SqL K H A (gapL b) ∧ b.n ≤ 400 ∧ ∀ H', Same H H' → Q (.str (S b.w)) H'
def spWturn : Sp := fun vs H Q _ => ∃ (b : Bw) (m : Int), vs = [.str (S b.w), .int m] ∧ 0 < b.n ∧ b.n ≤ 400 ∧ ∀ H', Same H H' → Q (.str (S (Bw.turns (m % b.n).toNat b).w)) H'
def spTurnBy (m : Int) : Sp := fun vs H Q _ => ∃ b : Bw, vs = [.str (S b.w)] ∧ 0 < b.n ∧ b.n ≤ 400 ∧ ∀ H', Same H H' → Q (.str (S (Bw.turns (m % b.n).toNat b).w)) H'
theorem Bw.isWd (b : Bw) (h0 : 0 < b.n) (h : b.n ≤ 400) : EH.isWd b.w = true := by
  have h1 := (Bw.w_ok b 0)
  have h2 := (hgt_len _ _ h1.2).2
  have h3 : b.w.length = b.n := rfl
  exact isWd_mk h1.1 (by omega) (by omega) h1.2
section
variable {P : Program} {w : World} {K : PySem.W.Frag} {mg : Str → Option Value} {base : Heap}
theorem ok_gaps_of {f : Addr} {fd : FuncData} (F : Fun K "gaps_of" "gaps_of" s_gaps_of f fd) (T : Txt K mg) : FnOk P w K mg base CX0 1 f fd ["word"] spGaps := by
  have nd := sc_gaps_of.nd
  refine F.ok sc_gaps_of (fun vs H Q E h => ?_) (fun cdv A outer s H vs Q E hr h => ?_)
  · obtain ⟨b, rfl, _⟩ := h
    rfl
  · obtain ⟨b, rfl, hb, q⟩ := h
    refine ⟨_, (pss_cons (ps_set (i := 1) nd rfl (by first | exact Or.inl rfl | exact Or.inr rfl) (pe_op op_rep (pe_lst (pa_cons pe_int pa_nil)) (pe_callB call_len_S (by rfl) T.n_len (by decide +kernel) (pa_cons (pv 0) pa_nil))))
 (pss_cons (ps_set (i := 2) nd rfl (by first | exact Or.inl rfl | exact Or.inr rfl) (pe_lst pa_nil))
 (pss_cons (ps_for PassesOwn.never rfl (pi_enumS (by rfl) T.n_enumerate (pa_cons (pv 0) pa_nil)) (pg_tup rfl (pgs_cons (pg_name (i := 3) nd rfl (by first | exact Or.inl rfl | exact Or.inr rfl)) (pgs_cons (pg_name (i := 4) nd rfl (by first | exact Or.inl rfl | exact Or.inr rfl)) pgs_nil)))
 (pss_one (ps_if (pt_cmpR op_eq_S (pv 4) (pe_lit (l := [49]) (by decide +kernel)) (nomark _))
 (pss_one (ps_expr (pe_bm PySem.F.plainAttrs_list PySem.F.slot_list_append PySem.F.type_list_append mt_append (pv 2) (pa_cons (pv 3) pa_nil))))
 (pss_cons (ps_set (i := 5) nd rfl (by first | exact Or.inl rfl | exact Or.inr rfl) (pe_bm0 PySem.F.plainAttrs_list PySem.F.slot_list_pop PySem.F.type_list_pop mt_pop (pv 2)))
 (pss_cons (ps_asg (pe_op op_sub (pv 3) (pv 5)) (pg_sub (pv 1) (pv 5) set_list))
 (pss_one (ps_asg (pe_op op_sub (pe_callB call_len_S (by rfl) T.n_len (by decide +kernel) (pa_cons (pv 0) pa_nil)) (pe_ix (show IxR _ (rIxL K) from ix_list) (pv 1) (pv 5) (fun _ _ => rfl))) (pg_sub (pv 1) (pv 3) set_list))))))))
 (pss_one (ps_ret (pv 1)))))), ?_⟩
    have lz : ∀ n : Nat, n ≤ 2000 → n ≤ sizeLine := fun n h => Nat.le_trans h (by decide)
    have wn : b.w.length = b.n := rfl
    have tn : ((b.w.length : Nat) : Int).toNat = b.n := Int.toNat_natCast _
    refine ⟨by show 1 ≤ sizeLine; decide, fun G0 n0 => ⟨_, rfl, b.w, rfl, lz _ (by omega), _, _, _, rfl, rfl, upd_same, by omega, by omega, by show 1 * ((b.w.length : Nat) : Int).toNat ≤ sizeLine; rw [tn]; exact lz _ (by omega), fun G nG => ?_⟩⟩
    refine ⟨by show 0 ≤ sizeLine; decide, fun O nO => ?_⟩
    have hG : (upd (upd (upd H G0 (.lst [.int 0])) G (.lst (List.replicate ((b.w.length : Nat) : Int).toNat [V.int 0]).flatten)) O (.lst [])) G = some (.lst ((List.range b.n).map fun k => V.int ((fun _ => 0 : Nat → Int) k))) := by
      have e : ∀ n : Nat, (List.replicate n [V.int 0]).flatten = (List.range n).map fun _ => V.int 0 := by
        intro n
        induction n with
        | zero => rfl
        | succ n ih => rw [List.replicate_succ', List.flatten_append, ih, List.range_succ, List.map_append]; rfl
      rw [upd_ne (ne_of_none upd_same nO), upd_same, tn, e]
    have hO : (upd (upd (upd H G0 (.lst [.int 0])) G (.lst (List.replicate ((b.w.length : Nat) : Int).toNat [V.int 0]).flatten)) O (.lst [])) O = some (.lst (([] : List Nat).reverse.map fun n : Nat => V.int n)) := upd_same
    have s0 : Same H (upd (upd (upd H G0 (.lst [.int 0])) G (.lst (List.replicate ((b.w.length : Nat) : Int).toNat [V.int 0]).flatten)) O (.lst [])) := fun x o e => same_new nO _ _ (same_new nG _ _ (same_new n0 _ _ e))
    have nGO : G ≠ O := fun e => by
      subst e
      rw [upd_same] at nO
      cases nO
    have HG : H G = none := by
      cases e : H G with
      | none => rfl
      | some o =>
        rw [same_new n0 _ _ e] at nG
        cases nG
    have HO' : H O = none := by
      cases e : H O with
      | none => rfl
      | some o =>
        rw [same_new nG (o := .lst (List.replicate ((b.w.length : Nat) : Int).toNat [V.int 0]).flatten) _ _ (same_new n0 _ _ e)] at nO
        cases nO
    have bh := (Bw.w_ok b 0).2
    refine ⟨_, rfl, b.w, rfl, for_ES (K := K) (a := b.w) (fun i σ H' => Same H H' ∧ ∃ (F : Nat → Int) (sk : List Nat) (v3 v4 v5 : Option V), σ = [some (.str (S b.w)), some (.ref G), some (.ref O), v3, v4, v5] ∧
      H' G = some (.lst ((List.range b.n).map fun k => V.int (F k))) ∧ H' O = some (.lst (sk.reverse.map fun n : Nat => V.int n)) ∧ (∀ s ∈ sk, s < i) ∧ sk.length ≤ i ∧ hgt sk.length (b.w.drop i) = some 0 ∧
      runF b.n (b.w.drop i) i F sk = runF b.n b.w 0 (fun _ => 0) []) ?_ ?_ ?_⟩
    · exact ⟨s0, fun _ => 0, [], none, none, none, rfl, hG, hO, nofun, Nat.le_refl _, bh, rfl⟩
    · rintro i c σ H' T hc ⟨sm, F, sk, v3, v4, v5, rfl, hG, hO, si, sl, sh, sr⟩ hT
      have il : i < b.n := (List.getElem?_eq_some_iff.mp hc).1
      rw [drop_at hc] at sh sr
      have tG : T ≠ G := fun e => by subst e; rw [hG] at hT; cases hT
      have tO : T ≠ O := fun e => by subst e; rw [hO] at hT; cases hT
      have hG1 : (upd H' T (.tup [.int (i : Nat), .str (S [c])])) G = some (.lst ((List.range b.n).map fun k => V.int (F k))) := same_new hT _ _ hG
      have hO1 : (upd H' T (.tup [.int (i : Nat), .str (S [c])])) O = some (.lst (sk.reverse.map fun n : Nat => V.int n)) := same_new hT _ _ hO
      have sm1 : Same H (upd H' T (.tup [.int (i : Nat), .str (S [c])])) := fun x o e => same_new hT _ _ (sm _ _ e)
      refine ⟨T, _, rfl, SqT.of upd_same, rfl, _, _, rfl, _, _, rfl, rfl, ?_⟩
      refine ⟨_, rfl, [c], [49], rfl, rfl, _, rfl, ?_⟩
      by_cases ec : c = 49
      · subst ec
        rw [decide_eq_true rfl]
        refine iteT ?_
        rw [hgt_up] at sh
        refine ⟨_, rfl, .inl ⟨rfl, _, SqL.of hO1⟩, _, rfl, O, _, _, rfl, rfl, hO1, by rw [List.length_map, List.length_reverse]; exact small1000 (by omega), ?_⟩
        refine ⟨same_put sm1 HO', F, i :: sk, some (.int (i : Nat)), some (.str (S [49])), v5, rfl, by rw [upd_ne nGO]; exact hG1, ?_, fun s hs => ?_, by rw [List.length_cons]; omega, sh, sr⟩
        · rw [upd_same, List.reverse_cons, List.map_append]
          rfl
        · rcases List.mem_cons.mp hs with h | h
          · omega
          · have := si s h
            omega
      · rw [decide_eq_false (show ¬ [c] = [49] from fun h => ec (List.cons.inj h).1)]
        refine iteF ?_
        cases sk with
        | nil =>
          have : hgt 0 (c :: b.w.drop (i + 1)) = some 0 := sh
          rw [hgt_zero ec] at this
          cases this
        | cons s sk =>
          have s1 := si s (List.mem_cons_self ..)
          have sh2 : hgt (sk.length + 1) (c :: b.w.drop (i + 1)) = some 0 := sh
          rw [hgt_down ec] at sh2
          have sr2 : runF b.n (b.w.drop (i + 1)) (i + 1) (fset (fset F s ((i : Int) - (s : Int))) i ((b.n : Int) - ((i : Int) - (s : Int)))) sk = runF b.n b.w 0 (fun _ => 0) [] := by
            rw [← sr]
            show _ = (if c = 49 then _ else _)
            rw [if_neg ec]
          have er : (s :: sk).reverse.map (fun n : Nat => V.int n) = sk.reverse.map (fun n : Nat => V.int n) ++ [V.int s] := by rw [List.reverse_cons, List.map_append]; rfl
          rw [er] at hO1
          refine ⟨_, rfl, .inl ⟨rfl, _, SqL.of hO1⟩, O, _, _, rfl, rfl, hO1, by rw [List.length_append, List.getElem?_append_right (by show _ ≤ _ + 1 - 1; omega)]; show [V.int s][_ + 1 - 1 - _]? = _; rw [Nat.add_sub_cancel, Nat.sub_self]; rfl, ?_⟩
          rw [List.dropLast_concat]
          obtain ⟨H2, e2⟩ : ∃ H2, H2 = upd (upd H' T (.tup [.int (i : Nat), .str (S [c])])) O (.lst (sk.reverse.map (fun n : Nat => V.int n))) := ⟨_, rfl⟩
          have hG2 : H2 G = some (.lst ((List.range b.n).map fun k => V.int (F k))) := by rw [e2, upd_ne nGO]; exact hG1
          have hO2 : H2 O = some (.lst (sk.reverse.map (fun n : Nat => V.int n))) := by rw [e2]; exact upd_same
          have sm2 : Same H H2 := by rw [e2]; exact same_put sm1 HO'
          rw [← e2]
          have lr : ∀ F : Nat → Int, ((List.range b.n).map fun k => V.int (F k)).length = b.n := fun F => by rw [List.length_map, List.length_range]
          refine ⟨_, rfl, _, rfl, _, _, rfl, rfl, _, rfl, _, rfl, G, _, _, s, rfl, rfl, hG2, by rw [lr]; exact ixN_nat (by omega), ?_⟩
          rw [map_fset]
          refine ⟨_, rfl, b.w, rfl, lz _ (by omega), _, rfl, _, rfl, G, _, _, .int ((i : Int) - (s : Int)), rfl, rfl, SqL.of upd_same, ?_, _, _, rfl, rfl, ?_⟩
          · refine atI_nat ?_
            rw [List.getElem?_map, List.getElem?_range (by omega)]
            show some (V.int (if s = s then _ else _)) = _
            rw [if_pos rfl]
          refine ⟨_, rfl, _, rfl, G, _, _, i, rfl, rfl, upd_same, by rw [lr]; exact ixN_nat il, ?_⟩
          rw [map_fset, upd_upd]
          refine ⟨same_put sm2 HG, _, sk, _, _, _, rfl, upd_same, by rw [upd_ne (Ne.symm nGO)]; exact hO2, fun x hx => ?_, ?_, sh2, sr2⟩
          · have := si x (List.mem_cons_of_mem _ hx)
            omega
          · rw [List.length_cons] at sl
            omega
    · rintro σ H' ⟨sm, F, sk, v3, v4, v5, rfl, hG, hO, si, sl, sh, sr⟩
      rw [List.drop_length] at sr
      refine ⟨_, rfl, q H' G sm HG ?_⟩
      rw [hG]
      unfold gapL
      congr 2
      refine List.map_congr_left fun k hk => ?_
      rw [← run_gap b k (List.mem_range.mp hk), ← sr]
      rfl
theorem ok_moved_round {f : Addr} {fd : FuncData} (F : Fun K "moved_round" "moved_round" s_moved_round f fd) (T : Txt K mg) : FnOk P w K mg base CX0 1 f fd ["items", "many"] (spMoved K) := by
  have nd := sc_moved_round.nd
  refine F.ok sc_moved_round (fun vs H Q E h => ?_) (fun cdv A outer s H vs Q E hr h => ?_)
  · obtain ⟨A, xs, m, rfl, _⟩ := h
    rfl
  · obtain ⟨A, xs, m, rfl, hA, l0, l1, q⟩ := h
    refine ⟨_, (pss_cons (ps_set (i := 2) nd rfl (by first | exact Or.inl rfl | exact Or.inr rfl) (pe_op op_mod (pv 1) (pe_callB (show CallR _ (.builtin "len") (rLenSq K) from call_len_seq) (by rfl) T.n_len (by decide +kernel) (pa_cons (pv 0) pa_nil))))
 (pss_one (ps_ret (pe_op op_cat (pe_slice sl_list (pv 0) (po_some (pv 2)) po_none) (pe_slice sl_list (pv 0) po_none (po_some (pv 2))))))), ?_⟩
    have lz : ∀ n : Nat, n ≤ 2000 → n ≤ sizeLine := fun n h => Nat.le_trans h (by decide)
    have hm0 : 0 ≤ m % (xs.length : Int) := Int.emod_nonneg _ (by omega)
    have hm1 : m % (xs.length : Int) < xs.length := Int.emod_lt_of_pos _ (by omega)
    obtain ⟨k, ek⟩ : ∃ k : Nat, m % (xs.length : Int) = (k : Int) := ⟨(m % (xs.length : Int)).toNat, by omega⟩
    rw [ek, Int.toNat_natCast] at q
    refine ⟨_, rfl, _, rfl, A, xs, rfl, .inl hA, _, _, rfl, rfl, by show (0 : Int) < xs.length; omega, ?_⟩
    dsimp only
    rw [ek]
    refine ⟨_, rfl, _, rfl, _, rfl, A, xs, rfl, hA, fun p np => ?_⟩
    refine ⟨_, rfl, _, rfl, _, rfl, A, xs, rfl, sq_same (same_new np) hA, fun p2 np2 => ?_⟩
    rw [cutV_from] at np2 ⊢
    rw [cut_upto]
    refine ⟨p, p2, _, _, rfl, rfl, same_new np2 _ _ upd_same, upd_same, by rw [List.length_drop, List.length_take]; exact lz _ (by omega), fun R nR => ?_⟩
    refine q _ R (fun x o e => same_new nR _ _ (same_new np2 _ _ (same_new np _ _ e))) ?_ upd_same
    cases e : H R with
    | none => rfl
    | some o =>
      rw [same_new np2 (o := .lst (xs.take k)) _ _ (same_new np (o := .lst (xs.drop k)) _ _ e)] at nR
      cases nR
theorem ok_word_of_gaps {f : Addr} {fd : FuncData} (F : Fun K "word_of_gaps" "word_of_gaps" s_word_of_gaps f fd) (T : Txt K mg) : FnOk P w K mg base CX0 1 f fd ["gaps"] (spWog K) := by
  have nd := sc_word_of_gaps.nd
  refine F.ok sc_word_of_gaps (fun vs H Q E h => ?_) (fun cdv A outer s H vs Q E hr h => ?_)
  · obtain ⟨A, b, rfl, _⟩ := h
    rfl
  · obtain ⟨A, b, rfl, hA, hb, q⟩ := h
    refine ⟨_, (pss_one (ps_ret (pe_m1 PySem.F.slot_str_join PySem.F.type_str_join mt_joinS (pe_lit (l := []) (by decide +kernel)) (pe_lc (own := [("at", 1), ("gap", 2)]) rfl nd (pi_enum (by rfl) T.n_enumerate (pa_cons (pv 0) pa_nil)) (blkOk_by (N := N_word_of_gaps) (sc := defScope s_word_of_gaps) (by decide +kernel)) (fun _ _ _ _ _ => (show PG _ _ (gTup K 2 _) from (pg_tup rfl (pgs_cons (pg_name (i := 1) nd rfl (by first | exact Or.inl rfl | exact Or.inr rfl)) (pgs_cons (pg_name (i := 2) nd rfl (by first | exact Or.inl rfl | exact Or.inr rfl)) pgs_nil))))) (fun _ _ _ _ _ => pts_nil) (fun _ _ _ _ _ => (pe_ifExp (pt_cmpR op_lt (pe_op op_add (pv 1) (pv 2)) (pe_callB (show CallR _ (.builtin "len") (rLenSq K) from call_len_seq) (by rfl) T.n_len (by decide +kernel) (pa_cons (pv 0) pa_nil)) (nomark _)) (pe_lit (l := [49]) (by decide +kernel)) (pe_lit (l := [48]) (by decide +kernel)))))))), ?_⟩
    refine ⟨⟨_, rfl⟩, _, rfl, A, _, rfl, hA, fun D nD => ?_⟩
    have gl := gapL_len b
    refine lc_E (K := K) (a := A) (xs := gapL b) (fun j H1 => Same H H1 ∧ H1 D = some (.lst (sgs (b.w.take j)))) ⟨same_new nD, upd_same⟩ ?_ ?_ ?_
    · rintro j H1 hj ⟨sm, _⟩
      exact sq_same sm hA
    · rintro j x H1 T hx ⟨sm, hD⟩ hT
      have hj : j < b.n := by
        rw [← gl]
        exact (List.getElem?_eq_some_iff.mp hx).1
      have ex : x = .int (Bw.gap b j) := by
        unfold gapL at hx
        rw [List.getElem?_map, List.getElem?_range hj] at hx
        exact (Option.some.inj hx).symm
      subst ex
      have sm1 : Same H (upd H1 T (.tup [.int (j : Nat), .int (Bw.gap b j)])) := fun y o e => same_new hT _ _ (sm _ _ e)
      have hD1 := same_new hT (o := .tup [.int (j : Nat), .int (Bw.gap b j)]) _ _ hD
      refine ⟨T, _, rfl, SqT.of upd_same, rfl, _, _, rfl, _, _, rfl, rfl, rfl, ?_⟩
      dsimp only [tYes]
      rw [if_pos rfl]
      have sg1 := Bw.sign_gap b j hj
      have tk : b.w.take (j + 1) = b.w.take j ++ [if (j : Int) + Bw.gap b j < b.n then 49 else 48] := by rw [List.take_add_one, sg1]; rfl
      have ln : (sgs (b.w.take j)).length < sizeLine := by
        unfold sgs
        rw [List.length_map, List.length_take]
        exact small1000 (by omega)
      have pu : ∀ c : Nat, c = (if (j : Int) + Bw.gap b j < b.n then 49 else 48) → (upd (upd H1 T (.tup [.int (j : Nat), .int (Bw.gap b j)])) D (.lst (sgs (b.w.take j) ++ [.str (S [c])]))) D = some (.lst (sgs (b.w.take (j + 1)))) := fun c e => by
        rw [upd_same, tk, ← e]
        unfold sgs
        rw [List.map_append]
        rfl
      refine ⟨_, rfl, _, rfl, _, _, rfl, rfl, _, rfl, A, _, rfl, .inl (sq_same sm1 hA), _, _, rfl, rfl, _, rfl, ?_⟩
      rw [gl]
      by_cases e : (j : Int) + Bw.gap b j < b.n
      · rw [decide_eq_true e]
        exact iteT ⟨_, hD1, ln, same_put sm1 nD, pu 49 (by rw [if_pos e])⟩
      · rw [decide_eq_false e]
        exact iteF ⟨_, hD1, ln, same_put sm1 nD, pu 48 (by rw [if_neg e])⟩
    · rintro H1 ⟨sm, hD⟩
      have wl : b.w.take (gapL b).length = b.w := by rw [gl]; exact List.take_length
      rw [wl, sgs_map] at hD
      refine ⟨D, _, rfl, rfl, .inl (SqL.of hD), ?_, ?_⟩
      · rw [flat_ones]
        show b.n ≤ 16777216
        omega
      · rw [flat_ones]
        exact q H1 sm
end

/-! ### the period, all turned words, the mirrored word -/
theorem eqv_ints : ∀ xs ys : List Int, PyData.eqvAll (xs.map PyData.int) (ys.map PyData.int) = decide (xs = ys)
  | [], [] => by simp only [List.map_nil, PyData.eqvAll]; rfl
  | [], y :: ys => by simp only [List.map_nil, List.map_cons, PyData.eqvAll]; exact (decide_eq_false (List.cons_ne_nil _ _).symm).symm
  | x :: xs, [] => by simp only [List.map_nil, List.map_cons, PyData.eqvAll]; exact (decide_eq_false (List.cons_ne_nil _ _)).symm
  | x :: xs, y :: ys => by
    simp only [List.map_cons, PyData.eqvAll, eqv_ints xs ys]
    by_cases h : x = y
    · subst h
      by_cases h2 : xs = ys
      · subst h2
        simp [PyData.eqv]
      · rw [decide_eq_false h2, Bool.and_false, decide_eq_false (fun z => h2 (List.cons.inj z).2)]
    · rw [decide_eq_false (fun z => h (List.cons.inj z).1)]
      simp [PyData.eqv, h]
def gapI (b : Bw) : List Int := (List.range b.n).map fun k => Bw.gap b k
theorem gapL_I (b : Bw) : gapL b = (gapI b).map V.int := by
  unfold gapL gapI
  rw [List.map_map]
  rfl
theorem gapI_eq {b c : Bw} : gapI b = gapI c ↔ b = c := ⟨fun h => gapL_inj (by rw [gapL_I, gapL_I, h]), fun h => by rw [h]⟩
def exch (a : List Nat) : List Nat := a.map fun c => if c = 49 then 48 else 49
/-- p is the period -/
def Per (b : Bw) (p : Nat) : Prop := 1 ≤ p ∧ p ≤ b.n ∧ Bw.turns p b = b ∧ ∀ q, 1 ≤ q → q < p → Bw.turns q b ≠ b
def spPeriod : Sp := fun vs H Q _ => ∃ b : Bw, vs = [.str (S b.w)] ∧ 0 < b.n ∧ b.n ≤ 400 ∧ ∀ (H' : Hp) (p : Nat), Same H H' → Per b p → Q (.int p) H'
def spTurnsOf : Sp := fun vs H Q _ => ∃ b : Bw, vs = [.str (S b.w)] ∧ 0 < b.n ∧ b.n ≤ 400 ∧ ∀ (H' : Hp) (p : Nat) (R : Addr), Same H H' → H R = none → Per b p → H' R = some (.tup ((List.range p).map fun t => .str (S (Bw.turns t b).w))) → Q (.ref R) H'
def spExch : Sp := fun vs H Q _ => ∃ a : List Nat, vs = [.str (S a)] ∧ a.length ≤ 900 ∧ ∀ H', Same H H' → Q (.str (S (exch a))) H'
def spMirr : Sp := fun vs H Q _ => ∃ b : Bw, vs = [.str (S b.w)] ∧ 0 < b.n ∧ b.n ≤ 400 ∧ ∀ H', Same H H' → Q (.str (S (exch b.w.reverse))) H'
section
variable {P : Program} {w : World} {K : PySem.W.Frag} {mg : Str → Option Value} {base : Heap}
theorem ok_period {f : Addr} {fd : FuncData} (F : Fun K "period" "period" s_period f fd) (T : Txt K mg) (c_check_word : Cl P w K mg base 3 "check_word" spCkWord) (c_gaps_of : Cl P w K mg base 1 "gaps_of" spGaps) (c_moved_round : Cl P w K mg base 1 "moved_round" (spMoved K)) :
    FnOk P w K mg base CX0 4 f fd ["word"] spPeriod := by
  have nd := sc_period.nd
  refine F.ok sc_period (fun vs H Q E h => ?_) (fun cdv A outer s H vs Q E hr h => ?_)
  · obtain ⟨b, rfl, _⟩ := h
    rfl
  · obtain ⟨b, rfl, h0, hb, q⟩ := h
    have hu64 := hr.units
    have gl := gapL_len b
    refine ⟨_, (pss_cons (ps_expr (pe_f c_check_word hr (by decide) (by rfl) (pa_cons (pv 0) (pa_cons (pe_lit (l := [119, 111, 114, 100]) (by decide +kernel)) pa_nil))))
 (pss_cons (ps_set (i := 1) nd rfl (by first | exact Or.inl rfl | exact Or.inr rfl) (pe_f c_gaps_of hr (by decide) (by rfl) (pa_cons (pv 0) pa_nil)))
 (pss_cons (ps_set (i := 2) nd rfl (by first | exact Or.inl rfl | exact Or.inr rfl) pe_int)
 (pss_cons (ps_while PassesOwn.never (pt_cmpR (op_neD hu64) (pe_f c_moved_round hr (by decide) (by rfl) (pa_cons (pv 1) (pa_cons (pv 2) pa_nil))) (pv 1) (nomark _))
 (pss_one (ps_aug (i := 2) nd rfl (by first | exact Or.inl rfl | exact Or.inr rfl) pe_int ip_add)))
 (pss_one (ps_ret (pv 2))))))), ?_⟩
    refine ⟨_, rfl, b.w, _, rfl, Bw.isWd b h0 hb, ?_⟩
    refine ⟨_, rfl, b, rfl, hb, fun H1 G s1 n1 hG => ?_⟩
    refine while_by (fun σ H' => Same H1 H' ∧ ∃ m : Nat, σ = [some (.str (S b.w)), some (.ref G), some (.int m)] ∧ 1 ≤ m ∧ m ≤ b.n ∧ ∀ q, 1 ≤ q → q < m → Bw.turns q b ≠ b) (fun σ _ => match σ with | [_, _, some (.int m)] => b.n - m.toNat | _ => 0)
      ⟨fun _ _ e => e, 1, rfl, Nat.le_refl _, h0, fun q a c => absurd c (by omega)⟩ ?_ ?_
    · rintro σ H' ⟨sm, m, rfl, m1, m2, mq⟩
      have hG' := sm _ _ hG
      refine ⟨_, rfl, _, rfl, G, _, m, rfl, SqL.of hG', by omega, by omega, fun H2 R s2 n2 hR => ?_⟩
      have hm0 : 0 ≤ (m : Int) % (b.n : Int) := Int.emod_nonneg _ (by omega)
      have hm1 : (m : Int) % (b.n : Int) < b.n := Int.emod_lt_of_pos _ (by omega)
      have em : ((m : Int) % (b.n : Int)).toNat = m % b.n := by
        rw [← Int.natCast_emod]
        exact Int.toNat_natCast _
      rw [gl, em, rot_gap b _ (Nat.mod_lt _ h0)] at hR
      have tm : Bw.turns (m % b.n) b = Bw.turns m b := by
        rcases Nat.lt_or_ge m b.n with h | h
        · rw [Nat.mod_eq_of_lt h]
        · have e : m = b.n := by omega
          rw [e, Nat.mod_self, Bw.turns_full]
          rfl
      rw [tm] at hR
      have hG2 := s2 _ _ hG'
      rw [gapL_I] at hR hG2
      refine ⟨_, rfl, .list ((gapI (Bw.turns m b)).map .int), .list ((gapI b).map .int), .lst (SqL.of hR) (dp_ints _), .lst (SqL.of hG2) (dp_ints _), sh_ints _, sh_ints _, _, rfl, ?_⟩
      have ee : PyData.eqv (.list ((gapI (Bw.turns m b)).map .int)) (.list ((gapI b).map .int)) = decide (Bw.turns m b = b) := by
        simp only [PyData.eqv, eqv_ints]
        by_cases h : Bw.turns m b = b
        · rw [decide_eq_true h, h, decide_eq_true rfl]
        · rw [decide_eq_false h, decide_eq_false (fun z => h (gapI_eq.mp z))]
      rw [ee]
      by_cases hm : Bw.turns m b = b
      · rw [decide_eq_true hm]
        refine iteF ?_
        exact ⟨_, rfl, q H2 m (fun x o e => s2 _ _ (sm _ _ (s1 _ _ e))) ⟨m1, m2, hm, mq⟩⟩
      · rw [decide_eq_false hm]
        refine iteT ?_
        have ml : m < b.n := by
          rcases Nat.lt_or_ge m b.n with h | h
          · exact h
          · have e : m = b.n := by omega
            exact absurd (by rw [e, Bw.turns_full]) hm
        refine ⟨_, rfl, _, _, rfl, rfl, ⟨fun x o e => s2 _ _ (sm _ _ e), m + 1, rfl, by omega, by omega, fun q q1 q2 => ?_⟩, ?_⟩
        · by_cases e : q = m
          · rw [e]; exact hm
          · exact mq q q1 (by omega)
        · show b.n - ((m : Int) + 1).toNat < b.n - ((m : Nat) : Int).toNat
          omega
    · intro σ H' Q1 Q2 hq h
      obtain ⟨v1, e1, v2, e2, A, xs, m, e3, h1, h2, h3, h4⟩ := h
      exact ⟨v1, e1, v2, e2, A, xs, m, e3, h1, h2, h3, fun H' R a b c => by
        obtain ⟨v3, e4, d, e, g1, g2, g3, g4, k, e5, q⟩ := h4 H' R a b c
        exact ⟨v3, e4, d, e, g1, g2, g3, g4, k, e5, hq _ _ q⟩⟩
theorem ok_turns_of {f : Addr} {fd : FuncData} (F : Fun K "turns_of" "turns_of" s_turns_of f fd) (T : Txt K mg) (c_period : Cl P w K mg base 4 "period" spPeriod) (c_gaps_of : Cl P w K mg base 1 "gaps_of" spGaps) (c_moved_round : Cl P w K mg base 1 "moved_round" (spMoved K))
    (c_word_of_gaps : Cl P w K mg base 1 "word_of_gaps" (spWog K)) : FnOk P w K mg base CX0 5 f fd ["word"] spTurnsOf := by
  have nd := sc_turns_of.nd
  refine F.ok sc_turns_of (fun vs H Q E h => ?_) (fun cdv A outer s H vs Q E hr h => ?_)
  · obtain ⟨b, rfl, _⟩ := h
    rfl
  · obtain ⟨b, rfl, h0, hb, q⟩ := h
    have gl := gapL_len b
    refine ⟨_, (pss_cons (ps_set (i := 1) nd rfl (by first | exact Or.inl rfl | exact Or.inr rfl) (pe_f c_period hr (by decide) (by rfl) (pa_cons (pv 0) pa_nil)))
 (pss_cons (ps_set (i := 2) nd rfl (by first | exact Or.inl rfl | exact Or.inr rfl) (pe_f c_gaps_of hr (by decide) (by rfl) (pa_cons (pv 0) pa_nil)))
 (pss_one (ps_ret (pe_callTy call_tuple_of (by rfl) T.n_tuple (by decide +kernel) (pa_cons (pe_lc (own := [("turns", 3)]) rfl nd (pi_range1 (by rfl) T.n_range (pa_cons (pv 1) pa_nil)) (blkOk_by (N := N_turns_of) (sc := defScope s_turns_of) (by decide +kernel)) (fun _ _ _ _ _ => (pg_name (i := 3) nd rfl (by first | exact Or.inl rfl | exact Or.inr rfl))) (fun _ _ _ _ _ => pts_nil) (fun _ _ _ _ _ => (pe_f c_word_of_gaps hr (by decide) (by rfl) (pa_cons (pe_f c_moved_round hr (by decide) (by rfl) (pa_cons (pv 2) (pa_cons (pv 3) pa_nil))) pa_nil)))) pa_nil)))))), ?_⟩
    refine ⟨_, rfl, b, rfl, h0, hb, fun H1 p s1 hp => ?_⟩
    refine ⟨_, rfl, b, rfl, hb, fun H2 G s2 n2 hG => ?_⟩
    refine ⟨_, rfl, (p : Int), rfl, by omega, by have := hp.2.1; omega, fun D nD => ?_⟩
    rw [Int.toNat_natCast]
    refine lc_range (lo := 0) (n := p) (fun j H' => Same H2 H' ∧ H' D = some (.lst ((List.range j).map fun t => .str (S (Bw.turns t b).w)))) ⟨same_new nD, upd_same⟩ ?_ ?_
    · rintro j H' hj ⟨sm, hD⟩
      have jn : j < b.n := by have := hp.2.1; omega
      refine ⟨rfl, ?_⟩
      dsimp only [tYes]
      rw [if_pos rfl]
      have ej : (0 : Int) + (j : Int) = (j : Int) := by omega
      refine ⟨_, rfl, _, rfl, G, _, j, by rw [ej], SqL.of (sm _ _ hG), by omega, by omega, fun H3 R s3 n3 hR => ?_⟩
      have em : ((j : Int) % (b.n : Int)).toNat = j := by
        rw [← Int.natCast_emod, Int.toNat_natCast, Nat.mod_eq_of_lt jn]
      rw [gl, em, rot_gap b _ jn] at hR
      refine ⟨R, _, rfl, SqL.of hR, by rw [Bw.turns_n]; exact hb, fun H4 s4 => ?_⟩
      refine ⟨_, s4 _ _ (s3 _ _ hD), ?_, same_put (fun x o e => s4 _ _ (s3 _ _ (sm _ _ e))) nD, ?_⟩
      · rw [List.length_map, List.length_range]
        exact small1000 (by omega)
      · rw [upd_same, List.range_succ, List.map_append]
        rfl
    · rintro H' ⟨sm, hD⟩
      refine ⟨D, _, rfl, .inl ⟨SqL.of hD, fun R nR => ?_⟩⟩
      refine q _ p R (fun x o e => same_new nR _ _ (sm _ _ (s2 _ _ (s1 _ _ e)))) ?_ hp upd_same
      cases e : H R with
      | none => rfl
      | some o =>
        rw [sm _ _ (s2 _ _ (s1 _ _ e))] at nR
        cases nR
end

theorem hgt_shift : ∀ (a : List Nat) (h k : Nat), hgt h a = some k → hgt (h + 1) a = some (k + 1)
  | [], h, k, e => by
    have : h = k := Option.some.inj e
    subst this
    rfl
  | c :: r, h, k, e => by
    by_cases ec : c = 49
    · subst ec
      rw [hgt_up] at e ⊢
      exact hgt_shift r _ _ e
    · cases h with
      | zero => rw [hgt_zero ec] at e; cases e
      | succ j =>
        rw [hgt_down ec] at e ⊢
        exact hgt_shift r _ _ e
theorem hgt_pre {a : List Nat} {h m : Nat} (e : hgt h a = some m) (n : Nat) : ∃ k, hgt h (a.take n) = some k := by
  have h2 : a = a.take n ++ a.drop n := (List.take_append_drop n a).symm
  rw [h2, hgt_app] at e
  cases e3 : hgt h (a.take n) with
  | none => rw [e3] at e; cases e
  | some k => exact ⟨k, rfl⟩
/-! ### the words into which one is turned -/
theorem turns_mod {b : Bw} {p : Nat} (hp : Bw.turns p b = b) : ∀ (k s : Nat), Bw.turns (p * k + s) b = Bw.turns s b
  | 0, s => by rw [Nat.mul_zero, Nat.zero_add]
  | k + 1, s => by
    have e : p * (k + 1) + s = p + (p * k + s) := by rw [Nat.mul_succ]; omega
    rw [e, Bw.turns_add, hp]
    exact turns_mod hp k s
theorem turns_emod {b : Bw} {p : Nat} (hp : Bw.turns p b = b) (s : Nat) : Bw.turns (s % p) b = Bw.turns s b := by
  have h := turns_mod hp (s / p) (s % p)
  rw [Nat.div_add_mod] at h
  exact h.symm
theorem per_ex (b : Bw) (h0 : 0 < b.n) : ∃ p, Per b p := by
  have key : ∀ k : Nat, (∃ p, 1 ≤ p ∧ p ≤ k ∧ Bw.turns p b = b) → ∃ p, 1 ≤ p ∧ p ≤ k ∧ Bw.turns p b = b ∧ ∀ q, 1 ≤ q → q < p → Bw.turns q b ≠ b := by
    intro k
    induction k with
    | zero => rintro ⟨p, h1, h2, _⟩; exact absurd h1 (by omega)
    | succ k ih =>
      rintro ⟨p, h1, h2, h3⟩
      by_cases h : ∃ p, 1 ≤ p ∧ p ≤ k ∧ Bw.turns p b = b
      · obtain ⟨p', a1, a2, a3⟩ := ih h
        exact ⟨p', a1, by omega, a3⟩
      · refine ⟨p, h1, h2, h3, fun q q1 q2 e => h ⟨q, q1, by omega, e⟩⟩
  obtain ⟨p, a1, a2, a3, a4⟩ := key b.n ⟨b.n, h0, Nat.le_refl _, Bw.turns_full b⟩
  exact ⟨p, a1, a2, a3, a4⟩
theorem per_uniq {b : Bw} {p q : Nat} (h : Per b p) (k : Per b q) : p = q := by
  obtain ⟨p1, _, p3, p4⟩ := h
  obtain ⟨q1, _, q3, q4⟩ := k
  rcases Nat.lt_trichotomy p q with h | h | h
  · exact absurd p3 (q4 p p1 h)
  · exact h
  · exact absurd q3 (p4 q q1 h)
theorem per_dvd {b : Bw} {p : Nat} (h : Per b p) : b.n % p = 0 := by
  obtain ⟨p1, p2, p3, p4⟩ := h
  rcases Nat.eq_zero_or_pos (b.n % p) with e | e
  · exact e
  · exact absurd (by rw [turns_emod p3, Bw.turns_full]) (p4 (b.n % p) e (Nat.mod_lt _ (by omega)))
theorem per_int {b : Bw} {p : Nat} (h : Per b p) (h0 : 0 < b.n) (m : Int) : Bw.turns (m % (b.n : Int)).toNat b = Bw.turns (m % (p : Int)).toNat b := by
  have hp : 0 < p := h.1
  have e0 := turns_emod h.2.2.1 (m % (b.n : Int)).toNat
  rw [← e0]
  congr 1
  have a0 : 0 ≤ m % (b.n : Int) := Int.emod_nonneg _ (by omega)
  have a1 : 0 ≤ m % (p : Int) := Int.emod_nonneg _ (by omega)
  have d : (p : Int) ∣ (b.n : Int) := Int.natCast_dvd_natCast.mpr (Nat.dvd_of_mod_eq_zero (per_dvd h))
  have e1 : m % (b.n : Int) % (p : Int) = m % (p : Int) := Int.emod_emod_of_dvd m d
  have e2 : (((m % (b.n : Int)).toNat % p : Nat) : Int) = m % (p : Int) := by
    rw [Int.natCast_emod, Int.toNat_of_nonneg a0, e1]
  omega
def TS (ts : List (List Nat)) : List PyData := ts.map fun t => PyData.str (S t)
theorem ts_all : ∀ ts : List (List Nat), (∀ t ∈ ts, t.length ≤ 400 ∧ sg t = true) → PyData.showableAll (TS ts) = true ∧ PyData.hasDictAll (TS ts) = false ∧ PyData.leavesShortAll 40 (TS ts) = true ∧ PyData.depthAll (TS ts) = 0 ∧ PyData.bulkAll (TS ts) ≤ 401 * ts.length ∧ PyData.canLayAll0 (TS ts) = true
  | [], _ => ⟨by simp only [TS, List.map_nil, PyData.showableAll], by simp only [TS, List.map_nil, PyData.hasDictAll], by simp only [TS, List.map_nil, PyData.leavesShortAll], by simp only [TS, List.map_nil, PyData.depthAll], by simp only [TS, List.map_nil, PyData.bulkAll]; exact Nat.zero_le _, by simp only [TS, List.map_nil, PyData.canLayAll0]⟩
  | t :: ts, h => by
    obtain ⟨a, b, c, d, e, f⟩ := ts_all ts fun x hx => h x (List.mem_cons_of_mem _ hx)
    obtain ⟨tl, tg⟩ := h t (List.mem_cons_self ..)
    have e1 : TS (t :: ts) = PyData.str (S t) :: TS ts := rfl
    have g1 : ∀ x ∈ t, x < 50 := fun x hx => by
      unfold sg at tg
      rw [List.all_eq_true] at tg
      have := tg x hx
      simp only [Bool.or_eq_true, beq_iff_eq] at this
      omega
    have l1 : PyData.leavesShort 40 (PyData.str (S t)) = true := by
      simp only [PyData.leavesShort, List.all_eq_true, decide_eq_true_eq]
      intro x hx
      exact Nat.lt_of_lt_of_le (g1 x hx) (by decide)
    have l2 : PyData.canLay0 (PyData.str (S t)) = true := by
      simp only [PyData.canLay0, PyData.strOk]
      rw [← Array.all_toList, List.all_eq_true]
      intro x hx
      have : x < 50 := g1 x hx
      exact decide_eq_true (by omega)
    have l3 : PyData.bulk (PyData.str (S t)) = t.length := by
      simp only [PyData.bulk]
      show (t.toArray).size = _
      simp
    rw [e1]
    refine ⟨by simp only [PyData.showableAll, PyData.showable, a, Bool.and_self], by simp only [PyData.hasDictAll, PyData.hasDict, b, Bool.or_self], by simp only [PyData.leavesShortAll, l1, c, Bool.and_self], by simp only [PyData.depthAll, PyData.depth, d, Nat.max_self], ?_, by simp only [PyData.canLayAll0, l2, f, Bool.and_self]⟩
    simp only [PyData.bulkAll, l3]
    rw [List.length_cons]
    omega
theorem per_turns {b : Bw} {p : Nat} (h : Per b p) {t : Nat} (t1 : 1 ≤ t) (t2 : t ≤ p) : Bw.turns t b = b ↔ t = p := by
  refine ⟨fun e => ?_, fun e => by rw [e]; exact h.2.2.1⟩
  rcases Nat.lt_or_ge t p with q | q
  · exact absurd e (h.2.2.2 t t1 q)
  · omega
/-- the words into which b is turned, the first t of them -/
def rowsV (b : Bw) (t : Nat) : List V := (List.range t).map fun i => .str (S (Bw.turns i b).w)
def rowsW (b : Bw) (t : Nat) : List (List Nat) := (List.range t).map fun i => (Bw.turns i b).w
theorem rowsV_W (b : Bw) (t : Nat) : rowsV b t = (rowsW b t).map fun x => V.str (S x) := by
  unfold rowsV rowsW
  rw [List.map_map]
  rfl
theorem rowsV_len (b : Bw) (t : Nat) : (rowsV b t).length = t := by unfold rowsV; rw [List.length_map, List.length_range]
theorem rowsW_ok {b : Bw} (hb : b.n ≤ 400) (t : Nat) : ∀ x ∈ rowsW b t, x.length ≤ 400 ∧ sg x = true := fun x hx => by
  obtain ⟨i, _, rfl⟩ := List.mem_map.mp hx
  exact ⟨by have := Bw.turns_n i b; have : (Bw.turns i b).w.length = (Bw.turns i b).n := rfl; omega, (Bw.w_ok _ 0).1⟩
theorem dp_ts {K : PySem.W.Frag} {H : Hp} : ∀ ts : List (List Nat), DpAll K H (ts.map fun x => V.str (S x)) (TS ts)
  | [] => .nil
  | t :: ts => .cons (.str _) (dp_ts ts)
theorem okDs_ts : ∀ ts : List (List Nat), (∀ t ∈ ts, sg t = true) → okDs (TS ts) = true
  | [], _ => by simp only [TS, List.map_nil, okDs]
  | t :: ts, h => by
    have ih := okDs_ts ts fun x hx => h x (List.mem_cons_of_mem _ hx)
    have e1 : TS (t :: ts) = PyData.str (S t) :: TS ts := rfl
    rw [e1]
    have o : okD (.str (S t)) = true := by
      simp only [okD, List.all_eq_true, decide_eq_true_eq]
      intro c hc
      have tg := h t (List.mem_cons_self ..)
      unfold sg at tg
      rw [List.all_eq_true] at tg
      have := tg c hc
      simp only [Bool.or_eq_true, beq_iff_eq] at this
      omega
    simp only [okDs, o, ih, Bool.and_self]
theorem gd_ts {K : PySem.W.Frag} {H : Hp} {p : Addr} {ts : List (List Nat)} (h : SqL K H p (ts.map fun x => V.str (S x))) (hl : ts.length ≤ 20) (hs : ∀ t ∈ ts, t.length ≤ 400 ∧ sg t = true) : GD K H (.ref p) (.list (TS ts)) := by
  obtain ⟨a, b, c, d, e, f⟩ := ts_all ts hs
  refine GD.of h (dp_ts ts) (okDs_ts ts fun t ht => (hs t ht).2) ?_ (by rw [d]; decide)
  have : 401 * ts.length ≤ 401 * 20 := Nat.mul_le_mul_left _ hl
  omega
theorem eqv_gd {K : PySem.W.Frag} {H : Hp} {x : V} {d : PyData} (g : GD K H x d) : PyData.eqv d d = true := SeqAt.eqv_refl _ (okD_all d g.ok).2.2.2
theorem rowsV_at {b : Bw} {t i : Nat} (h : i < t) : atI (rowsV b t) (i : Int) = some (.str (S (Bw.turns i b).w)) := atI_nat (by unfold rowsV; rw [List.getElem?_map, List.getElem?_range h]; rfl)

/-! ### the least of the turned words -/
theorem lt_le {a b c : List Nat} (h : a < b) (k : ¬ c < b) : a < c := by
  rcases Decidable.em (a < c) with h1 | h1
  · exact h1
  · have h2 : c ≤ a := h1
    have h3 : b ≤ c := k
    exact absurd h (List.not_lt.mpr (List.le_trans h3 h2))
theorem minW_spec : ∀ (ts : List (List Nat)) (t : List Nat), minW t ts ∈ t :: ts ∧ ∀ y ∈ t :: ts, ¬ y < minW t ts
  | [], t => ⟨List.mem_cons_self .., fun y hy => by
    have : y = t := by simpa using hy
    subst this
    exact List.lt_irrefl _⟩
  | x :: ts, t => by
    have e : minW t (x :: ts) = minW (if decide (x < t) = true then x else t) ts := rfl
    rw [e]
    by_cases h : x < t
    · rw [decide_eq_true h, if_pos rfl]
      obtain ⟨a, b⟩ := minW_spec ts x
      refine ⟨List.mem_cons_of_mem _ a, fun y hy => ?_⟩
      rcases List.mem_cons.mp hy with e | e
      · subst e
        exact fun z => b x (List.mem_cons_self ..) (List.lt_trans h z)
      · exact b y e
    · rw [decide_eq_false h, if_neg (by decide)]
      obtain ⟨a, b⟩ := minW_spec ts t
      refine ⟨?_, fun y hy => ?_⟩
      · rcases List.mem_cons.mp a with e | e
        · rw [e]; exact List.mem_cons_self ..
        · exact List.mem_cons_of_mem _ (List.mem_cons_of_mem _ e)
      · rcases List.mem_cons.mp hy with e | e
        · subst e
          exact b _ (List.mem_cons_self ..)
        · rcases List.mem_cons.mp e with e | e
          · subst e
            exact fun z => h (lt_le z (b t (List.mem_cons_self ..)))
          · exact b y (List.mem_cons_of_mem _ e)
def NameOf (b : Bw) (x : List Nat) : Prop := (∃ i, x = (Bw.turns i b).w) ∧ ∀ i, ¬ (Bw.turns i b).w < x
theorem name_uniq {b : Bw} {x y : List Nat} (h : NameOf b x) (k : NameOf b y) : x = y := by
  obtain ⟨⟨i, hi⟩, h2⟩ := h
  obtain ⟨⟨j, hj⟩, k2⟩ := k
  have a : ¬ x < y := hi ▸ k2 i
  have c : ¬ y < x := hj ▸ h2 j
  exact List.le_antisymm (List.not_lt.mp c) (List.not_lt.mp a)
theorem rowsW_split (b : Bw) {p : Nat} (hp : 1 ≤ p) : rowsW b p = b.w :: (rowsW b p).tail := by
  obtain ⟨k, rfl⟩ : ∃ k, p = k + 1 := ⟨p - 1, by omega⟩
  unfold rowsW
  rw [List.range_succ_eq_map]
  rfl
theorem min_name {b : Bw} {p : Nat} (hp : Per b p) : NameOf b (minW b.w (rowsW b p).tail) := by
  obtain ⟨a, c⟩ := minW_spec (rowsW b p).tail b.w
  rw [← rowsW_split b hp.1] at a c
  refine ⟨?_, fun i => ?_⟩
  · obtain ⟨i, _, e⟩ := List.mem_map.mp a
    exact ⟨i, e.symm⟩
  · refine c _ ?_
    have e := turns_emod hp.2.2.1 i
    rw [← e]
    exact List.mem_map.mpr ⟨i % p, List.mem_range.mpr (Nat.mod_lt _ hp.1), rfl⟩
theorem name_turns {b : Bw} {x : List Nat} (h0 : 0 < b.n) (s : Nat) : NameOf (Bw.turns s b) x ↔ NameOf b x := by
  have back : ∀ i, ∃ j, Bw.turns i b = Bw.turns j (Bw.turns s b) := fun i => by
    refine ⟨b.n * s - s + i, ?_⟩
    rw [← Bw.turns_add]
    have e : s + (b.n * s - s + i) = b.n * s + i := by
      have : s ≤ b.n * s := Nat.le_mul_of_pos_left s h0
      omega
    rw [e, turns_mod (Bw.turns_full b)]
  constructor
  · rintro ⟨⟨i, hi⟩, h2⟩
    refine ⟨⟨s + i, by rw [hi, Bw.turns_add]⟩, fun i => ?_⟩
    obtain ⟨j, hj⟩ := back i
    rw [hj]
    exact h2 j
  · rintro ⟨⟨i, hi⟩, h2⟩
    obtain ⟨j, hj⟩ := back i
    refine ⟨⟨j, by rw [hi, hj]⟩, fun i => ?_⟩
    rw [← Bw.turns_add]
    exact h2 _
def spName : Sp := fun vs H Q _ => ∃ b : Bw, vs = [.str (S b.w)] ∧ 0 < b.n ∧ b.n ≤ 400 ∧ ∀ (H' : Hp) (x : List Nat), Same H H' → NameOf b x → Q (.str (S x)) H'
section
variable {P : Program} {w : World} {K : PySem.W.Frag} {mg : Str → Option Value} {base : Heap}
theorem ok_name_of {f : Addr} {fd : FuncData} (F : Fun K "name_of" "name_of" s_name_of f fd) (T : Txt K mg) (c_turns_of : Cl P w K mg base 5 "turns_of" spTurnsOf) : FnOk P w K mg base CX0 6 f fd ["word"] spName := by
  have nd := sc_name_of.nd
  refine F.ok sc_name_of (fun vs H Q E h => ?_) (fun cdv A outer s H vs Q E hr h => ?_)
  · obtain ⟨b, rfl, _⟩ := h
    rfl
  · obtain ⟨b, rfl, h0, hb, q⟩ := h
    have hu64 := hr.units
    refine ⟨_, (pss_one (ps_ret (pe_callB (cr_minS rfl hu64) (by rfl) T.n_min (by decide +kernel) (pa_cons (pe_f c_turns_of hr (by decide) (by rfl) (pa_cons (pv 0) pa_nil)) pa_nil)))), ?_⟩
    refine ⟨_, rfl, b, rfl, h0, hb, fun H1 p R s1 n1 hp hR => ?_⟩
    refine ⟨R, b.w, (rowsW b p).tail, rfl, .inr ?_, q H1 _ s1 (min_name hp)⟩
    rw [← rowsW_split b hp.1, ← rowsV_W]
    exact SqT.of hR
end

/-! ### the law's own turning, sign by sign -/
def spLturn : Sp := fun vs H Q _ => ∃ b : Bw, vs = [.str (S b.w)] ∧ 0 < b.n ∧ b.n ≤ 400 ∧ ∀ H', Same H H' → Q (.str (S (Bw.turn b).w)) H'
def spLturns : Sp := fun vs H Q _ => ∃ b : Bw, vs = [.str (S b.w)] ∧ 0 < b.n ∧ b.n ≤ 400 ∧ ∀ (H' : Hp) (R : Addr) (p : Nat), Same H H' → H R = none → Per b p → H' R = some (.lst (rowsV b p)) → Q (.ref R) H'
section
variable {P : Program} {w : World} {K : PySem.W.Frag} {mg : Str → Option Value} {base : Heap}
theorem ok__law_turned {f : Addr} {fd : FuncData} (F : Fun K "_law_turned" "_law_turned" s__law_turned f fd) (T : Txt K mg) : FnOk P w K mg base CX0 1 f fd ["word"] spLturn := by
  have nd := sc__law_turned.nd
  refine F.ok sc__law_turned (fun vs H Q E h => ?_) (fun cdv A outer s H vs Q E hr h => ?_)
  · obtain ⟨b, rfl, _⟩ := h
    rfl
  · obtain ⟨b, rfl, h0, hb, q⟩ := h
    have lz : ∀ n : Nat, n ≤ 2000 → n ≤ sizeLine := fun n h => Nat.le_trans h (by decide)
    cases b with
    | nil => exact absurd h0 (Nat.lt_irrefl _)
    | node u v =>
      have nn := Bw.n_node u v
      have ul : u.w.length = u.n := rfl
      have vl : v.w.length = v.n := rfl
      have wl : (Bw.node u v).w.length = (Bw.node u v).n := rfl
      refine ⟨_, (pss_cons (ps_asg (pe_tup (pa_cons pe_int (pa_cons pe_int pa_nil))) (pg_tup rfl (pgs_cons (pg_name (i := 1) nd rfl (by first | exact Or.inl rfl | exact Or.inr rfl)) (pgs_cons (pg_name (i := 2) nd rfl (by first | exact Or.inl rfl | exact Or.inr rfl)) pgs_nil))))
 (pss_cons (ps_while PassesOwn.never (pt_cmpR op_gt (pv 1) pe_int (nomark _))
 (pss_cons (ps_set (i := 1) nd rfl (by first | exact Or.inl rfl | exact Or.inr rfl) (pe_op op_add (pv 1) (pe_ifExp (pt_cmpR op_eq_S (pe_ix ix_str (pv 0) (pv 2) (fun _ _ => rfl)) (pe_lit (l := [49]) (by decide +kernel)) (nomark _)) pe_int (pe_un un_neg pe_int))))
 (pss_one (ps_set (i := 2) nd rfl (by first | exact Or.inl rfl | exact Or.inr rfl) (pe_op op_add (pv 2) pe_int)))))
 (pss_one (ps_ret (pe_op op_add_S (pe_op op_add_S (pe_op op_add_S (pe_slice sl_S (pv 0) (po_some pe_int) (po_some (pe_op op_sub (pv 2) pe_int))) (pe_lit (l := [49]) (by decide +kernel))) (pe_slice sl_S (pv 0) (po_some (pv 2)) po_none)) (pe_lit (l := [48]) (by decide +kernel))))))), ?_⟩
      have wz : (Bw.node u v).w.length ≤ sizeLine := lz _ (by omega)
      have zl : (u.w ++ [48]).length = u.n + 1 := by rw [List.length_append, ul]; rfl
      refine ⟨by show 2 ≤ sizeLine; decide, fun p np => ⟨p, _, rfl, SqT.of upd_same, rfl, _, _, rfl, _, _, rfl, rfl, ?_⟩⟩
      refine while_by (fun σ H' => Same H H' ∧ ∃ j d : Nat, σ = [some (.str (S (Bw.node u v).w)), some (.int d), some (.int (j + 1 : Nat))] ∧ j ≤ u.n + 1 ∧ hgt 1 ((u.w ++ [48]).take j) = some d) (fun σ _ => match σ with | [_, _, some (.int m)] => u.n + 2 - m.toNat | _ => 0)
        ⟨same_new np, 0, 1, rfl, Nat.zero_le _, rfl⟩ ?_ ?_
      · rintro σ H' ⟨sm, j, d, rfl, jn, jh⟩
        refine ⟨_, rfl, _, _, rfl, rfl, _, rfl, ?_⟩
        refine ite2 (fun e => ?_) (fun e => ?_)
        · have dp : 0 < d := by have := of_decide_eq_true e; omega
          have jl : j ≤ u.n := by
            rcases Nat.lt_or_ge u.n j with h | h
            · have hj : j = u.n + 1 := by omega
              rw [hj, ← zl, List.take_length, hgt_app, hgt_shift _ _ _ (Bw.w_ok u 0).2] at jh
              have : hgt 1 [48] = some d := jh
              rw [hgt_down (by decide)] at this
              have : (0 : Nat) = d := Option.some.inj this
              omega
            · exact h
          obtain ⟨c, hc⟩ : ∃ c, (u.w ++ [48])[j]? = some c := ⟨_, List.getElem?_eq_getElem (by omega)⟩
          have hw : (Bw.node u v).w[j + 1]? = some c := by
            show (u.w ++ 48 :: v.w)[j]? = some c
            have e1 : u.w ++ 48 :: v.w = (u.w ++ [48]) ++ v.w := by simp
            rw [e1, List.getElem?_append_left (by omega)]
            exact hc
          have tk : (u.w ++ [48]).take (j + 1) = (u.w ++ [48]).take j ++ [c] := by rw [List.take_add_one, hc]; rfl
          have at1 : atI (S (Bw.node u v).w).cps.toList ((j + 1 : Nat) : Int) = some c := atI_nat hw
          have i1 : ((j + 1 : Nat) : Int) + 1 = ((j + 1 + 1 : Nat) : Int) := by omega
          have h1 : hgt 1 ((u.w ++ [48]).take (j + 1)) = hgt d [c] := by rw [tk, hgt_app, jh]; rfl
          refine ⟨_, rfl, _, rfl, _, rfl, S (Bw.node u v).w, _, c, rfl, rfl, by rw [S_len]; exact wz, at1, [c], [49], rfl, rfl, _, rfl, ?_⟩
          by_cases ec : c = 49
          · rw [decide_eq_true (by rw [ec])]
            refine iteT ⟨_, _, rfl, rfl, _, rfl, _, _, rfl, rfl, ⟨sm, j + 1, d + 1, ?_, by omega, ?_⟩, ?_⟩
            · show [_, some (V.int ((d : Int) + 1)), some (V.int (((j + 1 : Nat) : Int) + 1))] = _
              rw [i1]
              rfl
            · rw [h1, ec]; rfl
            · show u.n + 2 - (((j + 1 : Nat) : Int) + 1).toNat < u.n + 2 - ((j + 1 : Nat) : Int).toNat
              omega
          · rw [decide_eq_false (fun z => ec (List.cons.inj z).1)]
            obtain ⟨d', rfl⟩ : ∃ d', d = d' + 1 := ⟨d - 1, by omega⟩
            refine iteF ⟨_, rfl, _, _, rfl, rfl, _, rfl, _, _, rfl, rfl, ⟨sm, j + 1, d', ?_, by omega, ?_⟩, ?_⟩
            · have e2 : ((d' + 1 : Nat) : Int) + -1 = (d' : Int) := by omega
              show [_, some (V.int (((d' + 1 : Nat) : Int) + -1)), some (V.int (((j + 1 : Nat) : Int) + 1))] = _
              rw [i1, e2]
            · rw [h1, hgt_down ec]; rfl
            · show u.n + 2 - (((j + 1 : Nat) : Int) + 1).toNat < u.n + 2 - ((j + 1 : Nat) : Int).toNat
              omega
        · have d0 : d = 0 := by
            rcases Nat.eq_zero_or_pos d with h | h
            · exact h
            · exact absurd (decide_eq_true (by omega)) e
          subst d0
          have hj : j = u.n + 1 := by
            rcases Nat.lt_or_ge j (u.n + 1) with h | h
            · have e1 : (u.w ++ [48]).take j = u.w.take j := List.take_append_of_le_length (by omega)
              obtain ⟨k, hk⟩ := hgt_pre (Bw.w_ok u 0).2 j
              rw [e1, hgt_shift _ _ _ hk] at jh
              have := Option.some.inj jh
              omega
            · omega
          subst hj
          have c1 : cutN (Bw.node u v).w (some (1 : Int)) (some (((u.n + 1 + 1 : Nat) : Int) - 1)) = u.w := by
            have e1 : ((u.n + 1 + 1 : Nat) : Int) - 1 = ((u.n + 1 : Nat) : Int) := by omega
            have := cutN_mid (Bw.node u v).w 1 (u.n + 1)
            rw [e1]
            refine this.trans ?_
            show (u.w ++ 48 :: v.w).take (u.n + 1 - 1) = u.w
            exact List.take_left
          have c2 : cutN (Bw.node u v).w (some ((u.n + 1 + 1 : Nat) : Int)) none = v.w := by
            rw [cutN_from]
            show (u.w ++ 48 :: v.w).drop (u.n + 1) = v.w
            rw [List.drop_append, List.drop_eq_nil_of_le (by omega), ul, Nat.add_sub_cancel_left]
            rfl
          refine ⟨_, rfl, _, rfl, _, rfl, _, _, rfl, rfl, _, rfl, _, rfl, wz, _, _, rfl, rfl, lz _ (by rw [c1]; show u.w.length + 1 ≤ 2000; omega), _, rfl, _, rfl, _, rfl, _, rfl, wz, _, _, rfl, rfl, lz _ (by rw [c1, c2, List.length_append]; show u.w.length + 1 + v.w.length ≤ 2000; omega), _, _, rfl, rfl, lz _ (by rw [c1, c2, List.length_append, List.length_append]; show u.w.length + 1 + v.w.length + 1 ≤ 2000; omega), ?_⟩
          rw [c1, c2]
          have e3 : u.w ++ [49] ++ v.w ++ [48] = (Bw.turn (Bw.node u v)).w := by
            rw [Bw.turn_w]
            simp
          rw [e3]
          exact q H' sm
      · intro σ H' Q1 Q2 hq h
        obtain ⟨x, e1, i, j, e2, e3, k', e4, q1⟩ := h
        exact ⟨x, e1, i, j, e2, e3, k', e4, hq _ _ q1⟩
theorem ok__law_turns {f : Addr} {fd : FuncData} (F : Fun K "_law_turns" "_law_turns" s__law_turns f fd) (T : Txt K mg) (c__law_turned : Cl P w K mg base 1 "_law_turned" spLturn) : FnOk P w K mg base CX0 2 f fd ["word"] spLturns := by
  have nd := sc__law_turns.nd
  refine F.ok sc__law_turns (fun vs H Q E h => ?_) (fun cdv A outer s H vs Q E hr h => ?_)
  · obtain ⟨b, rfl, _⟩ := h
    rfl
  · obtain ⟨b, rfl, h0, hb, q⟩ := h
    obtain ⟨p, hp⟩ := per_ex b h0
    refine ⟨_, (pss_cons (ps_par (i := 1) (j := 2) rfl nd rfl rfl (by decide) rfl rfl (pa_cons (pe_lst (pa_cons (pv 0) pa_nil)) (pa_cons (pe_f c__law_turned hr (by decide) (by rfl) (pa_cons (pv 0) pa_nil)) pa_nil)) (by rfl))
 (pss_cons (ps_while PassesOwn.never (pt_cmpR op_ne_S (pv 2) (pv 0) (nomark _))
 (pss_cons (ps_expr (pe_bm PySem.F.plainAttrs_list PySem.F.slot_list_append PySem.F.type_list_append mt_append (pv 1) (pa_cons (pv 2) pa_nil)))
 (pss_one (ps_set (i := 2) nd rfl (by first | exact Or.inl rfl | exact Or.inr rfl) (pe_f c__law_turned hr (by decide) (by rfl) (pa_cons (pv 2) pa_nil))))))
 (pss_one (ps_ret (pv 1))))), ?_⟩
    have p1 := hp.1
    have p2 := hp.2.1
    refine ⟨_, rfl, by show 1 ≤ sizeLine; decide, fun R nR => ⟨_, rfl, b, rfl, h0, hb, fun H4 s4 => ⟨_, _, rfl, ?_⟩⟩⟩
    have hR : H4 R = some (.lst (rowsV b 1)) := s4 _ _ upd_same
    have s34 : Same H H4 := fun x o e => s4 _ _ (same_new nR _ _ e)
    refine while_by (fun σ H' => Same H H' ∧ ∃ t : Nat, 1 ≤ t ∧ t ≤ p ∧ σ = [some (.str (S b.w)), some (.ref R), some (.str (S (Bw.turns t b).w))] ∧ H' R = some (.lst (rowsV b t))) (fun _ H' => match H' R with | some (.lst xs) => p + 1 - xs.length | _ => 0)
      ⟨s34, 1, Nat.le_refl _, p1, rfl, hR⟩ ?_ ?_
    · rintro σ H' ⟨sm, t, t1, t2, rfl, hR⟩
      refine ⟨_, rfl, _, rfl, _, _, rfl, rfl, _, rfl, ?_⟩
      by_cases tp : t = p
      · have e : Bw.turns t b = b := (per_turns hp t1 t2).mpr tp
        rw [e, decide_eq_true rfl]
        refine iteF ⟨_, rfl, q H' R p sm nR hp ?_⟩
        rw [← tp]
        exact hR
      · have e : Bw.turns t b ≠ b := fun z => tp ((per_turns hp t1 t2).mp z)
        rw [decide_eq_false (fun z => e (Bw.w_inj _ _ z))]
        refine iteT ?_
        have tn := Bw.turns_n t b
        refine ⟨_, rfl, .inl ⟨rfl, _, SqL.of hR⟩, _, rfl, R, _, _, rfl, rfl, hR, by rw [rowsV_len]; exact small1000 (by omega), ?_⟩
        refine ⟨_, rfl, Bw.turns t b, rfl, by omega, by omega, fun H5 s5 => ?_⟩
        have et : Bw.turn (Bw.turns t b) = Bw.turns (t + 1) b := by rw [Bw.turns_add t 1 b]; rfl
        rw [et]
        have hR5 : H5 R = some (.lst (rowsV b (t + 1))) := s5 _ _ (by
          rw [upd_same]
          unfold rowsV
          rw [List.range_succ, List.map_append]
          rfl)
        refine ⟨⟨fun x o e => s5 _ _ (same_put sm nR _ _ e), t + 1, by omega, by omega, rfl, hR5⟩, ?_⟩
        show (match H5 R with | some (.lst xs) => p + 1 - xs.length | _ => 0) < (match H' R with | some (.lst xs) => p + 1 - xs.length | _ => 0)
        rw [hR5, hR]
        show p + 1 - (rowsV b (t + 1)).length < p + 1 - (rowsV b t).length
        rw [rowsV_len, rowsV_len]
        omega
    · intro σ H' Q1 Q2 hq h
      obtain ⟨x1, e1, x2, e2, a, b', e3, e4, k, e5, q1⟩ := h
      exact ⟨x1, e1, x2, e2, a, b', e3, e4, k, e5, hq _ _ q1⟩
end

/-! ### signs said again and again -/
theorem rep_len (a : List Nat) : ∀ n : Nat, (List.replicate n a).flatten.length = a.length * n
  | 0 => rfl
  | n + 1 => by rw [List.replicate_succ, List.flatten_cons, List.length_append, rep_len a n, Nat.mul_succ, Nat.add_comm]
theorem sg_rep (a : List Nat) (h : sg a = true) : ∀ n : Nat, sg (List.replicate n a).flatten = true
  | 0 => rfl
  | n + 1 => by rw [List.replicate_succ, List.flatten_cons, sg_app, h, sg_rep a h n]; rfl
theorem hgt_ones : ∀ (n h : Nat), hgt h (List.replicate n [49]).flatten = some (h + n)
  | 0, h => rfl
  | n + 1, h => by
    rw [List.replicate_succ, List.flatten_cons]
    show hgt h (49 :: (List.replicate n [49]).flatten) = _
    rw [hgt_up, hgt_ones n (h + 1)]
    congr 1
    omega
theorem hgt_zeros : ∀ (n h : Nat), hgt (h + n) (List.replicate n [48]).flatten = some h
  | 0, h => rfl
  | n + 1, h => by
    rw [List.replicate_succ, List.flatten_cons]
    show hgt (h + n + 1) (48 :: (List.replicate n [48]).flatten) = _
    rw [hgt_down (by decide), hgt_zeros n h]
theorem star_w : ∀ n : Nat, sg (List.replicate n [49, 48]).flatten = true ∧ hgt 0 (List.replicate n [49, 48]).flatten = some 0
  | 0 => ⟨rfl, rfl⟩
  | n + 1 => by
    refine ⟨sg_rep _ rfl _, ?_⟩
    rw [List.replicate_succ, List.flatten_cons, hgt_app]
    exact (star_w n).2
theorem line_w (n : Nat) : sg ((List.replicate n [49]).flatten ++ (List.replicate n [48]).flatten) = true ∧ hgt 0 ((List.replicate n [49]).flatten ++ (List.replicate n [48]).flatten) = some 0 := by
  refine ⟨by rw [sg_app, sg_rep _ rfl, sg_rep _ rfl]; rfl, ?_⟩
  rw [hgt_app, hgt_ones]
  exact hgt_zeros n 0

/-- two have one name exactly if one is the other turned -/
theorem name_eq {b c : Bw} {x y : List Nat} (h0 : 0 < b.n) (c0 : 0 < c.n) (hx : NameOf b x) (hy : NameOf c y) : x = y ↔ ∃ i, c = Bw.turns i b := by
  constructor
  · intro e
    obtain ⟨⟨i, hi⟩, _⟩ := hx
    obtain ⟨⟨j, hj⟩, _⟩ := hy
    have e2 : Bw.turns i b = Bw.turns j c := Bw.w_inj _ _ (by rw [← hi, ← hj, e])
    refine ⟨i + (c.n * j - j), ?_⟩
    rw [Bw.turns_add, e2, ← Bw.turns_add]
    have e3 : j + (c.n * j - j) = c.n * j + 0 := by
      have : j ≤ c.n * j := Nat.le_mul_of_pos_left j c0
      omega
    rw [e3, turns_mod (Bw.turns_full c)]
    rfl
  · rintro ⟨i, rfl⟩
    exact name_uniq hx ((name_turns h0 i).mp hy)
theorem in_strs (a : List Nat) : ∀ ts : List (List Nat), inV (.str (S a)) (ts.map fun x => V.str (S x)) = decide (a ∈ ts)
  | [] => rfl
  | t :: ts => by
    have ih := in_strs a ts
    unfold inV at ih ⊢
    rw [List.map_cons, List.any_cons, ih]
    have e : eqV (.str (S t)) (.str (S a)) = (t == a) := by
      show (S t == S a) = _
      exact SX.S_beq t a
    rw [e]
    by_cases h : t = a
    · subst h
      simp
    · have h2 : (t == a) = false := beq_false_of_ne h
      rw [h2, Bool.false_or]
      by_cases h3 : a ∈ ts
      · rw [decide_eq_true h3, decide_eq_true (List.mem_cons_of_mem _ h3)]
      · rw [decide_eq_false h3, decide_eq_false]
        intro z
        rcases List.mem_cons.mp z with e | e
        · exact h e.symm
        · exact h3 e
theorem flat_strs : ∀ ts : List (List Nat), (ts.map fun x => V.str (S x)).all flatV = true
  | [] => rfl
  | t :: ts => by rw [List.map_cons, List.all_cons, flat_strs ts]; rfl
theorem mem_rows {b c : Bw} {p : Nat} (hp : Per b p) : c.w ∈ rowsW b p ↔ ∃ i, c = Bw.turns i b := by
  constructor
  · intro h
    obtain ⟨i, _, e⟩ := List.mem_map.mp h
    exact ⟨i, Bw.w_inj _ _ e.symm⟩
  · rintro ⟨i, rfl⟩
    rw [← turns_emod hp.2.2.1 i]
    exact List.mem_map.mpr ⟨i % p, List.mem_range.mpr (Nat.mod_lt _ hp.1), rfl⟩

/-! ### one tree, star, line -/
def spOneTree : Sp := fun vs H Q _ => ∃ b c : Bw, vs = [.str (S b.w), .str (S c.w)] ∧ 0 < b.n ∧ b.n ≤ 400 ∧ c.n = b.n ∧ ∀ (H' : Hp) (p : Nat), Same H H' → Per b p → Q (.bl (decide (c.w ∈ rowsW b p))) H'
def spStar : Sp := fun vs H Q _ => ∃ n : Nat, vs = [.int n] ∧ 1 ≤ n ∧ n ≤ 200 ∧ Q (.str (S (List.replicate n [49, 48]).flatten)) H
def spLine : Sp := fun vs H Q _ => ∃ n : Nat, vs = [.int n] ∧ 1 ≤ n ∧ n ≤ 200 ∧ ∀ (H' : Hp) (b : Bw) (x : List Nat), Same H H' → b.w = (List.replicate n [49]).flatten ++ (List.replicate n [48]).flatten → NameOf b x → Q (.str (S x)) H'
theorem star_le : ∀ (n : Nat) (a : List Nat), a.length = 2 * n → sg a = true → hgt 0 a = some 0 → ¬ a < (List.replicate n [49, 48]).flatten
  | 0, a, l, _, _ => by
    have : a = [] := List.eq_nil_of_length_eq_zero l
    subst this
    exact List.lt_irrefl _
  | n + 1, [], l, _, _ => absurd l (by rw [List.length_nil]; omega)
  | n + 1, [c], l, _, _ => absurd l (by show 1 ≠ _; omega)
  | n + 1, c :: d :: r, l, s, h => by
    have lr : r.length = 2 * n := by
      rw [List.length_cons, List.length_cons] at l
      omega
    obtain ⟨c2, s2⟩ := Bw.sg_tail s
    obtain ⟨d2, s3⟩ := Bw.sg_tail s2
    have c9 : c = 49 := by
      rcases c2 with e | e
      · subst e
        rw [hgt_zero (by decide)] at h
        cases h
      · exact e
    subst c9
    rw [hgt_up] at h
    rw [List.replicate_succ, List.flatten_cons]
    show ¬ (49 :: d :: r) < 49 :: 48 :: (List.replicate n [49, 48]).flatten
    rcases d2 with e | e
    · subst e
      rw [hgt_down (by decide)] at h
      have ih := star_le n r lr s3 h
      intro z
      rw [List.cons_lt_cons_iff] at z
      rcases z with z | ⟨_, z⟩
      · exact absurd z (Nat.lt_irrefl _)
      · rw [List.cons_lt_cons_iff] at z
        rcases z with z | ⟨_, z⟩
        · exact absurd z (Nat.lt_irrefl _)
        · exact ih z
    · subst e
      intro z
      rw [List.cons_lt_cons_iff] at z
      rcases z with z | ⟨_, z⟩
      · exact absurd z (Nat.lt_irrefl _)
      · rw [List.cons_lt_cons_iff] at z
        rcases z with z | ⟨e, _⟩
        · exact absurd z (by decide)
        · exact absurd e (by decide)
theorem star_name {b : Bw} {n : Nat} (e : b.w = (List.replicate n [49, 48]).flatten) : NameOf b b.w := by
  refine ⟨⟨0, rfl⟩, fun i => ?_⟩
  rw [e]
  have h := Bw.w_ok (Bw.turns i b) 0
  have l : (Bw.turns i b).w.length = 2 * n := by
    have h1 := Bw.turns_n i b
    have h2 : (Bw.turns i b).w.length = (Bw.turns i b).n := rfl
    have h3 : b.w.length = b.n := rfl
    have h4 := rep_len [49, 48] n
    rw [← e] at h4
    have h5 : ([49, 48] : List Nat).length = 2 := rfl
    rw [h5] at h4
    omega
  exact star_le n _ l h.1 h.2
section
variable {P : Program} {w : World} {K : PySem.W.Frag} {mg : Str → Option Value} {base : Heap}
theorem ok_are_one_tree {f : Addr} {fd : FuncData} (F : Fun K "are_one_tree" "are_one_tree" s_are_one_tree f fd) (T : Txt K mg) (c_check_word : Cl P w K mg base 3 "check_word" spCkWord) (c_turns_of : Cl P w K mg base 5 "turns_of" spTurnsOf) :
    FnOk P w K mg base CX0 6 f fd ["one", "other"] spOneTree := by
  have nd := sc_are_one_tree.nd
  refine F.ok sc_are_one_tree (fun vs H Q E h => ?_) (fun cdv A outer s H vs Q E hr h => ?_)
  · obtain ⟨b, c, rfl, _⟩ := h
    rfl
  · obtain ⟨b, c, rfl, h0, hb, hc, q⟩ := h
    have lz : ∀ n : Nat, n ≤ 2000 → n ≤ sizeLine := fun n h => Nat.le_trans h (by decide)
    have bl : b.w.length = b.n := rfl
    have cl : c.w.length = c.n := rfl
    refine ⟨_, (pss_cons (ps_expr (pe_f c_check_word hr (by decide) (by rfl) (pa_cons (pv 0) (pa_cons (pe_lit (l := [111, 110, 101]) (by decide +kernel)) pa_nil))))
 (pss_cons (ps_expr (pe_f c_check_word hr (by decide) (by rfl) (pa_cons (pv 1) (pa_cons (pe_lit (l := [111, 116, 104, 101, 114]) (by decide +kernel)) pa_nil))))
 (pss_cons (ps_if (pt_cmpR op_ne (pe_callB call_len_S (by rfl) T.n_len (by decide +kernel) (pa_cons (pv 0) pa_nil)) (pe_callB call_len_S (by rfl) T.n_len (by decide +kernel) (pa_cons (pv 1) pa_nil)) (nomark _))
 (pss_one ps_never)
 pss_nil)
 (pss_one (ps_ret (pe_cmpR (show OpR _ _ (rIn K false) from op_in_seq) (pv 1) (pe_f c_turns_of hr (by decide) (by rfl) (pa_cons (pv 0) pa_nil)) (by rfl))))))), ?_⟩
    refine ⟨_, rfl, b.w, _, rfl, Bw.isWd b h0 hb, ?_⟩
    refine ⟨_, rfl, c.w, _, rfl, Bw.isWd c (by omega) (by omega), ?_⟩
    refine ⟨_, rfl, b.w, rfl, lz _ (by omega), _, rfl, c.w, rfl, lz _ (by omega), rfl, _, rfl, ?_⟩
    rw [bl, cl, hc, decide_eq_true rfl]
    refine iteF ?_
    refine ⟨_, rfl, _, rfl, b, rfl, h0, hb, fun H1 p R s1 n1 hp hR => ?_⟩
    have hR : H1 R = some (.tup (rowsV b p)) := hR
    rw [rowsV_W] at hR
    refine ⟨R, _, rfl, .inr (SqT.of hR), rfl, flat_strs _, ?_⟩
    have e := in_strs c.w (rowsW b p)
    have q2 := q H1 p s1 hp
    rw [← e] at q2
    exact q2
theorem ok_star {f : Addr} {fd : FuncData} (F : Fun K "star" "star" s_star f fd) (T : Txt K mg) (c_check_pairs : Cl P w K mg base 4 "check_pairs" spPairs) : FnOk P w K mg base CX0 5 f fd ["pairs"] spStar := by
  have nd := sc_star.nd
  refine F.ok sc_star (fun vs H Q E h => ?_) (fun cdv A outer s H vs Q E hr h => ?_)
  · obtain ⟨n, rfl, _⟩ := h
    rfl
  · obtain ⟨n, rfl, h1, h2, q⟩ := h
    have lz : ∀ n : Nat, n ≤ 2000 → n ≤ sizeLine := fun n h => Nat.le_trans h (by decide)
    refine ⟨_, (pss_cons (ps_expr (pe_f c_check_pairs hr (by decide) (by rfl) (pa_cons (pv 0) pa_nil)))
 (pss_one (ps_ret (pe_op op_rep_S (pe_lit (l := [49, 48]) (by decide +kernel)) (pv 0))))), ?_⟩
    refine ⟨_, rfl, n, rfl, h1, h2, ?_⟩
    exact ⟨_, rfl, [49, 48], n, rfl, rfl, by omega, lz _ (by show 2 * n ≤ 2000; omega), by decide, q⟩
theorem ok_line {f : Addr} {fd : FuncData} (F : Fun K "line" "line" s_line f fd) (T : Txt K mg) (c_check_pairs : Cl P w K mg base 4 "check_pairs" spPairs) (c_name_of : Cl P w K mg base 6 "name_of" spName) : FnOk P w K mg base CX0 7 f fd ["pairs"] spLine := by
  have nd := sc_line.nd
  refine F.ok sc_line (fun vs H Q E h => ?_) (fun cdv A outer s H vs Q E hr h => ?_)
  · obtain ⟨n, rfl, _⟩ := h
    rfl
  · obtain ⟨n, rfl, h1, h2, q⟩ := h
    have lz : ∀ n : Nat, n ≤ 2000 → n ≤ sizeLine := fun n h => Nat.le_trans h (by decide)
    have l1 := rep_len [49] n
    have l2 := rep_len [48] n
    have e1 : ([49] : List Nat).length = 1 := rfl
    have e2 : ([48] : List Nat).length = 1 := rfl
    obtain ⟨b, eb⟩ := Bw.of_word (line_w n).1 (line_w n).2
    have bl : b.w.length = b.n := rfl
    have bn : b.n = 2 * n := by rw [← bl, ← eb, List.length_append, l1, l2, e1, e2]; omega
    refine ⟨_, (pss_cons (ps_expr (pe_f c_check_pairs hr (by decide) (by rfl) (pa_cons (pv 0) pa_nil)))
 (pss_one (ps_ret (pe_f c_name_of hr (by decide) (by rfl) (pa_cons (pe_op op_add_S (pe_op op_rep_S (pe_lit (l := [49]) (by decide +kernel)) (pv 0)) (pe_op op_rep_S (pe_lit (l := [48]) (by decide +kernel)) (pv 0))) pa_nil))))), ?_⟩
    refine ⟨_, rfl, n, rfl, h1, h2, ?_⟩
    refine ⟨_, rfl, [49], n, rfl, rfl, by omega, lz _ (by show 1 * n ≤ 2000; omega), by decide, _, rfl, [48], n, rfl, rfl, by omega, lz _ (by show 1 * n ≤ 2000; omega), by decide, _, _, rfl, rfl, lz _ (by rw [l1, l2, e1, e2]; omega), ?_⟩
    rw [eb]
    exact ⟨b, rfl, by omega, by omega, fun H' x s1 hx => q H' b x s1 eb.symm hx⟩
end
theorem line2_name {b : Bw} (e : b.w = (List.replicate 2 [49]).flatten ++ (List.replicate 2 [48]).flatten) : NameOf b [49, 48, 49, 48] := by
  have eb : b = .node (.node .nil .nil) .nil := Bw.w_inj _ _ e
  subst eb
  refine ⟨⟨1, rfl⟩, fun i => ?_⟩
  have h := Bw.w_ok (Bw.turns i (.node (.node .nil .nil) .nil)) 0
  have l : (Bw.turns i (.node (.node .nil .nil) .nil)).w.length = 2 * 2 := Bw.turns_n i _
  exact star_le 2 _ l h.1 h.2
theorem gd3b {K : PySem.W.Frag} {H : Hp} {p : Addr} {a b c : Bool} (h : SqL K H p [.bl a, .bl b, .bl c]) : GD K H (.ref p) (.list [.bool a, .bool b, .bool c]) :=
  GD.of h (.cons (.bl _) (.cons (.bl _) (.cons (.bl _) .nil))) (by simp only [okDs, okD, Bool.and_self]) (by simp only [PyData.bulkAll, PyData.bulk]; decide) (by simp only [PyData.depthAll, PyData.depth]; decide)
theorem turned_sym {b c : Bw} (h0 : 0 < b.n) (h : ∃ i, c = Bw.turns i b) : ∃ i, b = Bw.turns i c := by
  obtain ⟨i, rfl⟩ := h
  refine ⟨b.n * i - i, ?_⟩
  rw [← Bw.turns_add]
  have e : i + (b.n * i - i) = b.n * i + 0 := by
    have : i ≤ b.n * i := Nat.le_mul_of_pos_left i h0
    omega
  rw [e, turns_mod (Bw.turns_full b)]
  rfl
def spLaw (K : PySem.W.Frag) : Sp := fun vs H Q _ => ∃ (a : Addr) (ns : List Int), vs = [.ref a] ∧ SqL K H a (ns.map V.int) ∧ ns.length ≤ 63 ∧ ∀ H', Q (.bl true) H'
theorem law_end : ∀ (K : PySem.W.Frag) (H : Hp) (a : Addr) (ns : List Int), ns.length ≤ 63 → SqL K H a (ns.map V.int) → spLaw K [.ref a] H (fun v _ => v = .bl true) fun _ _ _ => False :=
  fun _ _ a ns hl hS => ⟨a, ns, rfl, hS, hl, fun _ => rfl⟩
section
variable {P : Program} {w : World} {K : PySem.W.Frag} {mg : Str → Option Value} {base : Heap}
theorem ok_law {f : Addr} {fd : FuncData} (F : Fun K "law" "law" s_law f fd) (T : Txt K mg) (c__law_badge : Cl P w K mg base 1 "_law_badge" (spGauge K)) (c__law_pin : Cl P w K mg base 1 "_law_pin" spTick)
    (c__law_one_of : Cl P w K mg base 2 "_law_one_of" (spDial K)) (c__law_word : Cl P w K mg base 3 "_law_word" spLword) (c__law_turned : Cl P w K mg base 1 "_law_turned" spLturn) (c__law_turns : Cl P w K mg base 2 "_law_turns" spLturns)
    (c_name_of : Cl P w K mg base 6 "name_of" spName) (ck_name_of_word : ClK P w K mg base 6 "name_of" ["word"] (pick [0]) spName) (c_are_one_tree : Cl P w K mg base 6 "are_one_tree" spOneTree) (ck_are_one_tree_other_one : ClK P w K mg base 6 "are_one_tree" ["other", "one"] (pick [1, 0]) spOneTree)
    (c_star : Cl P w K mg base 5 "star" spStar) (ck_star_pairs : ClK P w K mg base 5 "star" ["pairs"] (pick [0]) spStar) (c_line : Cl P w K mg base 7 "line" spLine) (ck_line_pairs : ClK P w K mg base 7 "line" ["pairs"] (pick [0]) spLine) : FnG P w K mg base CX0 8 f fd ["script"] (spLaw K) := by
  have nd := sc_law.nd
  refine okG F sc_law (fun vs H Q E h => ?_) (fun cdv A outer s H vs Q E gd hr h => ?_)
  · obtain ⟨a, ns, rfl, _⟩ := h
    rfl
  · obtain ⟨a, ns, rfl, hS, hl, q⟩ := h
    have hu64 := hr.units
    have lz : ∀ n : Nat, n ≤ 2000 → n ≤ sizeLine := fun n h => Nat.le_trans h (by decide)
    have okm : ∀ (c : Bw) (x : List Nat), c.n ≤ 400 → NameOf c x → x.length ≤ 400 ∧ sg x = true := by
      rintro c x hc ⟨⟨j, rfl⟩, _⟩
      exact ⟨by have := Bw.turns_n j c; have : (Bw.turns j c).w.length = (Bw.turns j c).n := rfl; omega, (Bw.w_ok _ 0).1⟩
    refine ⟨_, (pss_cons (ps_set (i := 1) nd rfl (by first | exact Or.inl rfl | exact Or.inr rfl) (pe_f c__law_badge hr (by decide) (by rfl) (pa_cons (pv 0) pa_nil)))
 (pss_cons (ps_for PassesOwn.never rfl (pi_range1 (by rfl) T.n_range (pa_cons pe_int pa_nil)) (pg_name (i := 2) nd rfl (by first | exact Or.inl rfl | exact Or.inr rfl))
 (pss_cons (ps_set (i := 3) nd rfl (by first | exact Or.inl rfl | exact Or.inr rfl) (pe_f c__law_one_of hr (by decide) (by rfl) (pa_cons (pv 1) (pa_cons (pe_lst (pa_cons pe_int (pa_cons pe_int (pa_cons (pe_op op_add pe_int (pe_f c__law_pin hr (by decide) (by rfl) (pa_cons (pv 1) (pa_cons pe_int pa_nil)))) (pa_cons pe_int (pa_cons pe_int pa_nil)))))) pa_nil))))
 (pss_cons (ps_set (i := 4) nd rfl (by first | exact Or.inl rfl | exact Or.inr rfl) (pe_f c__law_word hr (by decide) (by rfl) (pa_cons (pv 1) (pa_cons (pv 3) pa_nil))))
 (pss_cons (ps_set (i := 5) nd rfl (by first | exact Or.inl rfl | exact Or.inr rfl) (pe_f c__law_turns hr (by decide) (by rfl) (pa_cons (pv 4) pa_nil)))
 (pss_cons (ps_par (i := 6) (j := 7) rfl nd rfl rfl (by decide) rfl rfl (pa_cons (pe_f c__law_one_of hr (by decide) (by rfl) (pa_cons (pv 1) (pa_cons (pv 5) pa_nil))) (pa_cons (pe_f c__law_one_of hr (by decide) (by rfl) (pa_cons (pv 1) (pa_cons (pe_lst (pa_cons (pe_f c__law_word hr (by decide) (by rfl) (pa_cons (pv 1) (pa_cons (pv 3) pa_nil))) (pa_cons (pe_ix (show IxR _ (rIxL K) from ix_list) (pv 5) (pe_un un_neg pe_int) (fun _ _ => rfl)) pa_nil))) pa_nil))) pa_nil)) (by rfl))
 (pss_cons (ps_if (pt_cmpR (op_neG hu64) (pe_lst (pa_cons (pe_f c_name_of hr (by decide) (by rfl) (pa_cons (pv 4) pa_nil)) (pa_cons (pe_fk ck_name_of_word hr (by decide) (by rfl) (pk_cons (pv 6) pk_nil)) (pa_cons (pe_f c_name_of hr (by decide) (by rfl) (pa_cons (pe_f c_name_of hr (by decide) (by rfl) (pa_cons (pv 4) pa_nil)) pa_nil)) pa_nil)))) (pe_op op_rep (pe_lst (pa_cons (pe_callB (cr_minS rfl hu64) (by rfl) T.n_min (by decide +kernel) (pa_cons (pv 5) pa_nil)) pa_nil)) pe_int) (nomark _))
 (pss_one (ps_ret pe_bl))
 pss_nil)
 (pss_cons (ps_set (i := 8) nd rfl (by first | exact Or.inl rfl | exact Or.inr rfl) (pe_lst (pa_cons pe_bl (pa_cons (pe_cmpR (show OpR _ _ (rIn K false) from op_in_seq) (pv 7) (pv 5) (by rfl)) (pa_cons (pe_cmpR (show OpR _ _ (rIn K false) from op_in_seq) (pv 7) (pv 5) (by rfl)) pa_nil)))))
 (pss_cons (ps_if (pt_cmpR op_ne (pe_callB (cr_show gd hu64) (by rfl) T.n_repr (by decide +kernel) (pa_cons (pe_lst (pa_cons (pe_f c_are_one_tree hr (by decide) (by rfl) (pa_cons (pv 4) (pa_cons (pv 6) pa_nil))) (pa_cons (pe_f c_are_one_tree hr (by decide) (by rfl) (pa_cons (pv 4) (pa_cons (pv 7) pa_nil))) (pa_cons (pe_fk ck_are_one_tree_other_one hr (by decide) (by rfl) (pk_cons (pv 4) (pk_cons (pv 7) pk_nil))) pa_nil)))) pa_nil)) (pe_callB (cr_show gd hu64) (by rfl) T.n_repr (by decide +kernel) (pa_cons (pv 8) pa_nil)) (nomark _))
 (pss_one (ps_ret pe_bl))
 pss_nil)
 (pss_one (ps_if (PW.pt (pw_or (pt_cmpR op_ne_S (pe_f c_star hr (by decide) (by rfl) (pa_cons (pv 3) pa_nil)) (pe_callB (cr_minS rfl hu64) (by rfl) T.n_min (by decide +kernel) (pa_cons (pe_f c__law_turns hr (by decide) (by rfl) (pa_cons (pe_op op_rep_S (pe_lit (l := [49, 48]) (by decide +kernel)) (pv 3)) pa_nil)) pa_nil)) (nomark _)) (pw_or1 (pt_cmpR op_ne_S (pe_fk ck_line_pairs hr (by decide) (by rfl) (pk_cons (pv 3) pk_nil)) (pe_callB (cr_minS rfl hu64) (by rfl) T.n_min (by decide +kernel) (pa_cons (pe_f c__law_turns hr (by decide) (by rfl) (pa_cons (pe_op op_add_S (pe_op op_rep_S (pe_lit (l := [49]) (by decide +kernel)) (pv 3)) (pe_op op_rep_S (pe_lit (l := [48]) (by decide +kernel)) (pv 3))) pa_nil)) pa_nil)) (nomark _)))))
 (pss_one (ps_ret pe_bl))
 pss_nil))))))))))
 (pss_cons (ps_if (pt_cmpR op_eq (pe_f c__law_pin hr (by decide) (by rfl) (pa_cons (pv 1) (pa_cons pe_int pa_nil))) pe_int (nomark _))
 (pss_cons (ps_set (i := 4) nd rfl (by first | exact Or.inl rfl | exact Or.inr rfl) (pe_f c__law_word hr (by decide) (by rfl) (pa_cons (pv 1) (pa_cons pe_int pa_nil))))
 (pss_one (ps_if (PW.pt (pw_or (pt_cmpR op_ne_S (pe_f c_name_of hr (by decide) (by rfl) (pa_cons (pv 4) pa_nil)) (pe_callB (cr_minS rfl hu64) (by rfl) T.n_min (by decide +kernel) (pa_cons (pe_f c__law_turns hr (by decide) (by rfl) (pa_cons (pv 4) pa_nil)) pa_nil)) (nomark _)) (pw_or1 (pt_not (pt_val (pe_f c_are_one_tree hr (by decide) (by rfl) (pa_cons (pv 4) (pa_cons (pe_f c__law_turned hr (by decide) (by rfl) (pa_cons (pe_f c__law_turned hr (by decide) (by rfl) (pa_cons (pv 4) pa_nil)) pa_nil)) pa_nil))))))))
 (pss_one (ps_ret pe_bl))
 pss_nil)))
 pss_nil)
 (pss_one (ps_ret (pe_cmpR (op_eqG hu64) (pe_lst (pa_cons (pe_fk ck_star_pairs hr (by decide) (by rfl) (pk_cons pe_int pk_nil)) (pa_cons (pe_f c_line hr (by decide) (by rfl) (pa_cons pe_int pa_nil)) (pa_cons (pe_f c_line hr (by decide) (by rfl) (pa_cons pe_int pa_nil)) pa_nil)))) (pe_lst (pa_cons (pe_lit (l := [49, 48]) (by decide +kernel)) (pa_cons (pe_lit (l := [49, 48]) (by decide +kernel)) (pa_cons (pe_lit (l := [49, 48, 49, 48]) (by decide +kernel)) pa_nil)))) (nomark _))))))), ?_⟩
    refine ⟨_, rfl, a, ns, rfl, hS, hl, fun g H1 s1 ng hG => ?_⟩
    refine ⟨4, rfl, by decide, by decide, for_range (lo := 0) (n := 4) (fun i σ H' => ∃ v2 v3 v4 v5 v6 v7 v8, σ = [some (.ref a), some (.ref g), v2, v3, v4, v5, v6, v7, v8] ∧ GA H' g (1000 * i))
      ⟨none, none, none, none, none, none, none, rfl, hG⟩ ?_ ?_⟩
    · rintro i σ H2 hi ⟨v2, v3, v4, v5, v6, v7, v8, rfl, hG⟩
      refine ⟨_, rfl, _, rfl, g, _, 12, rfl, hG, by omega, by decide, pow_ok (by decide) (by decide), fun H3 t a0 b0 f3 G3 => ?_⟩
      refine ⟨_, _, rfl, rfl, by show 5 ≤ sizeLine; decide, fun L nL => ?_⟩
      have nLg : L ≠ g := fun e => by
        subst e
        exact G3.some nL
      refine ⟨g, L, _, _, rfl, G3.new nL, by omega, SqL.of upd_same, nLg, by show 0 < 5; decide, by show 5 < 1000; decide, fun H4 u hu f4 G4 => ?_⟩
      obtain ⟨n, rfl, n1, n2⟩ : ∃ n : Nat, u = .int n ∧ 1 ≤ n ∧ n ≤ 12 := by
        simp only [List.mem_cons, List.not_mem_nil, or_false] at hu
        rcases hu with h | h | h | h | h
        · exact ⟨4, h, by decide, by decide⟩
        · exact ⟨5, h, by decide, by decide⟩
        · exact ⟨(1 + t).toNat, by rw [h]; congr 1; omega, by omega, by omega⟩
        · exact ⟨3, h, by decide, by decide⟩
        · exact ⟨6, h, by decide, by decide⟩
      refine ⟨_, rfl, _, rfl, g, _, n, rfl, G4, n1, by omega, by omega, fun H5 w1 sw1 hw1 lw1 f5 G5 => ?_⟩
      obtain ⟨b, rfl⟩ := Bw.of_word sw1 hw1
      have wl : b.w.length = b.n := rfl
      have h0 : 0 < b.n := by omega
      have hb : b.n ≤ 400 := by omega
      refine ⟨_, rfl, b, rfl, h0, hb, fun H6 R1 p s6 n6 hp hR1 => ?_⟩
      have p1 := hp.1
      have rl := rowsV_len b p
      have nR1g : R1 ≠ g := fun e => by
        subst e
        exact G5.some n6
      have G6 := G5.same s6
      refine ⟨_, rfl, _, rfl, g, R1, _, _, rfl, G6, by omega, SqL.of hR1, nR1g, by rw [rl]; omega, by rw [rl]; have := hp.2.1; omega, fun H7 ev hev f7 G7 => ?_⟩
      obtain ⟨j, jp, rfl⟩ : ∃ j, j < p ∧ ev = .str (S (Bw.turns j b).w) := by
        obtain ⟨j, hj, e⟩ := List.mem_map.mp hev
        exact ⟨j, List.mem_range.mp hj, e.symm⟩
      have tj := Bw.turns_n j b
      refine ⟨_, rfl, _, rfl, _, rfl, g, _, n, rfl, G7, n1, by omega, by omega, fun H8 w2 sw2 hw2 lw2 f8 G8 => ?_⟩
      have hR8 := f8.k _ _ nR1g (f7.k _ _ nR1g hR1)
      have lastr : rowsV b p = ((List.range (p - 1)).map fun i => V.str (S (Bw.turns i b).w)) ++ [.str (S (Bw.turns (p - 1) b).w)] := by
        unfold rowsV
        have e : p = (p - 1) + 1 := by omega
        rw [e, List.range_succ, List.map_append, Nat.add_sub_cancel]
        rfl
      have atl : atI (rowsV b p) (-1) = some (.str (S (Bw.turns (p - 1) b).w)) := by rw [lastr, atI_last]
      refine ⟨_, rfl, _, rfl, R1, _, _, _, rfl, rfl, SqL.of hR8, atl, by show 2 ≤ sizeLine; decide, fun L2 nL2 => ?_⟩
      have nL2g : L2 ≠ g := fun e => by
        subst e
        exact G8.some nL2
      refine ⟨g, L2, _, _, rfl, G8.new nL2, by omega, SqL.of upd_same, nL2g, by show 0 < 2; decide, by show 2 < 1000; decide, fun H9 ov hov f9 G9 => ?_⟩
      obtain ⟨c, rfl, cn⟩ : ∃ c : Bw, ov = .str (S c.w) ∧ c.n = b.n := by
        simp only [List.mem_cons, List.not_mem_nil, or_false] at hov
        rcases hov with h | h
        · obtain ⟨c, rfl⟩ := Bw.of_word sw2 hw2
          have cl : c.w.length = c.n := rfl
          exact ⟨c, h, by omega⟩
        · exact ⟨_, h, Bw.turns_n _ _⟩
      have hR9 : H9 R1 = some (.lst (rowsV b p)) := f9.k _ _ nR1g (same_new nL2 _ _ hR8)
      refine ⟨_, _, rfl, ?_⟩
      -- names
      refine ⟨_, rfl, b, rfl, h0, hb, fun Ha xa sa na => ?_⟩
      refine ⟨_, rfl, rfl, Bw.turns j b, rfl, by omega, by omega, fun Hb xb sb nb => ?_⟩
      refine ⟨_, rfl, b, rfl, h0, hb, fun Hc xc sc nc => ?_⟩
      obtain ⟨⟨k, ek⟩, _⟩ := id nc
      have tk := Bw.turns_n k b
      refine ⟨Bw.turns k b, by rw [ek], by omega, by omega, fun Hd xd sd nd => ?_⟩
      have eb : xb = xa := name_uniq ((name_turns h0 j).mp nb) na
      have ed : xd = xa := name_uniq ((name_turns h0 k).mp nd) na
      have eM : minW b.w (rowsW b p).tail = xa := name_uniq (min_name hp) na
      subst eb ed
      have smd : Same H9 Hd := fun x o e => sd _ _ (sc _ _ (sb _ _ (sa _ _ e)))
      have hRd : Hd R1 = some (.lst ((rowsW b p).map fun x => V.str (S x))) := by
        rw [← rowsV_W]
        exact smd _ _ hR9
      refine ⟨by show 3 ≤ sizeLine; decide, fun L3 nL3 => ?_⟩
      refine ⟨_, rfl, R1, b.w, (rowsW b p).tail, rfl, .inl (by rw [← rowsW_split b p1]; exact SqL.of (same_new nL3 _ _ hRd)), ?_⟩
      rw [eM]
      refine ⟨by show 1 ≤ sizeLine; decide, fun L4 nL4 => ⟨_, _, _, rfl, rfl, upd_same, by decide, by decide, by show 1 * 3 ≤ sizeLine; decide, fun L5 nL5 => ?_⟩⟩
      have okx := okm b xd hb na
      have ok3 : ∀ x ∈ [xd, xd, xd], x.length ≤ 400 ∧ sg x = true := by
        intro x hx
        simp only [List.mem_cons, List.not_mem_nil, or_false] at hx
        rcases hx with h | h | h <;> rw [h] <;> exact okx
      have gd1 := gd_ts (K := K) (ts := [xd, xd, xd]) (SqL.of (same_new nL5 (o := .lst [.str (S xd), .str (S xd), .str (S xd)]) _ _ (same_new nL4 (o := .lst [.str (S xd)]) _ _ (upd_same (H := Hd) (a := L3))))) (by show 3 ≤ 20; decide) ok3
      refine ⟨_, _, gd1, gd_ts (ts := [xd, xd, xd]) (SqL.of upd_same) (by show 3 ≤ 20; decide) ok3, _, rfl, ?_⟩
      rw [eqv_gd gd1]
      refine iteF ?_
      obtain ⟨He, ee⟩ : ∃ He, He = upd (upd (upd Hd L3 (.lst [.str (S xd), .str (S xd), .str (S xd)])) L4 (.lst [.str (S xd)])) L5 (.lst [.str (S xd), .str (S xd), .str (S xd)]) := ⟨_, rfl⟩
      have sme : Same H9 He := fun x o e => by rw [ee]; exact same_new nL5 _ _ (same_new nL4 _ _ (same_new nL3 _ _ (smd _ _ e)))
      show tNext _ _ (upd (upd (upd Hd L3 (.lst [.str (S xd), .str (S xd), .str (S xd)])) L4 (.lst [.str (S xd)])) L5 (.lst [.str (S xd), .str (S xd), .str (S xd)]))
      rw [← ee]
      -- one tree
      have hRe : He R1 = some (.lst ((rowsW b p).map fun x => V.str (S x))) := by
        rw [← rowsV_W]
        exact sme _ _ hR9
      refine ⟨_, rfl, _, rfl, R1, _, rfl, .inl (SqL.of hRe), rfl, flat_strs _, _, rfl, _, rfl, R1, _, rfl, .inl (SqL.of hRe), rfl, flat_strs _, by show 3 ≤ sizeLine; decide, fun D nD => ?_⟩
      have hD : (upd He D (.lst [.bl true, .bl (if false = true then !inV (.str (S c.w)) ((rowsW b p).map fun x => V.str (S x)) else inV (.str (S c.w)) ((rowsW b p).map fun x => V.str (S x))), .bl (if false = true then !inV (.str (S c.w)) ((rowsW b p).map fun x => V.str (S x)) else inV (.str (S c.w)) ((rowsW b p).map fun x => V.str (S x)))])) D = some (.lst [.bl true, .bl (decide (c.w ∈ rowsW b p)), .bl (decide (c.w ∈ rowsW b p))]) := by
        rw [upd_same, ← in_strs]
        rfl
      have smD := sme
      obtain ⟨Hf, ef⟩ : ∃ Hf, Hf = (upd He D (.lst [.bl true, .bl (if false = true then !inV (.str (S c.w)) ((rowsW b p).map fun x => V.str (S x)) else inV (.str (S c.w)) ((rowsW b p).map fun x => V.str (S x))), .bl (if false = true then !inV (.str (S c.w)) ((rowsW b p).map fun x => V.str (S x)) else inV (.str (S c.w)) ((rowsW b p).map fun x => V.str (S x)))])) := ⟨_, rfl⟩
      rw [← ef] at hD
      have smf : Same H9 Hf := fun x o e => by rw [ef]; exact same_new nD _ _ (sme _ _ e)
      refine ⟨_, rfl, _, rfl, b, Bw.turns j b, rfl, h0, hb, tj, fun Hg1 q1 sg1 hq1 => ?_⟩
      have e1 : p = q1 := per_uniq hp hq1
      subst e1
      refine ⟨_, rfl, _, rfl, b, c, rfl, h0, hb, cn, fun Hg2 q2 sg2 hq2 => ?_⟩
      have e2 : p = q2 := per_uniq hp hq2
      subst e2
      refine ⟨_, rfl, _, rfl, rfl, c, b, rfl, by omega, by omega, cn.symm, fun Hg q3 sg3 hq3 => ?_⟩
      have d1 : decide ((Bw.turns j b).w ∈ rowsW b p) = true := decide_eq_true ((mem_rows hp).mpr ⟨j, rfl⟩)
      have d3 : decide (b.w ∈ rowsW c q3) = decide (c.w ∈ rowsW b p) := by
        by_cases h : c.w ∈ rowsW b p
        · rw [decide_eq_true h, decide_eq_true ((mem_rows hq3).mpr (turned_sym h0 ((mem_rows hp).mp h)))]
        · rw [decide_eq_false h, decide_eq_false fun z => h ((mem_rows hp).mpr (turned_sym (by omega) ((mem_rows hq3).mp z)))]
      rw [d1, d3]
      have hDg : Hg D = some (.lst [.bl true, .bl (decide (c.w ∈ rowsW b p)), .bl (decide (c.w ∈ rowsW b p))]) := sg3 _ _ (sg2 _ _ (sg1 _ _ (by rw [← ef]; exact hD)))
      have smg : Same H9 Hg := fun x o e => sg3 _ _ (sg2 _ _ (sg1 _ _ (by rw [← ef]; exact smf _ _ e)))
      refine ⟨by show 3 ≤ sizeLine; decide, fun L6 nL6 => ⟨_, _, rfl, gd3b (SqL.of upd_same), _, rfl, _, _, rfl, gd3b (SqL.of (same_new nL6 _ _ hDg)), rfl, _, rfl, ?_⟩⟩
      rw [decide_eq_true rfl]
      refine iteF ?_
      have smh : Same H9 (upd Hg L6 (.lst [.bl true, .bl (decide (c.w ∈ rowsW b p)), .bl (decide (c.w ∈ rowsW b p))])) := fun x o e => same_new nL6 _ _ (smg _ _ e)
      obtain ⟨Hh, eh⟩ : ∃ Hh, Hh = upd Hg L6 (.lst [.bl true, .bl (decide (c.w ∈ rowsW b p)), .bl (decide (c.w ∈ rowsW b p))]) := ⟨_, rfl⟩
      show tNext _ _ (upd Hg L6 (.lst [.bl true, .bl (decide (c.w ∈ rowsW b p)), .bl (decide (c.w ∈ rowsW b p))]))
      rw [← eh] at smh ⊢
      -- star, line
      obtain ⟨bs, ebs⟩ := Bw.of_word (star_w n).1 (star_w n).2
      obtain ⟨bl, ebl⟩ := Bw.of_word (line_w n).1 (line_w n).2
      have r0 := rep_len [49, 48] n
      have r1 := rep_len [49] n
      have r2 := rep_len [48] n
      have c0 : ([49, 48] : List Nat).length = 2 := rfl
      have c1 : ([49] : List Nat).length = 1 := rfl
      have c2 : ([48] : List Nat).length = 1 := rfl
      have bsn : bs.n = 2 * n := by
        have : bs.w.length = bs.n := rfl
        rw [← this, ← ebs, r0, c0]
      have bln : bl.n = 2 * n := by
        have : bl.w.length = bl.n := rfl
        rw [← this, ← ebl, List.length_append, r1, r2, c1, c2]
        omega
      refine ⟨_, rfl, n, rfl, n1, by omega, ?_⟩
      refine ⟨_, rfl, [49, 48], n, rfl, rfl, by omega, lz _ (by show 2 * n ≤ 2000; omega), by decide, bs, by rw [ebs], by omega, by omega, fun Hi R3 p3 si ni hp3 hR3 => ?_⟩
      have hR3' : Hi R3 = some (.lst ((rowsW bs p3).map fun x => V.str (S x))) := by
        rw [← rowsV_W]
        exact hR3
      refine ⟨R3, bs.w, (rowsW bs p3).tail, rfl, .inl (by rw [← rowsW_split bs hp3.1]; exact SqL.of hR3'), ?_⟩
      have es : minW bs.w (rowsW bs p3).tail = (List.replicate n [49, 48]).flatten := by
        rw [ebs]
        exact name_uniq (min_name hp3) (star_name ebs.symm)
      rw [es]
      refine ⟨_, _, rfl, rfl, _, rfl, ?_⟩
      rw [decide_eq_true rfl]
      refine iteF ?_
      refine ⟨_, rfl, rfl, n, rfl, n1, by omega, fun Hj b5 x5 sj e5 n5 => ?_⟩
      have e55 : b5 = bl := Bw.w_inj _ _ (by rw [e5, ebl])
      subst e55
      refine ⟨_, rfl, [49], n, rfl, rfl, by omega, lz _ (by show 1 * n ≤ 2000; omega), by decide, _, rfl, [48], n, rfl, rfl, by omega, lz _ (by show 1 * n ≤ 2000; omega), by decide, _, _, rfl, rfl, lz _ (by rw [r1, r2, c1, c2]; omega), b5, by rw [ebl], by omega, by omega, fun Hk R4 p4 sk nk hp4 hR4 => ?_⟩
      have hR4' : Hk R4 = some (.lst ((rowsW b5 p4).map fun x => V.str (S x))) := by
        rw [← rowsV_W]
        exact hR4
      refine ⟨R4, b5.w, (rowsW b5 p4).tail, rfl, .inl (by rw [← rowsW_split b5 hp4.1]; exact SqL.of hR4'), ?_⟩
      rw [name_uniq (min_name hp4) n5]
      refine ⟨_, _, rfl, rfl, _, rfl, ?_⟩
      rw [decide_eq_true rfl]
      refine iteF ?_
      exact ⟨_, _, _, _, _, _, _, rfl, (G9.same fun x o e => sk _ _ (sj _ _ (si _ _ (smh _ _ e)))).mono (by omega)⟩
    · rintro σ H2 ⟨v2, v3, v4, v5, v6, v7, v8, rfl, hG⟩
      refine ⟨_, rfl, g, _, 10, rfl, hG, by omega, by decide, pow_ok (by decide) (by decide), fun H3 t a0 b0 f3 G3 => ?_⟩
      refine ⟨rfl, _, rfl, ?_⟩
      refine ite2 (fun _ => ?_) (fun _ => ?_)
      · refine ⟨_, rfl, g, _, 60, rfl, G3, by decide, by decide, by omega, fun H4 w1 sw1 hw1 lw1 f4 G4 => ?_⟩
        obtain ⟨b, rfl⟩ := Bw.of_word sw1 hw1
        have wl : b.w.length = b.n := rfl
        have h0 : 0 < b.n := by omega
        have hb : b.n ≤ 400 := by omega
        refine ⟨_, rfl, b, rfl, h0, hb, fun Ha xa sa na => ?_⟩
        refine ⟨_, rfl, b, rfl, h0, hb, fun Hb R1 p sb nb hp hR1 => ?_⟩
        have hR1' : Hb R1 = some (.lst ((rowsW b p).map fun x => V.str (S x))) := by
          rw [← rowsV_W]
          exact hR1
        refine ⟨R1, b.w, (rowsW b p).tail, rfl, .inl (by rw [← rowsW_split b hp.1]; exact SqL.of hR1'), ?_⟩
        rw [name_uniq (min_name hp) na]
        refine ⟨_, _, rfl, rfl, _, rfl, ?_⟩
        rw [decide_eq_true rfl]
        refine iteF ?_
        have t1 := Bw.turn_n b
        have t2 := Bw.turn_n (Bw.turn b)
        refine ⟨_, rfl, _, rfl, b, rfl, h0, hb, fun Hc sc => ?_⟩
        refine ⟨Bw.turn b, rfl, by omega, by omega, fun Hd sd => ?_⟩
        refine ⟨b, Bw.turn (Bw.turn b), rfl, h0, hb, by omega, fun He q1 se hq1 => ?_⟩
        refine ⟨_, rfl, ?_⟩
        rw [show decide ((Bw.turn (Bw.turn b)).w ∈ rowsW b q1) = true from decide_eq_true ((mem_rows hq1).mpr ⟨2, rfl⟩)]
        refine iteF ?_
        refine ⟨rfl, 1, rfl, by decide, by decide, ?_⟩
        refine ⟨1, rfl, by decide, by decide, fun Hy1 bA xA sA eA nA => ?_⟩
        refine ⟨2, rfl, by decide, by decide, fun Hy2 bB xB sB eB nB => ?_⟩
        have eA1 : xA = [49, 48] := by
          have h := name_uniq nA (star_name (b := bA) (n := 1) eA)
          rw [h, eA]
          rfl
        have eB1 : xB = [49, 48, 49, 48] := name_uniq nB (line2_name eB)
        subst eA1 eB1
        refine ⟨by show 3 ≤ sizeLine; decide, fun L8 nL8 => ⟨by show 3 ≤ sizeLine; decide, fun L9 nL9 => ?_⟩⟩
        have okl : ∀ x ∈ [[49, 48], [49, 48], [49, 48, 49, 48]], x.length ≤ 400 ∧ sg x = true := by decide
        have gl1 := gd_ts (K := K) (ts := [[49, 48], [49, 48], [49, 48, 49, 48]]) (SqL.of (same_new nL9 (o := .lst [.str (S [49, 48]), .str (S [49, 48]), .str (S [49, 48, 49, 48])]) _ _ (upd_same (H := Hy2) (a := L8)))) (by decide) okl
        refine ⟨_, _, gl1, gd_ts (ts := [[49, 48], [49, 48], [49, 48, 49, 48]]) (SqL.of upd_same) (by decide) okl, ?_⟩
        rw [eqv_gd gl1]
        exact q _
      · refine ⟨rfl, 1, rfl, by decide, by decide, ?_⟩
        refine ⟨1, rfl, by decide, by decide, fun Hy1 bA xA sA eA nA => ?_⟩
        refine ⟨2, rfl, by decide, by decide, fun Hy2 bB xB sB eB nB => ?_⟩
        have eA1 : xA = [49, 48] := by
          have h := name_uniq nA (star_name (b := bA) (n := 1) eA)
          rw [h, eA]
          rfl
        have eB1 : xB = [49, 48, 49, 48] := name_uniq nB (line2_name eB)
        subst eA1 eB1
        refine ⟨by show 3 ≤ sizeLine; decide, fun L8 nL8 => ⟨by show 3 ≤ sizeLine; decide, fun L9 nL9 => ?_⟩⟩
        have okl : ∀ x ∈ [[49, 48], [49, 48], [49, 48, 49, 48]], x.length ≤ 400 ∧ sg x = true := by decide
        have gl1 := gd_ts (K := K) (ts := [[49, 48], [49, 48], [49, 48, 49, 48]]) (SqL.of (same_new nL9 (o := .lst [.str (S [49, 48]), .str (S [49, 48]), .str (S [49, 48, 49, 48])]) _ _ (upd_same (H := Hy2) (a := L8)))) (by decide) okl
        refine ⟨_, _, gl1, gd_ts (ts := [[49, 48], [49, 48], [49, 48, 49, 48]]) (SqL.of upd_same) (by decide) okl, ?_⟩
        rw [eqv_gd gl1]
        exact q _
end

/-! ### what the top has written, the end -/
theorem all_mk {l : PySem.W.OpenLaw} {w : World} {K : PySem.W.Frag} {h : Heap} {mg : Str → Option Value} {fa f0 f1 f2 f3 f4 f5 f6 f7 f8 f9 f10 f11 f12 f13 f14 f15 f16 f17 f18 f19 f20 f21 f22 : Addr} (X : K.In h) (G : h.Ns mainGlobals mg) (hfa : mg "law" = some (.ref fa))
    {od0 an0 od1 an1 od2 an2 od3 an3 od4 an4 od5 an5 od6 an6 od7 an7 od8 an8 od9 an9 od10 an10 od11 an11 od12 an12 od13 an13 od14 an14 od15 an15 od16 an16 od17 an17 od18 an18 od19 an19 od20 an20 od21 an21 od22 an22 : Option Addr} {sl0 sl1 sl2 sl3 sl4 sl5 sl6 sl7 sl8 sl9 sl10 sl11 sl12 sl13 sl14 sl15 sl16 sl17 sl18 sl19 sl20 sl21 sl22 : Array (Option Value)} {oc0 kV0 dc0 pm0 cd0 ct0 oc1 kV1 dc1 pm1 cd1 ct1 oc2 kV2 dc2 pm2 cd2 ct2 oc3 kV3 dc3 pm3 cd3 ct3 oc4 kV4 dc4 pm4 cd4 ct4 oc5 kV5 dc5 pm5 cd5 ct5 oc6 kV6 dc6 pm6 cd6 ct6 oc7 kV7 dc7 pm7 cd7 ct7 oc8 kV8 dc8 pm8 cd8 ct8 oc9 kV9 dc9 pm9 cd9 ct9 oc10 kV10 dc10 pm10 cd10 ct10 oc11 kV11 dc11 pm11 cd11 ct11 oc12 kV12 dc12 pm12 cd12 ct12 oc13 kV13 dc13 pm13 cd13 ct13 oc14 kV14 dc14 pm14 cd14 ct14 oc15 kV15 dc15 pm15 cd15 ct15 oc16 kV16 dc16 pm16 cd16 ct16 oc17 kV17 dc17 pm17 cd17 ct17 oc18 kV18 dc18 pm18 cd18 ct18 oc19 kV19 dc19 pm19 cd19 ct19 oc20 kV20 dc20 pm20 cd20 ct20 oc21 kV21 dc21 pm21 cd21 ct21 oc22 kV22 dc22 pm22 cd22 ct22 : Value}
    (a0 : PySem.W.nsIn K mainGlobals "is_integer" = some (some (.ref f0)))
    (l0 : K.lookup f0 = some ⟨oc0, od0, .func (PySem.W.fnOf "is_integer" "is_integer" (defArgs s_is_integer) (defBody s_is_integer) (defScope s_is_integer) .none kV0 dc0 pm0 an0 cd0 ct0), sl0⟩)
    (c0 : PySem.W.codeIn K cd0 "is_integer" = true) (k0 : PySem.W.keepIn K (.ref f0) = true)
    (a1 : PySem.W.nsIn K mainGlobals "is_within" = some (some (.ref f1)))
    (l1 : K.lookup f1 = some ⟨oc1, od1, .func (PySem.W.fnOf "is_within" "is_within" (defArgs s_is_within) (defBody s_is_within) (defScope s_is_within) .none kV1 dc1 pm1 an1 cd1 ct1), sl1⟩)
    (c1 : PySem.W.codeIn K cd1 "is_within" = true) (k1 : PySem.W.keepIn K (.ref f1) = true)
    (a2 : PySem.W.nsIn K mainGlobals "is_signs" = some (some (.ref f2)))
    (l2 : K.lookup f2 = some ⟨oc2, od2, .func (PySem.W.fnOf "is_signs" "is_signs" (defArgs s_is_signs) (defBody s_is_signs) (defScope s_is_signs) .none kV2 dc2 pm2 an2 cd2 ct2), sl2⟩)
    (c2 : PySem.W.codeIn K cd2 "is_signs" = true) (k2 : PySem.W.keepIn K (.ref f2) = true)
    (a3 : PySem.W.nsIn K mainGlobals "check_number" = some (some (.ref f3)))
    (l3 : K.lookup f3 = some ⟨oc3, od3, .func (PySem.W.fnOf "check_number" "check_number" (defArgs s_check_number) (defBody s_check_number) (defScope s_check_number) .none kV3 dc3 pm3 an3 cd3 ct3), sl3⟩)
    (c3 : PySem.W.codeIn K cd3 "check_number" = true) (k3 : PySem.W.keepIn K (.ref f3) = true)
    (a4 : PySem.W.nsIn K mainGlobals "check_pairs" = some (some (.ref f4)))
    (l4 : K.lookup f4 = some ⟨oc4, od4, .func (PySem.W.fnOf "check_pairs" "check_pairs" (defArgs s_check_pairs) (defBody s_check_pairs) (defScope s_check_pairs) .none kV4 dc4 pm4 an4 cd4 ct4), sl4⟩)
    (c4 : PySem.W.codeIn K cd4 "check_pairs" = true) (k4 : PySem.W.keepIn K (.ref f4) = true)
    (a5 : PySem.W.nsIn K mainGlobals "is_word" = some (some (.ref f5)))
    (l5 : K.lookup f5 = some ⟨oc5, od5, .func (PySem.W.fnOf "is_word" "is_word" (defArgs s_is_word) (defBody s_is_word) (defScope s_is_word) .none kV5 dc5 pm5 an5 cd5 ct5), sl5⟩)
    (c5 : PySem.W.codeIn K cd5 "is_word" = true) (k5 : PySem.W.keepIn K (.ref f5) = true)
    (a6 : PySem.W.nsIn K mainGlobals "check_word" = some (some (.ref f6)))
    (l6 : K.lookup f6 = some ⟨oc6, od6, .func (PySem.W.fnOf "check_word" "check_word" (defArgs s_check_word) (defBody s_check_word) (defScope s_check_word) .none kV6 dc6 pm6 an6 cd6 ct6), sl6⟩)
    (c6 : PySem.W.codeIn K cd6 "check_word" = true) (k6 : PySem.W.keepIn K (.ref f6) = true)
    (a7 : PySem.W.nsIn K mainGlobals "gaps_of" = some (some (.ref f7)))
    (l7 : K.lookup f7 = some ⟨oc7, od7, .func (PySem.W.fnOf "gaps_of" "gaps_of" (defArgs s_gaps_of) (defBody s_gaps_of) (defScope s_gaps_of) .none kV7 dc7 pm7 an7 cd7 ct7), sl7⟩)
    (c7 : PySem.W.codeIn K cd7 "gaps_of" = true) (k7 : PySem.W.keepIn K (.ref f7) = true)
    (a8 : PySem.W.nsIn K mainGlobals "moved_round" = some (some (.ref f8)))
    (l8 : K.lookup f8 = some ⟨oc8, od8, .func (PySem.W.fnOf "moved_round" "moved_round" (defArgs s_moved_round) (defBody s_moved_round) (defScope s_moved_round) .none kV8 dc8 pm8 an8 cd8 ct8), sl8⟩)
    (c8 : PySem.W.codeIn K cd8 "moved_round" = true) (k8 : PySem.W.keepIn K (.ref f8) = true)
    (a9 : PySem.W.nsIn K mainGlobals "word_of_gaps" = some (some (.ref f9)))
    (l9 : K.lookup f9 = some ⟨oc9, od9, .func (PySem.W.fnOf "word_of_gaps" "word_of_gaps" (defArgs s_word_of_gaps) (defBody s_word_of_gaps) (defScope s_word_of_gaps) .none kV9 dc9 pm9 an9 cd9 ct9), sl9⟩)
    (c9 : PySem.W.codeIn K cd9 "word_of_gaps" = true) (k9 : PySem.W.keepIn K (.ref f9) = true)
    (a10 : PySem.W.nsIn K mainGlobals "period" = some (some (.ref f10)))
    (l10 : K.lookup f10 = some ⟨oc10, od10, .func (PySem.W.fnOf "period" "period" (defArgs s_period) (defBody s_period) (defScope s_period) .none kV10 dc10 pm10 an10 cd10 ct10), sl10⟩)
    (c10 : PySem.W.codeIn K cd10 "period" = true) (k10 : PySem.W.keepIn K (.ref f10) = true)
    (a11 : PySem.W.nsIn K mainGlobals "turns_of" = some (some (.ref f11)))
    (l11 : K.lookup f11 = some ⟨oc11, od11, .func (PySem.W.fnOf "turns_of" "turns_of" (defArgs s_turns_of) (defBody s_turns_of) (defScope s_turns_of) .none kV11 dc11 pm11 an11 cd11 ct11), sl11⟩)
    (c11 : PySem.W.codeIn K cd11 "turns_of" = true) (k11 : PySem.W.keepIn K (.ref f11) = true)
    (a12 : PySem.W.nsIn K mainGlobals "name_of" = some (some (.ref f12)))
    (l12 : K.lookup f12 = some ⟨oc12, od12, .func (PySem.W.fnOf "name_of" "name_of" (defArgs s_name_of) (defBody s_name_of) (defScope s_name_of) .none kV12 dc12 pm12 an12 cd12 ct12), sl12⟩)
    (c12 : PySem.W.codeIn K cd12 "name_of" = true) (k12 : PySem.W.keepIn K (.ref f12) = true)
    (a13 : PySem.W.nsIn K mainGlobals "are_one_tree" = some (some (.ref f13)))
    (l13 : K.lookup f13 = some ⟨oc13, od13, .func (PySem.W.fnOf "are_one_tree" "are_one_tree" (defArgs s_are_one_tree) (defBody s_are_one_tree) (defScope s_are_one_tree) .none kV13 dc13 pm13 an13 cd13 ct13), sl13⟩)
    (c13 : PySem.W.codeIn K cd13 "are_one_tree" = true) (k13 : PySem.W.keepIn K (.ref f13) = true)
    (a14 : PySem.W.nsIn K mainGlobals "star" = some (some (.ref f14)))
    (l14 : K.lookup f14 = some ⟨oc14, od14, .func (PySem.W.fnOf "star" "star" (defArgs s_star) (defBody s_star) (defScope s_star) .none kV14 dc14 pm14 an14 cd14 ct14), sl14⟩)
    (c14 : PySem.W.codeIn K cd14 "star" = true) (k14 : PySem.W.keepIn K (.ref f14) = true)
    (a15 : PySem.W.nsIn K mainGlobals "line" = some (some (.ref f15)))
    (l15 : K.lookup f15 = some ⟨oc15, od15, .func (PySem.W.fnOf "line" "line" (defArgs s_line) (defBody s_line) (defScope s_line) .none kV15 dc15 pm15 an15 cd15 ct15), sl15⟩)
    (c15 : PySem.W.codeIn K cd15 "line" = true) (k15 : PySem.W.keepIn K (.ref f15) = true)
    (a16 : PySem.W.nsIn K mainGlobals "_law_badge" = some (some (.ref f16)))
    (l16 : K.lookup f16 = some ⟨oc16, od16, .func (PySem.W.fnOf "_law_badge" "_law_badge" (defArgs s__law_badge) (defBody s__law_badge) (defScope s__law_badge) .none kV16 dc16 pm16 an16 cd16 ct16), sl16⟩)
    (c16 : PySem.W.codeIn K cd16 "_law_badge" = true) (k16 : PySem.W.keepIn K (.ref f16) = true)
    (a17 : PySem.W.nsIn K mainGlobals "_law_pin" = some (some (.ref f17)))
    (l17 : K.lookup f17 = some ⟨oc17, od17, .func (PySem.W.fnOf "_law_pin" "_law_pin" (defArgs s__law_pin) (defBody s__law_pin) (defScope s__law_pin) .none kV17 dc17 pm17 an17 cd17 ct17), sl17⟩)
    (c17 : PySem.W.codeIn K cd17 "_law_pin" = true) (k17 : PySem.W.keepIn K (.ref f17) = true)
    (a18 : PySem.W.nsIn K mainGlobals "_law_one_of" = some (some (.ref f18)))
    (l18 : K.lookup f18 = some ⟨oc18, od18, .func (PySem.W.fnOf "_law_one_of" "_law_one_of" (defArgs s__law_one_of) (defBody s__law_one_of) (defScope s__law_one_of) .none kV18 dc18 pm18 an18 cd18 ct18), sl18⟩)
    (c18 : PySem.W.codeIn K cd18 "_law_one_of" = true) (k18 : PySem.W.keepIn K (.ref f18) = true)
    (a19 : PySem.W.nsIn K mainGlobals "_law_word" = some (some (.ref f19)))
    (l19 : K.lookup f19 = some ⟨oc19, od19, .func (PySem.W.fnOf "_law_word" "_law_word" (defArgs s__law_word) (defBody s__law_word) (defScope s__law_word) .none kV19 dc19 pm19 an19 cd19 ct19), sl19⟩)
    (c19 : PySem.W.codeIn K cd19 "_law_word" = true) (k19 : PySem.W.keepIn K (.ref f19) = true)
    (a20 : PySem.W.nsIn K mainGlobals "_law_turned" = some (some (.ref f20)))
    (l20 : K.lookup f20 = some ⟨oc20, od20, .func (PySem.W.fnOf "_law_turned" "_law_turned" (defArgs s__law_turned) (defBody s__law_turned) (defScope s__law_turned) .none kV20 dc20 pm20 an20 cd20 ct20), sl20⟩)
    (c20 : PySem.W.codeIn K cd20 "_law_turned" = true) (k20 : PySem.W.keepIn K (.ref f20) = true)
    (a21 : PySem.W.nsIn K mainGlobals "_law_turns" = some (some (.ref f21)))
    (l21 : K.lookup f21 = some ⟨oc21, od21, .func (PySem.W.fnOf "_law_turns" "_law_turns" (defArgs s__law_turns) (defBody s__law_turns) (defScope s__law_turns) .none kV21 dc21 pm21 an21 cd21 ct21), sl21⟩)
    (c21 : PySem.W.codeIn K cd21 "_law_turns" = true) (k21 : PySem.W.keepIn K (.ref f21) = true)
    (a22 : PySem.W.nsIn K mainGlobals "law" = some (some (.ref f22)))
    (l22 : K.lookup f22 = some ⟨oc22, od22, .func (PySem.W.fnOf "law" "law" (defArgs s_law) (defBody s_law) (defScope s_law) .none kV22 dc22 pm22 an22 cd22 ct22), sl22⟩)
    (c22 : PySem.W.codeIn K cd22 "law" = true) (k22 : PySem.W.keepIn K (.ref f22) = true)
    (z_int : PySem.W.nsIn K mainGlobals "int" = some none)
    (z_len : PySem.W.nsIn K mainGlobals "len" = some none)
    (z_abs : PySem.W.nsIn K mainGlobals "abs" = some none)
    (z_range : PySem.W.nsIn K mainGlobals "range" = some none)
    (z_isinstance : PySem.W.nsIn K mainGlobals "isinstance" = some none)
    (z_repr : PySem.W.nsIn K mainGlobals "repr" = some none)
    (z_str : PySem.W.nsIn K mainGlobals "str" = some none)
    (z_bool : PySem.W.nsIn K mainGlobals "bool" = some none)
    (z_enumerate : PySem.W.nsIn K mainGlobals "enumerate" = some none)
    (z_list : PySem.W.nsIn K mainGlobals "list" = some none)
    (z_tuple : PySem.W.nsIn K mainGlobals "tuple" = some none)
    (z_min : PySem.W.nsIn K mainGlobals "min" = some none)
    {u_MOST_PAIRS : Value} (w_MOST_PAIRS : PySem.W.nsIn K mainGlobals "MOST_PAIRS" = some (some u_MOST_PAIRS)) (r_MOST_PAIRS : RelV (.int 200) u_MOST_PAIRS)
    : ∃ fd : FuncData, (∀ (s : Shared) (v : Value), BindsTo s fd ⟨[v], []⟩ [("script", v)]) ∧ ∀ base : Heap, K.In base → base.Ns mainGlobals mg → FnG l.prog w K mg base CX0 8 fa fd ["script"] (spLaw K) := by
  have e := hfa.symm.trans (PySem.W.mg_of X G a22)
  cases e
  have T : Txt K mg := ⟨PySem.W.mg_none_of X G z_int, PySem.W.mg_none_of X G z_len, PySem.W.mg_none_of X G z_abs, PySem.W.mg_none_of X G z_range, PySem.W.mg_none_of X G z_isinstance, PySem.W.mg_none_of X G z_repr, PySem.W.mg_none_of X G z_str, PySem.W.mg_none_of X G z_bool, PySem.W.mg_none_of X G z_enumerate, PySem.W.mg_none_of X G z_list, PySem.W.mg_none_of X G z_tuple, PySem.W.mg_none_of X G z_min, ⟨_, PySem.W.mg_of X G w_MOST_PAIRS, r_MOST_PAIRS⟩⟩
  have F0 := fun_mk (st := s_is_integer) l0 c0 k0
  have b0 := F0.binds (ps := ["value"]) fun _ _ _ _ _ _ us hl => match us, hl with | [_], _ => rfl
  have F1 := fun_mk (st := s_is_within) l1 c1 k1
  have b1 := F1.binds (ps := ["value", "least", "most"]) fun _ _ _ _ _ _ us hl => match us, hl with | [_, _, _], _ => rfl
  have F2 := fun_mk (st := s_is_signs) l2 c2 k2
  have b2 := F2.binds (ps := ["value"]) fun _ _ _ _ _ _ us hl => match us, hl with | [_], _ => rfl
  have F3 := fun_mk (st := s_check_number) l3 c3 k3
  have b3 := F3.binds (ps := ["value", "least", "most", "part"]) fun _ _ _ _ _ _ us hl => match us, hl with | [_, _, _, _], _ => rfl
  have F4 := fun_mk (st := s_check_pairs) l4 c4 k4
  have b4 := F4.binds (ps := ["pairs"]) fun _ _ _ _ _ _ us hl => match us, hl with | [_], _ => rfl
  have F5 := fun_mk (st := s_is_word) l5 c5 k5
  have b5 := F5.binds (ps := ["value"]) fun _ _ _ _ _ _ us hl => match us, hl with | [_], _ => rfl
  have F6 := fun_mk (st := s_check_word) l6 c6 k6
  have b6 := F6.binds (ps := ["value", "part"]) fun _ _ _ _ _ _ us hl => match us, hl with | [_, _], _ => rfl
  have F7 := fun_mk (st := s_gaps_of) l7 c7 k7
  have b7 := F7.binds (ps := ["word"]) fun _ _ _ _ _ _ us hl => match us, hl with | [_], _ => rfl
  have F8 := fun_mk (st := s_moved_round) l8 c8 k8
  have b8 := F8.binds (ps := ["items", "many"]) fun _ _ _ _ _ _ us hl => match us, hl with | [_, _], _ => rfl
  have F9 := fun_mk (st := s_word_of_gaps) l9 c9 k9
  have b9 := F9.binds (ps := ["gaps"]) fun _ _ _ _ _ _ us hl => match us, hl with | [_], _ => rfl
  have F10 := fun_mk (st := s_period) l10 c10 k10
  have b10 := F10.binds (ps := ["word"]) fun _ _ _ _ _ _ us hl => match us, hl with | [_], _ => rfl
  have F11 := fun_mk (st := s_turns_of) l11 c11 k11
  have b11 := F11.binds (ps := ["word"]) fun _ _ _ _ _ _ us hl => match us, hl with | [_], _ => rfl
  have F12 := fun_mk (st := s_name_of) l12 c12 k12
  have b12 := F12.binds (ps := ["word"]) fun _ _ _ _ _ _ us hl => match us, hl with | [_], _ => rfl
  have F13 := fun_mk (st := s_are_one_tree) l13 c13 k13
  have b13 := F13.binds (ps := ["one", "other"]) fun _ _ _ _ _ _ us hl => match us, hl with | [_, _], _ => rfl
  have F14 := fun_mk (st := s_star) l14 c14 k14
  have b14 := F14.binds (ps := ["pairs"]) fun _ _ _ _ _ _ us hl => match us, hl with | [_], _ => rfl
  have F15 := fun_mk (st := s_line) l15 c15 k15
  have b15 := F15.binds (ps := ["pairs"]) fun _ _ _ _ _ _ us hl => match us, hl with | [_], _ => rfl
  have F16 := fun_mk (st := s__law_badge) l16 c16 k16
  have b16 := F16.binds (ps := ["script"]) fun _ _ _ _ _ _ us hl => match us, hl with | [_], _ => rfl
  have F17 := fun_mk (st := s__law_pin) l17 c17 k17
  have b17 := F17.binds (ps := ["badge", "many"]) fun _ _ _ _ _ _ us hl => match us, hl with | [_, _], _ => rfl
  have F18 := fun_mk (st := s__law_one_of) l18 c18 k18
  have b18 := F18.binds (ps := ["badge", "some"]) fun _ _ _ _ _ _ us hl => match us, hl with | [_, _], _ => rfl
  have F19 := fun_mk (st := s__law_word) l19 c19 k19
  have b19 := F19.binds (ps := ["badge", "pairs"]) fun _ _ _ _ _ _ us hl => match us, hl with | [_, _], _ => rfl
  have F20 := fun_mk (st := s__law_turned) l20 c20 k20
  have b20 := F20.binds (ps := ["word"]) fun _ _ _ _ _ _ us hl => match us, hl with | [_], _ => rfl
  have F21 := fun_mk (st := s__law_turns) l21 c21 k21
  have b21 := F21.binds (ps := ["word"]) fun _ _ _ _ _ _ us hl => match us, hl with | [_], _ => rfl
  refine ⟨PySem.W.fnOf "law" "law" (defArgs s_law) (defBody s_law) (defScope s_law) .none kV22 dc22 pm22 an22 cd22 ct22, fun s v => .of_eq rfl, fun base _ _ => ?_⟩
  have o0 := ok_is_integer (P := l.prog) (w := w) (mg := mg) (base := base) F0 T 
  have c_is_integer : Cl l.prog w K mg base 1 "is_integer" (spIsInt K) := Cl.mk' F0 (PySem.W.mg_of X G a0) b0 o0
  have o1 := ok_is_within (P := l.prog) (w := w) (mg := mg) (base := base) F1 T c_is_integer
  have c_is_within : Cl l.prog w K mg base 2 "is_within" (spWithin K) := Cl.mk' F1 (PySem.W.mg_of X G a1) b1 o1
  have o2 := ok_is_signs (P := l.prog) (w := w) (mg := mg) (base := base) F2 T 
  have c_is_signs : Cl l.prog w K mg base 1 "is_signs" (spSigns K) := Cl.mk' F2 (PySem.W.mg_of X G a2) b2 o2
  have o3 := ok_check_number (P := l.prog) (w := w) (mg := mg) (base := base) F3 T c_is_within
  have c_check_number : Cl l.prog w K mg base 3 "check_number" (spCheck K) := Cl.mk' F3 (PySem.W.mg_of X G a3) b3 o3
  have o4 := ok_check_pairs (P := l.prog) (w := w) (mg := mg) (base := base) F4 T c_check_number
  have c_check_pairs : Cl l.prog w K mg base 4 "check_pairs" (spPairs) := Cl.mk' F4 (PySem.W.mg_of X G a4) b4 o4
  have o5 := ok_is_word (P := l.prog) (w := w) (mg := mg) (base := base) F5 T c_is_signs
  have c_is_word : Cl l.prog w K mg base 2 "is_word" (spWord K) := Cl.mk' F5 (PySem.W.mg_of X G a5) b5 o5
  have o6 := ok_check_word (P := l.prog) (w := w) (mg := mg) (base := base) F6 T c_is_word
  have c_check_word : Cl l.prog w K mg base 3 "check_word" (spCkWord) := Cl.mk' F6 (PySem.W.mg_of X G a6) b6 o6
  have o7 := ok_gaps_of (P := l.prog) (w := w) (mg := mg) (base := base) F7 T 
  have c_gaps_of : Cl l.prog w K mg base 1 "gaps_of" (spGaps) := Cl.mk' F7 (PySem.W.mg_of X G a7) b7 o7
  have o8 := ok_moved_round (P := l.prog) (w := w) (mg := mg) (base := base) F8 T 
  have c_moved_round : Cl l.prog w K mg base 1 "moved_round" (spMoved K) := Cl.mk' F8 (PySem.W.mg_of X G a8) b8 o8
  have o9 := ok_word_of_gaps (P := l.prog) (w := w) (mg := mg) (base := base) F9 T 
  have c_word_of_gaps : Cl l.prog w K mg base 1 "word_of_gaps" (spWog K) := Cl.mk' F9 (PySem.W.mg_of X G a9) b9 o9
  have o10 := ok_period (P := l.prog) (w := w) (mg := mg) (base := base) F10 T c_check_word c_gaps_of c_moved_round
  have c_period : Cl l.prog w K mg base 4 "period" (spPeriod) := Cl.mk' F10 (PySem.W.mg_of X G a10) b10 o10
  have o11 := ok_turns_of (P := l.prog) (w := w) (mg := mg) (base := base) F11 T c_period c_gaps_of c_moved_round c_word_of_gaps
  have c_turns_of : Cl l.prog w K mg base 5 "turns_of" (spTurnsOf) := Cl.mk' F11 (PySem.W.mg_of X G a11) b11 o11
  have o12 := ok_name_of (P := l.prog) (w := w) (mg := mg) (base := base) F12 T c_turns_of
  have c_name_of : Cl l.prog w K mg base 6 "name_of" (spName) := Cl.mk' F12 (PySem.W.mg_of X G a12) b12 o12
  have ck_name_of_word : ClK l.prog w K mg base 6 "name_of" ["word"] (pick [0]) (spName) :=
    ⟨_, _, _, pick [0], o12, PySem.W.mg_of X G a12, F12.kp, fun s ws hl => match ws, hl with | [_], _ => .of_eq rfl, fun zs ws r => pick_vals _ r⟩
  have o13 := ok_are_one_tree (P := l.prog) (w := w) (mg := mg) (base := base) F13 T c_check_word c_turns_of
  have c_are_one_tree : Cl l.prog w K mg base 6 "are_one_tree" (spOneTree) := Cl.mk' F13 (PySem.W.mg_of X G a13) b13 o13
  have ck_are_one_tree_other_one : ClK l.prog w K mg base 6 "are_one_tree" ["other", "one"] (pick [1, 0]) (spOneTree) :=
    ⟨_, _, _, pick [1, 0], o13, PySem.W.mg_of X G a13, F13.kp, fun s ws hl => match ws, hl with | [_, _], _ => .of_eq rfl, fun zs ws r => pick_vals _ r⟩
  have o14 := ok_star (P := l.prog) (w := w) (mg := mg) (base := base) F14 T c_check_pairs
  have c_star : Cl l.prog w K mg base 5 "star" (spStar) := Cl.mk' F14 (PySem.W.mg_of X G a14) b14 o14
  have ck_star_pairs : ClK l.prog w K mg base 5 "star" ["pairs"] (pick [0]) (spStar) :=
    ⟨_, _, _, pick [0], o14, PySem.W.mg_of X G a14, F14.kp, fun s ws hl => match ws, hl with | [_], _ => .of_eq rfl, fun zs ws r => pick_vals _ r⟩
  have o15 := ok_line (P := l.prog) (w := w) (mg := mg) (base := base) F15 T c_check_pairs c_name_of
  have c_line : Cl l.prog w K mg base 7 "line" (spLine) := Cl.mk' F15 (PySem.W.mg_of X G a15) b15 o15
  have ck_line_pairs : ClK l.prog w K mg base 7 "line" ["pairs"] (pick [0]) (spLine) :=
    ⟨_, _, _, pick [0], o15, PySem.W.mg_of X G a15, F15.kp, fun s ws hl => match ws, hl with | [_], _ => .of_eq rfl, fun zs ws r => pick_vals _ r⟩
  have o16 := ok__law_badge (P := l.prog) (w := w) (mg := mg) (base := base) F16 T 
  have c__law_badge : Cl l.prog w K mg base 1 "_law_badge" (spGauge K) := Cl.mk' F16 (PySem.W.mg_of X G a16) b16 o16
  have o17 := ok__law_pin (P := l.prog) (w := w) (mg := mg) (base := base) F17 T 
  have c__law_pin : Cl l.prog w K mg base 1 "_law_pin" (spTick) := Cl.mk' F17 (PySem.W.mg_of X G a17) b17 o17
  have o18 := ok__law_one_of (P := l.prog) (w := w) (mg := mg) (base := base) F18 T c__law_pin
  have c__law_one_of : Cl l.prog w K mg base 2 "_law_one_of" (spDial K) := Cl.mk' F18 (PySem.W.mg_of X G a18) b18 o18
  have o19 := ok__law_word (P := l.prog) (w := w) (mg := mg) (base := base) F19 T c__law_pin c__law_one_of
  have c__law_word : Cl l.prog w K mg base 3 "_law_word" (spLword) := Cl.mk' F19 (PySem.W.mg_of X G a19) b19 o19
  have o20 := ok__law_turned (P := l.prog) (w := w) (mg := mg) (base := base) F20 T 
  have c__law_turned : Cl l.prog w K mg base 1 "_law_turned" (spLturn) := Cl.mk' F20 (PySem.W.mg_of X G a20) b20 o20
  have o21 := ok__law_turns (P := l.prog) (w := w) (mg := mg) (base := base) F21 T c__law_turned
  have c__law_turns : Cl l.prog w K mg base 2 "_law_turns" (spLturns) := Cl.mk' F21 (PySem.W.mg_of X G a21) b21 o21
  exact ok_law (fun_mk (st := s_law) l22 c22 k22) T c__law_badge c__law_pin c__law_one_of c__law_word c__law_turned c__law_turns c_name_of ck_name_of_word c_are_one_tree ck_are_one_tree_other_one c_star ck_star_pairs c_line ck_line_pairs
end EH

open PySem PySem.W PyProof.Rows in
set_option maxHeartbeats 0 in
theorem PySem.Challenge.cw_everyhalf_k14_names_by_own_turning_holds : PySem.Challenge.rw_everyhalf_k14_names_by_own_turning.Holds := by
  w_on; o_law; k_head; (case hw => w_witness2)
  k_fill
  refine EH.walk_ofG (l := PySem.Challenge.rw_everyhalf_k14_names_by_own_turning) (n := 63) (k := 8) (x := "script") (sp := fun K => EH.spLaw K) rfl (by decide) rfl ⟨rfl, by decide, by decide⟩ (fun w h Y => PySem.W.kIn_of Y) ?F EH.law_end
  case F =>
    intro w mg fa h KX G hmg
    refine' EH.all_mk KX G hmg ?a0 ?l0 ?c0 ?k0 ?a1 ?l1 ?c1 ?k1 ?a2 ?l2 ?c2 ?k2 ?a3 ?l3 ?c3 ?k3 ?a4 ?l4 ?c4 ?k4 ?a5 ?l5 ?c5 ?k5 ?a6 ?l6 ?c6 ?k6 ?a7 ?l7 ?c7 ?k7 ?a8 ?l8 ?c8 ?k8 ?a9 ?l9 ?c9 ?k9 ?a10 ?l10 ?c10 ?k10 ?a11 ?l11 ?c11 ?k11 ?a12 ?l12 ?c12 ?k12 ?a13 ?l13 ?c13 ?k13 ?a14 ?l14 ?c14 ?k14 ?a15 ?l15 ?c15 ?k15 ?a16 ?l16 ?c16 ?k16 ?a17 ?l17 ?c17 ?k17 ?a18 ?l18 ?c18 ?k18 ?a19 ?l19 ?c19 ?k19 ?a20 ?l20 ?c20 ?k20 ?a21 ?l21 ?c21 ?k21 ?a22 ?l22 ?c22 ?k22 ?z_int ?z_len ?z_abs ?z_range ?z_isinstance ?z_repr ?z_str ?z_bool ?z_enumerate ?z_list ?z_tuple ?z_min ?w_MOST_PAIRS ?r_MOST_PAIRS
    (case a0 => k_is)
    (case l0 => k_is)
    (case c0 => k_is)
    (case k0 => k_is)
    (case a1 => k_is)
    (case l1 => k_is)
    (case c1 => k_is)
    (case k1 => k_is)
    (case a2 => k_is)
    (case l2 => k_is)
    (case c2 => k_is)
    (case k2 => k_is)
    (case a3 => k_is)
    (case l3 => k_is)
    (case c3 => k_is)
    (case k3 => k_is)
    (case a4 => k_is)
    (case l4 => k_is)
    (case c4 => k_is)
    (case k4 => k_is)
    (case a5 => k_is)
    (case l5 => k_is)
    (case c5 => k_is)
    (case k5 => k_is)
    (case a6 => k_is)
    (case l6 => k_is)
    (case c6 => k_is)
    (case k6 => k_is)
    (case a7 => k_is)
    (case l7 => k_is)
    (case c7 => k_is)
    (case k7 => k_is)
    (case a8 => k_is)
    (case l8 => k_is)
    (case c8 => k_is)
    (case k8 => k_is)
    (case a9 => k_is)
    (case l9 => k_is)
    (case c9 => k_is)
    (case k9 => k_is)
    (case a10 => k_is)
    (case l10 => k_is)
    (case c10 => k_is)
    (case k10 => k_is)
    (case a11 => k_is)
    (case l11 => k_is)
    (case c11 => k_is)
    (case k11 => k_is)
    (case a12 => k_is)
    (case l12 => k_is)
    (case c12 => k_is)
    (case k12 => k_is)
    (case a13 => k_is)
    (case l13 => k_is)
    (case c13 => k_is)
    (case k13 => k_is)
    (case a14 => k_is)
    (case l14 => k_is)
    (case c14 => k_is)
    (case k14 => k_is)
    (case a15 => k_is)
    (case l15 => k_is)
    (case c15 => k_is)
    (case k15 => k_is)
    (case a16 => k_is)
    (case l16 => k_is)
    (case c16 => k_is)
    (case k16 => k_is)
    (case a17 => k_is)
    (case l17 => k_is)
    (case c17 => k_is)
    (case k17 => k_is)
    (case a18 => k_is)
    (case l18 => k_is)
    (case c18 => k_is)
    (case k18 => k_is)
    (case a19 => k_is)
    (case l19 => k_is)
    (case c19 => k_is)
    (case k19 => k_is)
    (case a20 => k_is)
    (case l20 => k_is)
    (case c20 => k_is)
    (case k20 => k_is)
    (case a21 => k_is)
    (case l21 => k_is)
    (case c21 => k_is)
    (case k21 => k_is)
    (case a22 => k_is)
    (case l22 => k_is)
    (case c22 => k_is)
    (case k22 => k_is)
    (case z_int => k_is)
    (case z_len => k_is)
    (case z_abs => k_is)
    (case z_range => k_is)
    (case z_isinstance => k_is)
    (case z_repr => k_is)
    (case z_str => k_is)
    (case z_bool => k_is)
    (case z_enumerate => k_is)
    (case z_list => k_is)
    (case z_tuple => k_is)
    (case z_min => k_is)
    (case w_MOST_PAIRS => k_is)
    (case r_MOST_PAIRS => exact ⟨_, rfl⟩)
#print axioms PySem.Challenge.cw_everyhalf_k14_names_by_own_turning_holds
