import PyProof.Rows.All
import Wide.All
import OpenK.AllK
import Wide.FinOn
import HandS.ForMost
import HandS.More
import HandS.IsInst
import HandS.Wide
import HandS.Flow
import HandS.Steps
import HandS.Gcd
import KE.KMathGC
import PyProof.ReprRoads
import PyProof.ReprBulk
import HandS.Codes
import PyProof.Rows.StrRev
import PyProof.Rows.RegReprOcc
import PyProof.ListStr
import PyProof.TupleOfStr
import PySem.Challenge.RW_everyhalf_k02_integers_and_signs
set_option Elab.async false
set_option linter.all false
set_option maxRecDepth 100000
set_option maxHeartbeats 2000000
/-! EH1: our own words beside the hand layer: repr of data, a def entered with no guard on the stack, calls with keywords alone. -/
namespace EH
open PySem PySem.Spec PyProof.Rows L2

section
variable {X : Cx}
/-- repr(x), x any data without dicts -/
theorem cr_repr (gd : X.A.guards = some []) (hu : X.A.units + 64 < cLine) : CallR X (.builtin "repr") (fun xs H Q => ∃ x d, xs = [x] ∧ Dp X.K H x d ∧ d.showable = true ∧ d.hasDict = false ∧ d.depth ≤ 60 ∧ d.shown.length ≤ sizeLine ∧ Q (.str d.shown) H) := by
  intro pins s σ H xs us Q I r h
  obtain ⟨x, d, rfl, hd, hs, hn, hdp, hz, q⟩ := h
  obtain ⟨u, rfl, rx⟩ := vals1 r
  have viaRef : ∀ a as, Reads s.heap (.ref a) d as → wpAny (model X.prog X.w) X.A (call (.builtin "repr") [.ref a]) (EP X pins σ Q) X.xe s := fun a as rd =>
    repr_of_reads' rd hs (PyData.noDict_hsm hn) gd (by omega) (fun _ _ e => e)
      (fun h' u' tk hk => ⟨.str d.shown, H, I.un (h' := h') (t' := tk) (Un.kept hk) (I.hok.kept hk), ⟨_, rfl⟩, q⟩) hz
  obtain ⟨as, rd⟩ := Dp.reads I d x u hd rx
  cases hd with
  | non =>
    cases rx
    exact PySem.P.repr_of_none ⟨.str _, H, I.tok _, ⟨_, rfl⟩, q⟩
  | bl b =>
    cases rx
    exact PySem.P.repr_of_bool ⟨.str _, H, I.tok _, ⟨_, rfl⟩, by cases b <;> exact q⟩
  | int i =>
    obtain ⟨t, rfl⟩ := rx
    exact PySem.P.repr_of_int (by simpa [PyData.showable] using hs) ⟨.str _, H, I.tok _, ⟨_, rfl⟩, q⟩
  | str z =>
    obtain ⟨t, rfl⟩ := rx
    exact PySem.P.repr_of_str ⟨.str _, H, I.tok _, ⟨_, rfl⟩, q⟩ hz
  | lst h1 h2 =>
    cases rx
    exact viaRef _ as rd
  | tup h1 h2 =>
    cases rx
    exact viaRef _ as rd
end

/-! ### a def that is entered with no guard on the stack -/
structure FnG (P : Program) (w : World) (K : PySem.W.Frag) (mg : Str → Option Value) (base : Heap) (cx : CXT) (k : Nat) (f : Addr) (fd : FuncData) (ps : List Str) (sp : Sp) : Prop where
  len : ∀ vs H Q E, sp vs H Q E → vs.length = ps.length
  run : ∀ (A : Around) (out : List Env) (s : Shared) (H : Hp) (args : Args) (us : List Value) (vs : List V) (Q : VK) (E : XK),
    A.guards = some [] → Room k A → Env0 P w K mg base A out s H → BindsTo s fd args (ps.zip us) → Vals vs us → sp vs H Q E →
    codeAny (model P w) A (.call (.ref f) args) (CR cx out P w H s Q E) s

theorem deeper_guards {A : Around} {e : Env} (h : A.guards = some []) : (A.deeper e).guards = some [] := h

section
variable {P : Program} {w : World} {K : PySem.W.Frag} {mg : Str → Option Value} {base : Heap}
theorem okG {x qual : Str} {st : Stmt} {f : Addr} {fd : FuncData} {N ps : List Str} {k : Nat} {sp : Sp}
    (F : Fun K x qual st f fd) (S : FnScope N ps (defScope st)) (len : ∀ vs H Q E, sp vs H Q E → vs.length = ps.length)
    (hb : ∀ (cdv : Value) (A : Around) (out : List Env) (s : Shared) (H : Hp) (vs : List V) (Q : VK) (E : XK),
      (A.deeper (envOfC qual (defScope st) s.heap.objs.size f cdv)).guards = some [] →
      Room k (A.deeper (envOfC qual (defScope st) s.heap.objs.size f cdv)) → sp vs H Q E →
      ∃ t, PSs (cxOf CX0 P w K mg base N qual (defScope st) f cdv A out s H E).nox (defBody st) t ∧
        t { nx := fun _ H' => Q .non H', rt := Q } (start N vs) H) :
    FnG P w K mg base CX0 (k + 1) f fd ps sp := by
  obtain ⟨oc, od, kV, doc, pm, an, cdv, ct, osl, rfl, lk, hcd⟩ := F.ex
  refine ⟨len, fun A out s H args us vs Q E gd hr e0 bnd rv hsp => ?_⟩
  have lenV := len _ _ _ _ hsp
  have KX : K.In s.heap := e0.mod.kin.keeps fun b o e => (e0.bs b o e).1
  have noLim : s.heap.NoLimit := e0.mod.nolimit.keeps fun b o e => (e0.bs b o e).1
  have kinds : ∀ y ∈ ps.zip us, (defScope st).names.lookup y.1 = some .local ∨
      ((defScope st).names.lookup y.1 = some .cell ∧ ((cellsFrom (s.heap.objs.size + 1) (defScope st).names []).lookup y.1).isSome = true) := by
    rintro ⟨n, v⟩ hy
    refine (S.par n (List.of_mem_zip hy).1).imp id fun q => ⟨q, ?_⟩
    exact PySem.W.cellsFrom_some _ _ _ (.inl q)
  refine codeAny_call_function hr.depth (KX _ _ lk) rfl S.co S.gen rfl (PySem.W.codeRec_of KX hcd) (bnd _ _ _ _ ?_)
  refine wpAny_newFunctionEnv_cells S.kind kinds fun en he s1 ic => ?_
  subst he
  refine ⟨noLim.keeps ic.toInCall.keep, codeAny_func ?_⟩
  obtain ⟨t, ht', hq⟩ := hb cdv A out s H vs Q E (deeper_guards gd) (hr.deeper _) hsp
  have ht := ht'.nox
  have I0 : Inv (cxOf CX0 P w K mg base N qual (defScope st) f cdv A out s H E) [] (start N vs) H s1 := inv_start S hr.hd e0 lenV rv ic
  refine wpAny_mono (ht.run [] s1 (start N vs) H _ I0 hq) (fun fl s' hs => ?_) fun _ _ z => z
  cases fl with
  | ret u =>
    obtain ⟨v, σ', H', J, ru, q⟩ := hs
    exact ⟨v, H', J.os, J.bare, J.base, J.hok, ru, q⟩
  | next =>
    obtain ⟨σ', H', J, q⟩ := hs
    exact ⟨.non, H', J.os, J.bare, J.base, J.hok, rfl, q⟩
  | brk =>
    obtain ⟨_, _, _, q⟩ := hs
    exact q.elim
  | cont =>
    obtain ⟨_, _, _, q⟩ := hs
    exact q.elim
end

/-- the law's call, no guard on the stack -/
theorem law_callG {P : Program} {w : World} {K : PySem.W.Frag} {mg mb : Str → Option Value} {k : Nat} {fa a : Addr} {fd : FuncData} {x : Str} {sp : Sp} {s1 : Shared} {us : List Value} {ns : List Int}
    (KX : K.In s1.heap) (nsG : s1.heap.Ns mainGlobals mg) (nsB : s1.heap.Ns builtinsNs mb) (boot : ∀ x : Str, x ≠ "__name__" → mb x = bootBuiltins x)
    (noLim : s1.heap.NoLimit) (gens0 : s1.gens = #[]) (ha : s1.heap.get? a = some { cls := .type "list", data := .seq us.toArray }) (hi : IntsAre us ns) (hl : ns.length ≤ sizeLine) (hr : Room k callerA)
    (F : ∀ base : Heap, K.In base → base.Ns mainGlobals mg → FnG P w K mg base CX0 k fa fd [x] sp)
    (bnd : ∀ (s : Shared) (u : Value), BindsTo s fd ⟨[u], []⟩ [(x, u)])
    (hsp : ∀ H : Hp, SqL K H a (ns.map V.int) → sp [.ref a] H (fun v _ => v = .bl true) fun _ _ _ => False) :
    codeAny (model P w) callerA (.call (.ref fa) ⟨[.ref a], []⟩)
      (fun r s' => r = .ok (.ret (.bool true)) ∧ OldK s1.heap s'.heap ∧ s'.os = s1.os ∧ AllBare s'.gens) s1 := by
  have rv := vals_ints hi
  have lenU := hi.length
  have body : ∀ H : Hp, Only H → SqL K H a (ns.map V.int) → HOk P w H s1.heap → (∀ b, H b ≠ none → b = a) → (H a ≠ none → K.lookup a = none) →
      codeAny (model P w) callerA (.call (.ref fa) ⟨[.ref a], []⟩)
        (fun r s' => r = .ok (.ret (.bool true)) ∧ OldK s1.heap s'.heap ∧ s'.os = s1.os ∧ AllBare s'.gens) s1 := by
    intro H only hS hok atA notK
    have down : ∀ {b : Addr} {o : Obj}, s1.heap.get? b = some o → H b = none → (hidT s1.heap H).get? b = some o := fun e n => hidT_get e n
    have isA : ∀ {b : Addr}, H b ≠ none → b = a := fun {b} h => atA b h
    have dictFree : ∀ {b : Addr} {o : Obj} {es : Array DictEntry} {ep : Nat}, s1.heap.get? b = some o → o.data = .dict es ep → H b = none := by
      intro b o es ep e d
      cases hb : H b with
      | none => rfl
      | some u =>
        have eb : b = a := isA (by rw [hb]; exact Option.some_ne_none _)
        subst eb
        rw [ha] at e
        cases e
        cases (show Data.seq us.toArray _ = Data.dict es ep from d)
    have nsDown : ∀ {b : Addr} {m : Str → Option Value}, s1.heap.Ns b m → (hidT s1.heap H).Ns b m := by
      rintro b m ⟨o, es, ep, e, d, r⟩
      exact ⟨o, es, ep, down e (dictFree e d), d, r⟩
    have kDown : K.In (hidT s1.heap H) := by
      intro b o e
      refine down (KX b o e) ?_
      cases hb : H b with
      | none => rfl
      | some u =>
        have eb : b = a := isA (by rw [hb]; exact Option.some_ne_none _)
        subst eb
        rw [notK (by rw [hb]; exact Option.some_ne_none _)] at e
        cases e
    have md : Mod K mg (hidT s1.heap H) := by
      refine ⟨kDown, nsDown nsG, ⟨mb, nsDown nsB, boot⟩, ?_⟩
      obtain ⟨mc, h1, h2⟩ := noLim
      exact ⟨mc, nsDown h1, h2⟩
    have e0 : Env0 P w K mg (hidT s1.heap H) callerA [] s1 H :=
      ⟨rfl, md, fun _ _ e => of_hidT e, Nat.le_of_eq (hidT_size _ _), trivial, fun _ hb => absurd hb List.not_mem_nil, hok, .of_eq gens0⟩
    have run := (F _ kDown (nsDown nsG)).run callerA [] s1 H ⟨[.ref a], []⟩ [.ref a] [.ref a] _ _ rfl hr e0 (bnd s1 (.ref a)) (.cons rfl .nil) (hsp H hS)
    refine codeAny_mono run fun r s' h => ?_
    rcases r with e | fl
    · exact h.elim
    · cases fl with
      | next => exact h.elim
      | brk => exact h.elim
      | cont => exact h.elim
      | ret u =>
        obtain ⟨v, H', os, bare, un, hok', ru, q⟩ := h
        cases (show v = .bl true from q)
        cases (show u = Value.bool true from ru)
        refine ⟨rfl, OldK.of_keep fun b o e => ?_, os, bare⟩
        cases hb : H b with
        | none => exact un.keep b o e hb (fun z => absurd z List.not_mem_nil) List.not_mem_nil
        | some u =>
          rcases only b with z | ⟨ob, xs, z⟩
          · rw [hb] at z
            cases z
          · obtain ⟨e1, _⟩ := hok b _ z
            obtain ⟨e2, _⟩ := hok' b _ (un.frzs b ob _ z)
            rw [e] at e1
            cases e1
            exact e2
  cases hk : K.lookup a with
  | some o =>
    have e := KX a o hk
    rw [ha] at e
    cases e
    refine body (fun _ => none) (fun _ => .inl rfl) (.inr ⟨_, us.toArray, _, hk, rfl, rfl, rfl, ?_, ?_⟩) (fun b u => ?_) (fun b z => absurd rfl z) fun z => absurd rfl z
    · rw [List.size_toArray, lenU]
      exact hl
    · simpa using rv
    · intro z
      exact nomatch (show (none : Option HO) = some u from z)
  | none =>
    have hA : ∀ b, (fun b => if b = a then some (HO.frz { cls := .type "list", data := .seq us.toArray } (.lst (ns.map V.int))) else none) b ≠ none → b = a := by
      intro b z
      by_cases hb : b = a
      · exact hb
      · exact absurd (if_neg hb) z
    refine body (fun b => if b = a then some (.frz { cls := .type "list", data := .seq us.toArray } (.lst (ns.map V.int))) else none) (fun b => ?_) (.inl (.inr ⟨{ cls := .type "list", data := .seq us.toArray }, if_pos rfl⟩)) (fun b u z => ?_) hA fun _ => hk
    · by_cases hb : b = a
      · exact .inr ⟨_, _, if_pos hb⟩
      · exact .inl (if_neg hb)
    · have eb : b = a := hA b (by rw [z]; exact Option.some_ne_none _)
      have z' := (if_pos eb).symm.trans z
      cases z'
      subst eb
      refine ⟨ha, ?_, us, _, rv, ha⟩
      rw [List.length_map]
      exact hl

/-- from the promise of the law's def to what k_head leaves -/
theorem walk_ofG {l : PySem.W.OpenLaw} {n k : Nat} {q : Program} {loose : List Str} {XP : (Str → Option Value) → Heap → Prop} {YP : World → Heap → Prop} {d : DefRec} {K : Params → PySem.W.Frag} {sp : PySem.W.Frag → Sp} {x : Str}
    (hn : l.most = some n) (hn2 : n ≤ sizeLine) (hdf : d.params.defaults = []) (hr : Room k callerA) (hY : ∀ (w : World) (h : Heap), YP w h → (K w.params).In h)
    (F : ∀ (w : World) (mg : Str → Option Value) (fa : Addr) (h : Heap), (K w.params).In h → h.Ns mainGlobals mg → mg d.name = some (.ref fa) →
      ∃ fd : FuncData, (∀ (s : Shared) (u : Value), BindsTo s fd ⟨[u], []⟩ [(x, u)]) ∧
        ∀ base : Heap, (K w.params).In base → base.Ns mainGlobals mg → FnG l.prog w (K w.params) mg base CX0 k fa fd [x] (sp (K w.params)))
    (hsp : ∀ (K : PySem.W.Frag) (H : Hp) (a : Addr) (ns : List Int), ns.length ≤ n → SqL K H a (ns.map V.int) → sp K [.ref a] H (fun v _ => v = .bl true) fun _ _ _ => False) :
    PySem.W.WalkO q loose XP YP l.row.toRowW d [] (fun f vs => PySem.call f vs) := by
  refine Att.attach_call hn hdf fun w s0 s1 mg mb fa o pm cd doc a us ns G Y ho hd hcd hmg hobj hints hlen hg => ?_
  have KX := hY w _ Y
  obtain ⟨fd, bnd, hF⟩ := F w mg fa _ KX G.T.g hmg
  exact law_callG KX G.T.g G.T.b G.T.builtins G.T.nolimit hg hobj hints (Nat.le_trans hlen hn2) hr hF bnd fun H hS => hsp _ H a ns hlen hS

/-! ### calls with keywords alone -/
section
variable {X : Cx} {cx : CXT} {k : Nat} {f : Addr} {fd : FuncData} {ps ks : List Str} {sp : Sp} {E : XK} {x : Str} {p pos : Pos} {kws : List Keyword} {tk : TA}
variable {g : List Value → List Value → List Value} {gV : List V → List V → List V}
theorem pe_callK0 (F : FnOk X.prog X.w X.K X.mg X.base cx k f fd ps sp) (hr : Room k X.A) (hg : Gl X x) (hm : X.mg x = some (.ref f)) (hk : PySem.W.keepIn X.K (.ref f) = true)
    (hb : KBinds X.K fd ps ks g gV) (hx : Passes cx X E) (hkw : PK X kws tk)
    (hall : (backToKw pos (keywordEach kws X.env)).all (·.1.isSome) = true := by rfl) (hks : (backToKw pos (keywordEach kws X.env)).filterMap (·.1) = ks := by rfl)
    (hdb : (x == ("__debug__" : Str)) = false := by decide)
    (hpl : ((backTo pos (starEach [] X.env)).any (·.1) || (backToKw pos (keywordEach kws X.env)).any (·.1.isNone)) = false := by rfl) :
    PE X (.Call (.Name x p) [] kws pos) (tCallK sp gV E tNil tk) := by
  refine ⟨fun pins s σ H Q I h => ?_⟩
  refine wpAny_Call_Name_kw (ld_glob I hg hm ?_ hdb)
  refine PySem.W.callWith_KW0 (h₀ := X.base) I.ok.mod.kin hk hall ?_ hpl
  refine thn (hkw.run pos pins s σ H _ I h) fun ws s2 ⟨zs, H2, I2, rz, q2⟩ => ⟨I2.kIn, ?_⟩
  rw [hks]
  exact run_fnk (us := []) (vs := []) F hr hb hx I2 .nil rz q2
end

/-! ### texts -/
section
variable {X : Cx}
/-- s * n -/
theorem op_rep_str : OpR X (binaryOp .Mult) (fun x y H Q => ∃ (z : Str) (n : Nat), x = .str z ∧ y = .int n ∧ n ≤ 1000000 ∧ z.length * n ≤ sizeLine ∧ z.length ≤ 1000000 ∧ Q (.str ⟨((List.replicate n z.cps.toList).flatten).toArray⟩) H) := by
  intro pins s σ H x y v u Q I rx ry h
  obtain ⟨z, n, rfl, rfl, hn, hz, hl, q⟩ := h
  obtain ⟨t, rfl⟩ := rx
  obtain ⟨t', rfl⟩ := ry
  have key : ∀ m : Nat, (List.replicate m z.cps).foldl (· ++ ·) #[] = ((List.replicate m z.cps.toList).flatten).toArray := by
    have gen : ∀ (m : Nat) (acc : Array Nat), (List.replicate m z.cps).foldl (· ++ ·) acc = acc ++ ((List.replicate m z.cps.toList).flatten).toArray := by
      intro m
      induction m with
      | zero => intro acc; simp
      | succ m ih =>
        intro acc
        rw [List.replicate_succ, List.foldl_cons, ih, List.replicate_succ, List.flatten_cons]
        apply Array.ext'
        simp
    intro m
    rw [gen]
    simp
  have done : ∀ w' : Str, w' = ⟨((List.replicate n z.cps.toList).flatten).toArray⟩ → ∀ t2 tk2, EP X pins σ Q (.str w' t2) { s with toks := tk2 } := by
    rintro w' rfl t2 tk2
    exact ⟨.str _, H, I.tok _, ⟨_, rfl⟩, q⟩
  refine PySem.P.mul_str ?_ ?_ ?_ ?_
  · have h1 : ¬ ((n : Int) < -(2 ^ 63 : Int)) := by omega
    have h2 : ¬ ((n : Int) ≥ 2 ^ 63) := by omega
    rw [decide_eq_false h1, decide_eq_false h2]
    rfl
  · intro h1 _ h3
    have hpos : (0 : Int) < n := by omega
    have h4 : ((z.length : Int) + 1) ≤ (2 ^ 63 - 1) / n := by
      rw [Int.le_ediv_iff_mul_le hpos]
      have h5 : ((z.length : Int) + 1) * n ≤ ((z.length : Int) + 1) * 1000000 := Int.mul_le_mul_of_nonneg_left (by omega) (by omega)
      have h6 : (z.length : Int) ≤ 1000000 := by omega
      have h7 : ((z.length : Int) + 1) * 1000000 ≤ 1000001 * 1000000 := Int.mul_le_mul_of_nonneg_right (by omega) (by omega)
      omega
    omega
  · intro h1 h2
    show decide (z.length * ((n : Nat) : Int).toNat > sizeLine) = false
    rw [Int.toNat_natCast]
    exact decide_eq_false (by omega)
  · by_cases h1 : (n : Int) < 1
    · rw [if_pos h1]
      have e0 : n = 0 := by omega
      subst e0
      exact ⟨by decide, done Str.empty rfl _ _⟩
    · rw [if_neg h1]
      by_cases h2 : ((n : Int) == 1 || z.length == 0) = true
      · rw [if_pos h2]
        have e1 : z = (⟨((List.replicate n z.cps.toList).flatten).toArray⟩ : Str) := by
          rcases Bool.or_eq_true_iff.mp h2 with h3 | h3
          · have e2 : n = 1 := by
              have := of_decide_eq_true (p := (n : Int) = 1) (by simpa using h3)
              omega
            subst e2
            obtain ⟨c⟩ := z
            simp
          · obtain ⟨⟨c⟩⟩ := z
            have e3 : c = [] := by
              have h4 : c.length = 0 := of_decide_eq_true (p := c.length = 0) (by simpa [Str.length] using h3)
              exact List.eq_nil_of_length_eq_zero h4
            subst e3
            simp
        exact done z e1 _ _
      · rw [if_neg h2, Int.toNat_natCast, key]
        refine ⟨?_, done _ rfl _ _⟩
        show ((List.replicate n z.cps.toList).flatten).toArray.size ≤ sizeLine
        have e4 : ((List.replicate n z.cps.toList).flatten).length = n * z.cps.toList.length := by simp
        have e5 : z.cps.toList.length = z.length := by simp [Str.length]
        rw [List.size_toArray, e4, e5, Nat.mul_comm]
        exact hz
end

/-! ### a, b, c = x, y, z with plain local names -/
def tPar3 (i j l : Nat) (ta : TA) : TS := fun D σ H => ta σ H fun vs H1 => ∃ v w u, vs = [v, w, u] ∧ D.nx (((σ.set i (some v)).set j (some w)).set l (some u)) H1
section
variable {X : Cx} {pos : Pos}
theorem ps_par3 {i j l : Nat} {x y z : Str} {a b c : Expr} {ta : TA} {px py pz pt : Pos} {kt k2 pt2} (hc : X.calm = true) (hN : X.N.Nodup)
    (hi : X.N[i]? = some x) (hj : X.N[j]? = some y) (hl : X.N[l]? = some z) (hij : i ≠ j) (hil : i ≠ l) (hjl : j ≠ l)
    (hx : X.env.scope.names.lookup x = some .local) (hy : X.env.scope.names.lookup y = some .local) (hz : X.env.scope.names.lookup z = some .local) (ha : PA X [a, b, c] ta)
    (hw : swappedStores [.Tuple [.Name x px, .Name y py, .Name z pz] kt pt] (.Tuple [a, b, c] k2 pt2) X.env = pure (some [x, y, z]))
    (hs : swapsWithSole [.Tuple [.Name x px, .Name y py, .Name z pz] kt pt] (.Tuple [a, b, c] k2 pt2) pos.line X.env = pure false := by rfl) :
    PS X (.Assign [.Tuple [.Name x px, .Name y py, .Name z pz] kt pt] (.Tuple [a, b, c] k2 pt2) pos) (tPar3 i j l ta) := by
  refine ⟨fun pins s σ H D I h => ?_⟩
  rw [exec_Assign_arm]
  refine wpAny_bind (wpAny_standAt ?_)
  rw [hs]
  refine wpAny_bind (wpAny_pure ?_)
  rw [if_neg (by decide)]
  refine wpAny_bind (Tuple_ (thn (ha.run _ pins s σ H _ I h) fun us s1 ⟨vs, H1, I1, r1, q1⟩ => ?_))
  obtain ⟨v, w, t, e1, q1⟩ := q1
  subst e1
  obtain ⟨u1, u2, u3, rfl, rv, rw', rt⟩ : ∃ u1 u2 u3, us = [u1, u2, u3] ∧ RelV v u1 ∧ RelV w u2 ∧ RelV t u3 := by
    cases r1 with
    | cons p q =>
      cases q with
      | cons p' q' =>
        cases q' with
        | cons p'' q'' =>
          cases q''
          exact ⟨_, _, _, rfl, p, p', p''⟩
  refine wpAny_newObj_type ?_ (by show 3 ≤ sizeLine; decide)
  have I2 : Inv X pins σ H1 { s1 with heap := s1.heap.push { cls := .type "tuple", data := .seq [u1, u2, u3].toArray } } :=
    I1.kept (t' := s1.toks) fun b o e => Heap.get?_push_of_some _ e
  rw [hw]
  refine wpAny_bind (wpAny_pure ?_)
  show wpAny (model X.prog X.w) X.A (do
    rule "assign.swapped-stores"
    let items ← unpackItems (.ref s1.heap.objs.size) 3 none
    assignInOrder [fun v => bindName X.env z v, fun v => bindName X.env y v, fun v => bindName X.env x v] items.reverse
    pure Flow.next) _ _ _
  refine wpAny_bind (wpAny_rule (wpAny_bind (unpackItems_tuple (items := #[u1, u2, u3]) (I.ok.hd hc) (IsTup.new s1.heap _) fun h' hx' => ?_)))
  have I3 := I2.kept (h' := h') (t' := s1.toks) fun b o e => hx' b o (Nat.ne_of_lt (Heap.lt_size e)) e
  show wpAny _ _ (assignInOrder [fun v => bindName X.env z v, fun v => bindName X.env y v, fun v => bindName X.env x v] [u3, u2, u1] >>= fun _ => pure Flow.next) _ _ _
  refine wpAny_bind (assignInOrder_cons (wpAny_bindName (store_ok I3 hN hl (.inl hz) rt (fun s2 I4 => ?_) (.inr hz))))
  refine assignInOrder_cons (wpAny_bindName (store_ok I4 hN hj (.inl hy) rw' (fun s3 I5 => ?_) (.inr hy)))
  refine assignInOrder_cons (wpAny_bindName (store_ok I5 hN hi (.inl hx) rv (fun s4 I6 => assignInOrder_nil (wpAny_pure ?_)) (.inr hx)))
  have e : (((σ.set l (some t)).set j (some w)).set i (some v)) = (((σ.set i (some v)).set j (some w)).set l (some t)) := by
    rw [List.set_comm _ _ (Ne.symm hjl), List.set_comm _ _ (Ne.symm hil), List.set_comm _ _ (Ne.symm hij)]
  rw [e] at I6
  exact ⟨_, H1, I6, q1⟩
end

/-! ### a def that may be called by its name -/
structure Cl (P : Program) (w : World) (K : PySem.W.Frag) (mg : Str → Option Value) (base : Heap) (k : Nat) (x : Str) (sp : Sp) : Prop where
  ex : ∃ (f : Addr) (fd : FuncData) (ps : List Str), FnOk P w K mg base CX0 k f fd ps sp ∧ mg x = some (.ref f) ∧ PySem.W.keepIn K (.ref f) = true ∧ Binds K fd ps []
/-- .. with keywords alone: π brings the keywords' values into the parameters' order -/
def tF (sp : Sp) (t : TA) : TE := fun σ H Q => t σ H fun vs H1 => sp vs H1 Q E0
def tF0 (sp : Sp) : TE := fun _ H Q => sp [] H Q E0
def tFk (n : Nat) (π : List V → List V) (sp : Sp) (t : TA) : TE := fun σ H Q => t σ H fun zs H1 => zs.length = n ∧ sp (π zs) H1 Q E0
structure ClK (P : Program) (w : World) (K : PySem.W.Frag) (mg : Str → Option Value) (base : Heap) (k : Nat) (x : Str) (ks : List Str) (π : List V → List V) (sp : Sp) : Prop where
  ex : ∃ (f : Addr) (fd : FuncData) (ps : List Str) (g : List Value → List Value), FnOk P w K mg base CX0 k f fd ps sp ∧ mg x = some (.ref f) ∧ PySem.W.keepIn K (.ref f) = true ∧
    (∀ (s : Shared) (ws : List Value), ws.length = ks.length → BindsTo s fd ⟨[], ks.zip ws⟩ (ps.zip (g ws))) ∧ ∀ (zs : List V) (ws : List Value), Vals zs ws → Vals (π zs) (g ws)
section
variable {X : Cx} {k j : Nat} {x : Str} {sp : Sp} {p pos : Pos} {e : Expr} {es : List Expr} {t tk : TA} {ks : List Str} {π : List V → List V} {kws : List Keyword}
theorem pe_f (c : Cl X.prog X.w X.K X.mg X.base k x sp) (hr : Room j X.A) (hk : k ≤ j) (hg : Gl X x) (ha : PA X (e :: es) t) (hdb : (x == ("__debug__" : Str)) = false := by decide)
    (he : starEach (e :: es) X.env = (false, eval e X.env) :: starEach es X.env := by rfl) (hpl : (backTo pos (starEach es X.env)).any (·.1) = false := by rfl) :
    PE X (.Call (.Name x p) (e :: es) [] pos) (tF sp t) := by
  obtain ⟨f, fd, ps, F, hm, kp, b⟩ := c.ex
  have h := pe_call (p := p) (pos := pos) F (hr.mono hk) hg hm kp b .nil pass0 ha hdb he hpl
  refine ⟨fun pins s σ H Q I q => h.run pins s σ H Q I ?_⟩
  show t σ H fun vs H1 => sp (vs ++ []) H1 Q E0
  simp only [List.append_nil]
  exact q
theorem pe_f0 (c : Cl X.prog X.w X.K X.mg X.base k x sp) (hr : Room j X.A) (hk : k ≤ j) (hg : Gl X x) (hdb : (x == ("__debug__" : Str)) = false := by decide) :
    PE X (.Call (.Name x p) [] [] pos) (tF0 sp) := by
  obtain ⟨f, fd, ps, F, hm, kp, b⟩ := c.ex
  have h := pe_call0 (p := p) (pos := pos) F (hr.mono hk) hg hm kp b .nil pass0 hdb
  exact ⟨fun pins s σ H Q I q => h.run pins s σ H Q I q⟩
theorem pe_fk (c : ClK X.prog X.w X.K X.mg X.base k x ks π sp) (hr : Room j X.A) (hk : k ≤ j) (hg : Gl X x) (hkw : PK X kws tk)
    (hall : (backToKw pos (keywordEach kws X.env)).all (·.1.isSome) = true := by rfl) (hks : (backToKw pos (keywordEach kws X.env)).filterMap (·.1) = ks := by rfl)
    (hdb : (x == ("__debug__" : Str)) = false := by decide)
    (hpl : ((backTo pos (starEach [] X.env)).any (·.1) || (backToKw pos (keywordEach kws X.env)).any (·.1.isNone)) = false := by rfl) :
    PE X (.Call (.Name x p) [] kws pos) (tFk ks.length π sp tk) := by
  obtain ⟨f, fd, ps, g, F, hm, kp, b, rel⟩ := c.ex
  refine ⟨fun pins s σ H Q I h => ?_⟩
  refine wpAny_Call_Name_kw (ld_glob I hg hm ?_ hdb)
  refine PySem.W.callWith_KW0 (h₀ := X.base) I.ok.mod.kin kp hall ?_ hpl
  refine thn (hkw.run pos pins s σ H _ I h) fun ws s2 ⟨zs, H2, I2, rz, hlen, q2⟩ => ⟨I2.kIn, ?_⟩
  rw [hks]
  have r2 := rel zs ws rz
  refine wpAny_call (codeAny_mono (F.run X.A X.stack s2 H2 ⟨[], ks.zip ws⟩ (g ws) (π zs) Q E0 (hr.mono hk) I2.env0 (b s2 ws (by rw [← rz.length]; exact hlen)) r2 q2) fun r s' hq => ?_)
  cases r with
  | error e => exact hq.elim
  | ok fl =>
    cases fl with
    | ret u => exact I2.after hq
    | next => exact hq.elim
    | brk => exact hq.elim
    | cont => exact hq.elim
end
section
variable {P : Program} {w : World} {K : PySem.W.Frag} {mg : Str → Option Value} {base : Heap}
theorem Cl.mk' {k : Nat} {x qual : Str} {st : Stmt} {f : Addr} {fd : FuncData} {ps : List Str} {sp : Sp} (F : Fun K x qual st f fd) (m : mg x = some (.ref f)) (b : Binds K fd ps []) (ok : FnOk P w K mg base CX0 k f fd ps sp) : Cl P w K mg base k x sp :=
  ⟨f, fd, ps, ok, m, F.kp, b⟩
theorem Cl.mono {j k : Nat} {x : Str} {sp : Sp} (c : Cl P w K mg base j x sp) (h : j ≤ k) : Cl P w K mg base k x sp := by
  obtain ⟨f, fd, ps, F, m, kp, b⟩ := c.ex
  exact ⟨f, fd, ps, F.mono h, m, kp, b⟩
theorem Cl.imp {k : Nat} {x : Str} {sp sp' : Sp} (c : Cl P w K mg base k x sp) (h : ∀ vs H Q E, sp' vs H Q E → sp vs H Q E) : Cl P w K mg base k x sp' := by
  obtain ⟨f, fd, ps, F, m, kp, b⟩ := c.ex
  exact ⟨f, fd, ps, F.imp h, m, kp, b⟩
/-- a module's constant -/
structure Cst (mg : Str → Option Value) (x : Str) (v : V) : Prop where
  ex : ∃ u, mg x = some u ∧ RelV v u
theorem pe_cst {X : Cx} {x : Str} {v : V} {pos : Pos} (c : Cst X.mg x v) (hg : Gl X x) (hd : (x == ("__debug__" : Str)) = false := by decide) : PE X (.Name x pos) (tC v) := by
  obtain ⟨u, hm, r⟩ := c.ex
  exact pe_glob hg hm r hd
end

/-! ### keywords' values in the parameters' order -/
def pick (is : List Nat) {α : Type} (xs : List α) : List α := is.filterMap fun i => xs[i]?
theorem pick_vals : ∀ (is : List Nat) {zs : List V} {ws : List Value}, Vals zs ws → Vals (pick is zs) (pick is ws)
  | [], _, _, _ => .nil
  | i :: is, zs, ws, r => by
    have ih := pick_vals is r
    unfold pick at ih ⊢
    cases e : zs[i]? with
    | none =>
      have e2 := r.none_of e
      rw [List.filterMap_cons_none e, List.filterMap_cons_none e2]
      exact ih
    | some z =>
      obtain ⟨u, e2, ru⟩ := r.get e
      rw [List.filterMap_cons_some e, List.filterMap_cons_some e2]
      exact .cons ru ih

/-! ### numbers of the drawing object -/
theorem tick_b1 {x b C : Int} (h0 : 0 ≤ x) (h1 : x < 2147483648) (b0 : 0 ≤ b) (b1 : b ≤ 1000000) (c0 : 0 ≤ C) (c1 : C ≤ 1000000) : 0 ≤ x * (2 * b + C) ∧ x * (2 * b + C) ≤ 2147483648 * 3000000 := by
  refine ⟨Int.mul_nonneg h0 (by omega), ?_⟩
  exact Int.mul_le_mul (by omega) (by omega) (by omega) (by omega)
theorem tick_b2 {D b : Int} (d0 : 0 ≤ D) (d1 : D ≤ 1000000) (b0 : 0 ≤ b) (b1 : b ≤ 1000000) : 0 ≤ D * b ∧ D * b ≤ 1000000 * 1000000 ∧ 0 ≤ D * b * b ∧ D * b * b ≤ 1000000 * 1000000 * 1000000 := by
  have h1 : 0 ≤ D * b := Int.mul_nonneg d0 b0
  have h2 : D * b ≤ 1000000 * 1000000 := Int.mul_le_mul d1 b1 b0 (by decide)
  exact ⟨h1, h2, Int.mul_nonneg h1 b0, Int.mul_le_mul h2 b1 b0 (by decide)⟩

/-! ### data of ints -/
theorem dp_ints {K : PySem.W.Frag} {H : Hp} : ∀ cs : List Int, DpAll K H (cs.map V.int) (cs.map PyData.int)
  | [] => .nil
  | c :: cs => .cons (.int c) (dp_ints cs)
theorem sh_ints (cs : List Int) : SeqAt.shaped (.list (cs.map .int)) = true := by
  have h : ∀ cs : List Int, PyData.canLayAll0 (cs.map PyData.int) = true ∧ PyData.depthAll (cs.map PyData.int) = 0 := by
    intro cs
    induction cs with
    | nil => exact ⟨rfl, rfl⟩
    | cons c cs ih => simp only [List.map_cons, PyData.canLayAll0, PyData.canLay0, PyData.depthAll, PyData.depth, ih.1, ih.2, Bool.and_self, Nat.max_self, and_self]
  unfold SeqAt.shaped
  simp only [PyData.canLay0, PyData.depth, (h cs).1, (h cs).2]
  rfl

/-! ### isinstance of a value and a built-in class -/
theorem tyb_wide {K : PySem.W.Frag} {H : Hp} {v : V} {T : String} (h : TyB K H v T) : TyX K H v (.type T) := by
  cases h with
  | non => exact .base .non
  | bl b => exact .base (.bl b)
  | int i => exact .base (.int i)
  | str x => exact .base (.str x)
  | byt b => exact .byt b
  | lst h =>
    rcases h with (h | ⟨o, h⟩) | ⟨o, its, n, h1, h2, _⟩
    · exact .base (.lst h)
    · exact .base (.frz h)
    · exact .kList h1 h2
  | tup h =>
    rcases h with (h | ⟨o, h⟩) | ⟨o, its, n, h1, h2, _⟩
    · exact .base (.tup h)
    · exact .fTuple h
    · exact .kTuple h1 h2
  | dK h => exact .base (.dK h)
def kinds : List String := ["NoneType", "bool", "int", "str", "bytes", "list", "tuple", "dict"]
theorem tyb_kind {K : PySem.W.Frag} {H : Hp} {v : V} {T : String} (h : TyB K H v T) : T ∈ kinds := by
  cases h <;> decide
/-- is what is of the type T also of the type n -/
def isSub (T n : String) : Bool := T == n || (T == "bool" && n == "int")
theorem kit_sub : ∀ T ∈ kinds, ∀ n ∈ kinds, kitB T n = some (isSub T n) := by decide +kernel
theorem call_is {X : Cx} : CallR X (.builtin "isinstance") (fun xs H Q => ∃ v T n, xs = [v, .ty n] ∧ TyB X.K H v T ∧ n ∈ kinds ∧ Q (.bl (isSub T n)) H) := by
  intro pins s σ H xs us Q I r h
  obtain ⟨v, T, n, rfl, ht, hn, q⟩ := h
  exact call_isi pins s σ H _ us Q I r ⟨v, .ty n, .type T, .type n, isSub T n, rfl, .ty n, tyb_wide ht, kit_ty (kit_sub T (tyb_kind ht) n hn), q⟩

/-! ### binomials -/
def chs : Nat → Nat → Nat
  | _, 0 => 1
  | 0, _ + 1 => 0
  | n + 1, k + 1 => chs n k + chs n (k + 1)
theorem chs_zero (n : Nat) : chs n 0 = 1 := by cases n <;> rfl
theorem chs_big : ∀ (n k : Nat), n < k → chs n k = 0
  | 0, 0, h => absurd h (Nat.lt_irrefl _)
  | 0, k + 1, _ => rfl
  | n + 1, 0, h => absurd h (Nat.not_lt_zero _)
  | n + 1, k + 1, h => by
    show chs n k + chs n (k + 1) = 0
    rw [chs_big n k (by omega), chs_big n (k + 1) (by omega)]
theorem chs_step : ∀ (n k : Nat), k ≤ n → chs n (k + 1) * (k + 1) = chs n k * (n - k)
  | 0, 0, _ => rfl
  | 0, k + 1, h => absurd h (by omega)
  | n + 1, 0, _ => by
    show (chs n 0 + chs n (0 + 1)) * (0 + 1) = 1 * (n + 1 - 0)
    have h := chs_step n 0 (Nat.zero_le _)
    rw [chs_zero] at h ⊢
    omega
  | n + 1, k + 1, h => by
    show (chs n (k + 1) + chs n (k + 1 + 1)) * (k + 1 + 1) = (chs n k + chs n (k + 1)) * (n + 1 - (k + 1))
    have h1 := chs_step n k (by omega)
    have e : n + 1 - (k + 1) = n - k := by omega
    rw [e, Nat.add_mul, Nat.add_mul, ← h1]
    by_cases hk : k + 1 ≤ n
    · have h2 := chs_step n (k + 1) hk
      rw [h2, ← Nat.mul_add, ← Nat.mul_add]
      congr 1
      omega
    · have en : n = k := by omega
      subst en
      rw [chs_big n (n + 1) (by omega), chs_big n (n + 1 + 1) (by omega)]
      simp
def fct : Nat → Nat
  | 0 => 1
  | n + 1 => fct n * (n + 1)
theorem fct_pos : ∀ n, 0 < fct n
  | 0 => Nat.one_pos
  | n + 1 => Nat.mul_pos (fct_pos n) (Nat.succ_pos _)
/-- n (n - 1) .. (n - k + 1) -/
def fll (n : Nat) : Nat → Nat
  | 0 => 1
  | k + 1 => fll n k * (n - k)
theorem chs_fll (n : Nat) : ∀ k, k ≤ n → chs n k * fct k = fll n k
  | 0, _ => by rw [chs_zero]; rfl
  | k + 1, h => by
    have ih := chs_fll n k (by omega)
    have hs := chs_step n k (by omega)
    show chs n (k + 1) * (fct k * (k + 1)) = fll n k * (n - k)
    rw [← ih, Nat.mul_right_comm (chs n k), ← hs, Nat.mul_comm (fct k), ← Nat.mul_assoc]
theorem fll_self : ∀ n, fll n n = fct n := by
  intro n
  have h := chs_fll n n (Nat.le_refl _)
  have e : chs n n = 1 := by
    induction n with
    | zero => rfl
    | succ n ih =>
      show chs n n + chs n (n + 1) = 1
      rw [chs_big n (n + 1) (by omega), ih (chs_fll n n (Nat.le_refl _))]
  rw [e, Nat.one_mul] at h
  exact h.symm
theorem chs_sym : ∀ (n k : Nat), k ≤ n → chs n (n - k) = chs n k := by
  -- both times k! (n - k)! are n!
  have key : ∀ (n k : Nat), k ≤ n → chs n k * fct k * fct (n - k) = fct n := by
    intro n
    induction n with
    | zero =>
      intro k h
      have e : k = 0 := by omega
      subst e
      rfl
    | succ n ih =>
      intro k h
      cases k with
      | zero => rw [chs_zero]; show 1 * 1 * fct (n + 1) = _; omega
      | succ k =>
        have i1 := ih k (by omega)
        have e1 : n + 1 - (k + 1) = n - k := by omega
        show (chs n k + chs n (k + 1)) * (fct k * (k + 1)) * fct (n + 1 - (k + 1)) = fct n * (n + 1)
        rw [e1]
        by_cases hk : k + 1 ≤ n
        · have i2 := ih (k + 1) hk
          have e2 : fct (n - k) = fct (n - (k + 1)) * (n - k) := by
            have : n - k = (n - (k + 1)) + 1 := by omega
            rw [this]
            rfl
          have a1 : chs n k * (fct k * (k + 1)) * fct (n - k) = fct n * (k + 1) := by
            rw [← i1]
            simp only [Nat.mul_assoc, Nat.mul_comm, Nat.mul_left_comm]
          have a2 : chs n (k + 1) * (fct k * (k + 1)) * fct (n - k) = fct n * (n - k) := by
            rw [← i2, e2]
            show _ = chs n (k + 1) * (fct k * (k + 1)) * fct (n - (k + 1)) * (n - k)
            simp only [Nat.mul_assoc]
          rw [Nat.add_mul, Nat.add_mul, a1, a2, ← Nat.mul_add]
          congr 1
          omega
        · have en : n = k := by omega
          subst en
          rw [chs_big n (n + 1) (by omega), Nat.add_zero]
          have e3 : n - n = 0 := Nat.sub_self n
          rw [e3] at i1 ⊢
          calc chs n n * (fct n * (n + 1)) * fct 0 = (chs n n * fct n * fct 0) * (n + 1) := by
                simp only [Nat.mul_assoc, Nat.mul_comm, Nat.mul_left_comm]
            _ = fct n * (n + 1) := by rw [i1]
  intro n k h
  have a := key n k h
  have b := key n (n - k) (by omega)
  have e : n - (n - k) = k := by omega
  rw [e] at b
  have hp : 0 < fct k * fct (n - k) := Nat.mul_pos (fct_pos _) (fct_pos _)
  have c : chs n (n - k) * (fct k * fct (n - k)) = chs n k * (fct k * fct (n - k)) := by
    rw [← Nat.mul_assoc, ← Nat.mul_assoc, a]
    rw [Nat.mul_right_comm] at b
    exact b
  exact Nat.eq_of_mul_eq_mul_right hp c
theorem fprod (n : Nat) : ∀ k, k ≤ n → Builtin.Math.fallingProduct (n : Int) k = (fll n k : Nat)
  | 0, _ => rfl
  | k + 1, h => by
    have ih := fprod n k (by omega)
    unfold Builtin.Math.fallingProduct at ih ⊢
    rw [List.range_succ, List.foldl_append, ih]
    show ((fll n k : Nat) : Int) * ((n : Int) - (k : Int)) = ((fll n k * (n - k) : Nat) : Int)
    rw [Int.natCast_mul, Int.natCast_sub (by omega)]
theorem chs_div {n k : Nat} (h : k ≤ n) : fll n k / fct k = chs n k := by
  rw [← chs_fll n k h, Nat.mul_div_cancel _ (fct_pos k)]
theorem mcComb_chs (n k : Nat) : PySem.W.mcComb (n : Int) (k : Int) = (chs n k : Nat) := by
  by_cases h : k ≤ n
  · have em : ∃ m : Nat, min (k : Int) ((n : Int) - k) = (m : Int) ∧ m ≤ n ∧ chs n m = chs n k := by
      by_cases h2 : k ≤ n - k
      · exact ⟨k, by omega, h, rfl⟩
      · exact ⟨n - k, by omega, by omega, chs_sym n k h⟩
    obtain ⟨m, e1, e2, e3⟩ := em
    rw [PySem.W.mcComb_at (by omega) (by omega) e1, Int.toNat_natCast, fprod n m e2, fprod m m (Nat.le_refl _), fll_self, ← e3, ← chs_div e2, Int.natCast_ediv]
  · rw [PySem.W.mcComb_above (by omega), chs_big n k (by omega)]
    rfl
theorem cr_comb {X : Cx} : CallR X (.builtin "math.comb") (fun xs H Q => ∃ n k : Nat, xs = [.int n, .int k] ∧ n ≤ 18000 ∧ Q (.int (chs n k : Nat)) H) := by
  intro pins s σ H xs us Q I r h
  obtain ⟨n, k, rfl, hn, q⟩ := h
  obtain ⟨u1, u2, rfl, ⟨t, rfl⟩, ⟨t', rfl⟩⟩ := vals2 r
  refine PySem.W.mc_comb_v (by omega) (by omega) (by omega) (.inr (by omega)) (mcComb_chs n k) ?_
  exact ⟨.int _, H, I.tok _, ⟨_, rfl⟩, q⟩

/-! ### heaps -/
theorem same_put {H0 H : Hp} {D : Addr} {o : HO} (s : Same H0 H) (h : H0 D = none) : Same H0 (upd H D o) := fun b x e => by
  rw [upd_ne (ne_of_none e h)]
  exact s _ _ e

/-! ### data that may be shown and compared -/
mutual
def okD : PyData → Bool
  | .int i => decide (i.natAbs.log2 < 900)
  | .str x => x.cps.toList.all fun c => decide (c < 1114112)
  | .list xs | .tuple xs => okDs xs
  | .dict _ => false
  | .none | .bool _ => true
def okDs : List PyData → Bool
  | [] => true
  | x :: xs => okD x && okDs xs
end
mutual
theorem okD_all : ∀ d : PyData, okD d = true → d.showable = true ∧ d.hasDict = false ∧ d.leavesShort 1000 = true ∧ d.canLay0 = true
  | .none, _ => ⟨by simp only [PyData.showable], by simp only [PyData.hasDict], by simp only [PyData.leavesShort], by simp only [PyData.canLay0]⟩
  | .bool _, _ => ⟨by simp only [PyData.showable], by simp only [PyData.hasDict], by simp only [PyData.leavesShort], by simp only [PyData.canLay0]⟩
  | .int i, h => by
    have h1 : i.natAbs.log2 < 900 := by simpa only [okD, decide_eq_true_eq] using h
    refine ⟨by simp only [PyData.showable, decide_eq_true_eq]; omega, by simp only [PyData.hasDict], ?_, by simp only [PyData.canLay0]⟩
    have h2 := int_text_length_le (a := i) (k := 900) (by decide) h1
    have h3 : (PyData.shown (.int i)).length ≤ 1000 := by
      simp only [PyData.shown]
      show (Str.ofString (toString i)).length ≤ 1000
      have h4 := PySem.ofString_length (toString i)
      omega
    simp only [PyData.leavesShort]
    exact decide_eq_true h3
  | .str x, h => by
    have h1 : ∀ c ∈ x.cps.toList, c < 1114112 := by simpa only [okD, List.all_eq_true, decide_eq_true_eq] using h
    refine ⟨by simp only [PyData.showable], by simp only [PyData.hasDict], ?_, ?_⟩
    · simp only [PyData.leavesShort, List.all_eq_true, decide_eq_true_eq]
      intro c hc
      exact Nat.lt_of_lt_of_le (h1 c hc) (by decide)
    · simp only [PyData.canLay0, PyData.strOk]
      rw [← Array.all_toList, List.all_eq_true]
      intro c hc
      exact decide_eq_true (h1 c hc)
  | .list xs, h => by
    obtain ⟨a, b, c, d⟩ := okDs_all xs (by simpa only [okD] using h)
    exact ⟨by simpa only [PyData.showable] using a, by simpa only [PyData.hasDict] using b, by simpa only [PyData.leavesShort] using c, by simpa only [PyData.canLay0] using d⟩
  | .tuple xs, h => by
    obtain ⟨a, b, c, d⟩ := okDs_all xs (by simpa only [okD] using h)
    exact ⟨by simpa only [PyData.showable] using a, by simpa only [PyData.hasDict] using b, by simpa only [PyData.leavesShort] using c, by simpa only [PyData.canLay0] using d⟩
  | .dict _, h => by simp only [okD, Bool.false_eq_true] at h
theorem okDs_all : ∀ xs : List PyData, okDs xs = true → PyData.showableAll xs = true ∧ PyData.hasDictAll xs = false ∧ PyData.leavesShortAll 1000 xs = true ∧ PyData.canLayAll0 xs = true
  | [], _ => ⟨by simp only [PyData.showableAll], by simp only [PyData.hasDictAll], by simp only [PyData.leavesShortAll], by simp only [PyData.canLayAll0]⟩
  | x :: xs, h => by
    have h1 : okD x = true ∧ okDs xs = true := by simpa only [okDs, Bool.and_eq_true] using h
    obtain ⟨a, b, c, d⟩ := okD_all x h1.1
    obtain ⟨a', b', c', d'⟩ := okDs_all xs h1.2
    exact ⟨by simp only [PyData.showableAll, a, a', Bool.and_self], by simp only [PyData.hasDictAll, b, b', Bool.or_self], by simp only [PyData.leavesShortAll, c, c', Bool.and_self], by simp only [PyData.canLayAll0, d, d', Bool.and_self]⟩
end
/-- x is the data d, small enough -/
structure GD (K : PySem.W.Frag) (H : Hp) (x : V) (d : PyData) : Prop where
  at_ : Dp K H x d
  ok : okD d = true
  bk : d.bulk ≤ 10000
  dp : d.depth ≤ 60
theorem GD.shaped {K : PySem.W.Frag} {H : Hp} {x : V} {d : PyData} (h : GD K H x d) : SeqAt.shaped d = true := by
  unfold SeqAt.shaped
  rw [(okD_all d h.ok).2.2.2, decide_eq_true (Nat.le_trans h.dp (by decide))]
  rfl
theorem GD.short {K : PySem.W.Frag} {H : Hp} {x : V} {d : PyData} (h : GD K H x d) : d.shown.length ≤ sizeLine := by
  have e := PyData.shown_le_bulk 1000 (by decide) d (okD_all d h.ok).2.2.1
  have b := h.bk
  rw [sizeLine_eq]
  have m : (1000 + 2) * d.bulk ≤ (1000 + 2) * 10000 := Nat.mul_le_mul_left _ b
  omega
section
variable {X : Cx}
theorem cr_show (gd : X.A.guards = some []) (hu : X.A.units + 64 < cLine) : CallR X (.builtin "repr") (fun xs H Q => ∃ x d, xs = [x] ∧ GD X.K H x d ∧ Q (.str d.shown) H) := by
  intro pins s σ H xs us Q I r h
  obtain ⟨x, d, rfl, g, q⟩ := h
  obtain ⟨a, b, _, _⟩ := okD_all d g.ok
  exact cr_repr gd hu pins s σ H _ us Q I r ⟨x, d, rfl, g.at_, a, b, g.dp, g.short, q⟩
theorem op_eqG (hu : X.A.units + 64 < cLine) : OpR X (compareOp .Eq) (fun x y H Q => ∃ d e, GD X.K H x d ∧ GD X.K H y e ∧ Q (.bl (PyData.eqv d e)) H) := by
  intro pins s σ H x y v u Q I rx ry h
  obtain ⟨d, e, hd, he, q⟩ := h
  exact op_eqD hu pins s σ H x y v u Q I rx ry ⟨d, e, hd.at_, he.at_, hd.shaped, he.shaped, q⟩
theorem op_neG (hu : X.A.units + 64 < cLine) : OpR X (compareOp .NotEq) (fun x y H Q => ∃ d e, GD X.K H x d ∧ GD X.K H y e ∧ Q (.bl (!PyData.eqv d e)) H) := by
  intro pins s σ H x y v u Q I rx ry h
  obtain ⟨d, e, hd, he, q⟩ := h
  exact op_neD hu pins s σ H x y v u Q I rx ry ⟨d, e, hd.at_, he.at_, hd.shaped, he.shaped, q⟩
end
theorem GD.of {K : PySem.W.Frag} {H : Hp} {a : Addr} {xs : List V} {ds : List PyData} (h : SqL K H a xs) (p : DpAll K H xs ds) (o : okDs ds = true) (b : PyData.bulkAll ds ≤ 10000) (n : PyData.depthAll ds ≤ 59) : GD K H (.ref a) (.list ds) :=
  ⟨.lst h p, by simpa only [okD] using o, by simpa only [PyData.bulk] using b, by simp only [PyData.depth]; omega⟩
theorem GD.ofT {K : PySem.W.Frag} {H : Hp} {a : Addr} {xs : List V} {ds : List PyData} (h : SqT K H a xs) (p : DpAll K H xs ds) (o : okDs ds = true) (b : PyData.bulkAll ds ≤ 10000) (n : PyData.depthAll ds ≤ 59) : GD K H (.ref a) (.tuple ds) :=
  ⟨.tup h p, by simpa only [okD] using o, by simpa only [PyData.bulk] using b, by simp only [PyData.depth]; omega⟩
end EH

namespace EH
open PySem PySem.Spec PyProof.Rows L2
theorem pow_ok {m : Int} (h0 : 0 < m) (h1 : m ≤ 1000000) : m.natAbs < 2 ^ 2000 :=
  Nat.lt_of_lt_of_le (show m.natAbs < 2 ^ 20 by omega) (Nat.pow_le_pow_right (by decide) (by decide))
theorem log2_of_lt {n k : Nat} (hk : 0 < k) (h : n < 2 ^ k) : n.log2 < k := by
  by_cases h0 : n = 0
  · subst h0
    simpa using hk
  · exact (Nat.log2_lt h0).mpr h
end EH

set_option Elab.async false
set_option linter.all false
set_option maxRecDepth 100000
set_option maxHeartbeats 2000000
/-! EH2: texts as rows of signs: our rules beside the hand layer's. -/
namespace EH
open PySem PySem.Spec PyProof.Rows L2
open SX (S S_len S_cat S_inj join_S S_tl)
/-- x[lo:hi], of signs -/
def cutN (a : List Nat) (lo hi : Option Int) : List Nat := (a.drop (HT.sIx a.length 0 lo)).take (HT.sIx a.length a.length hi - HT.sIx a.length 0 lo)
theorem cutS_S (a : List Nat) (lo hi : Option Int) : cutS (S a) lo hi = S (cutN a lo hi) := by
  unfold cutS cutN
  rw [S_len]
theorem cutN_all (a : List Nat) : cutN a none none = a := by
  unfold cutN
  rw [HT.sIx_none, HT.sIx_none, Nat.sub_zero, List.drop_zero, List.take_length]
theorem cutN_to (a : List Nat) (k : Nat) : cutN a none (some (k : Int)) = a.take k := by
  unfold cutN
  rw [HT.sIx_none, HT.sIx_nat, List.drop_zero, Nat.sub_zero]
  rcases Nat.le_total k a.length with h | h
  · rw [Nat.min_eq_left h]
  · rw [Nat.min_eq_right h, List.take_of_length_le (Nat.le_refl _), List.take_of_length_le h]
theorem cutN_from (a : List Nat) (k : Nat) : cutN a (some (k : Int)) none = a.drop k := by
  unfold cutN
  rw [HT.sIx_none, HT.sIx_nat]
  rcases Nat.le_total k a.length with h | h
  · rw [Nat.min_eq_left h, List.take_of_length_le (by rw [List.length_drop]; exact Nat.le_refl _)]
  · rw [Nat.min_eq_right h, List.drop_eq_nil_of_le (Nat.le_refl _), List.drop_eq_nil_of_le h, List.take_nil]
theorem cutN_len (a : List Nat) (lo hi : Option Int) : (cutN a lo hi).length ≤ a.length := by
  unfold cutN
  rw [List.length_take, List.length_drop]
  omega
theorem cutN_mid (a : List Nat) (i j : Nat) : cutN a (some (i : Int)) (some (j : Int)) = (a.drop i).take (j - i) := by
  unfold cutN
  rw [HT.sIx_nat, HT.sIx_nat]
  rcases Nat.le_total i a.length with h | h
  · rw [Nat.min_eq_left h]
    rcases Nat.le_total j a.length with h' | h'
    · rw [Nat.min_eq_left h']
    · rw [Nat.min_eq_right h', List.take_of_length_le (by rw [List.length_drop]; exact Nat.le_refl _), List.take_of_length_le (by rw [List.length_drop]; omega)]
  · rw [Nat.min_eq_right h, List.drop_eq_nil_of_le (Nat.le_refl _), List.drop_eq_nil_of_le h, List.take_nil, List.take_nil]
theorem count_S (a : List Nat) (c : Nat) : Txt.count (S a) (S [c]) = ((a.count c : Nat) : Int) := by
  show Txt.count (S a) ⟨#[c]⟩ = _
  rw [count_cnt]
  show cnt c a = _
  induction a with
  | nil => rfl
  | cons x r ih =>
    rw [cnt_cons, ih, List.count_cons]
    by_cases e : x = c
    · subst e
      simp
      omega
    · simp [e]
section
variable {X : Cx}
/-- a written text -/
theorem pe_lit {x : Str} {j pos} {l : List Nat} (h : x = S l) : PE X (.Constant (.str x) j pos) (tC (.str (S l))) := by
  subst h
  exact pe_str
theorem mt_countS : MtR X "str.count" (fun x xs H Q => ∃ (a : List Nat) (c : Nat), x = .str (S a) ∧ xs = [.str (S [c])] ∧ Q (.int (a.count c : Nat)) H) := by
  intro pins s σ H x v xs us Q I r rs h
  obtain ⟨a, c, rfl, rfl, q⟩ := h
  rw [← count_S] at q
  exact mt_count pins s σ H _ _ _ _ Q I r rs ⟨_, _, rfl, rfl, q⟩
theorem sl_S : SlR X (fun x lo hi H Q => ∃ a : List Nat, x = .str (S a) ∧ a.length ≤ sizeLine ∧ Q (.str (S (cutN a lo hi))) H) := by
  intro pins s σ H x v vl vu lo hi sl Q I rx hs pl pu h
  obtain ⟨a, rfl, hz, q⟩ := h
  rw [← cutS_S] at q
  exact sl_str pins s σ H _ v vl vu lo hi sl Q I rx hs pl pu ⟨_, rfl, by rw [S_len]; exact hz, q⟩
theorem op_add_S : OpR X (binaryOp .Add) (fun x y H Q => ∃ a b : List Nat, x = .str (S a) ∧ y = .str (S b) ∧ a.length + b.length ≤ sizeLine ∧ Q (.str (S (a ++ b))) H) := by
  intro pins s σ H x y v u Q I rx ry h
  obtain ⟨a, b, rfl, rfl, hz, q⟩ := h
  rw [← S_cat] at q
  exact op_add_str pins s σ H _ _ v u Q I rx ry ⟨_, _, rfl, rfl, by rw [S_len, S_len]; exact hz, q⟩
theorem op_rep_S : OpR X (binaryOp .Mult) (fun x y H Q => ∃ (a : List Nat) (n : Nat), x = .str (S a) ∧ y = .int n ∧ n ≤ 1000000 ∧ a.length * n ≤ sizeLine ∧ a.length ≤ 1000000 ∧ Q (.str (S (List.replicate n a).flatten)) H) := by
  intro pins s σ H x y v u Q I rx ry h
  obtain ⟨a, n, rfl, rfl, h1, h2, h3, q⟩ := h
  exact op_rep_str pins s σ H _ _ v u Q I rx ry ⟨_, n, rfl, rfl, h1, by rw [S_len]; exact h2, by rw [S_len]; exact h3, q⟩
theorem op_eq_S : OpR X (compareOp .Eq) (fun x y H Q => ∃ a b : List Nat, x = .str (S a) ∧ y = .str (S b) ∧ Q (.bl (decide (a = b))) H) := by
  intro pins s σ H x y v u Q I rx ry h
  obtain ⟨a, b, rfl, rfl, q⟩ := h
  refine op_eq pins s σ H _ _ v u Q I rx ry ⟨rfl, ?_⟩
  have e : decide (V.str (S a) = V.str (S b)) = decide (a = b) := by
    by_cases h : a = b
    · subst h; simp
    · rw [decide_eq_false h, decide_eq_false]
      exact fun z => h (S_inj (V.str.inj z))
  rw [e]
  exact q
theorem op_ne_S : OpR X (compareOp .NotEq) (fun x y H Q => ∃ a b : List Nat, x = .str (S a) ∧ y = .str (S b) ∧ Q (.bl (!decide (a = b))) H) := by
  intro pins s σ H x y v u Q I rx ry h
  obtain ⟨a, b, rfl, rfl, q⟩ := h
  refine op_ne pins s σ H _ _ v u Q I rx ry ⟨rfl, ?_⟩
  have e : decide (V.str (S a) = V.str (S b)) = decide (a = b) := by
    by_cases h : a = b
    · subst h; simp
    · rw [decide_eq_false h, decide_eq_false]
      exact fun z => h (S_inj (V.str.inj z))
  rw [e]
  exact q
theorem op_in_S : OpR X (compareOp .In) (fun x y H Q => ∃ (c : Nat) (a : List Nat), x = .str (S [c]) ∧ y = .str (S a) ∧ Q (.bl (decide (c ∈ a))) H) := by
  intro pins s σ H x y v u Q I rx ry h
  obtain ⟨c, a, rfl, rfl, q⟩ := h
  exact op_in_sign pins s σ H _ _ v u Q I rx ry ⟨c, S a, rfl, rfl, q⟩
theorem op_notIn_S : OpR X (compareOp .NotIn) (fun x y H Q => ∃ (c : Nat) (a : List Nat), x = .str (S [c]) ∧ y = .str (S a) ∧ Q (.bl (!decide (c ∈ a))) H) := by
  intro pins s σ H x y v u Q I rx ry h
  obtain ⟨c, a, rfl, rfl, q⟩ := h
  exact op_notIn_sign pins s σ H _ _ v u Q I rx ry ⟨c, S a, rfl, rfl, q⟩
theorem call_len_S : CallR X (.builtin "len") (fun xs H Q => ∃ a : List Nat, xs = [.str (S a)] ∧ a.length ≤ sizeLine ∧ Q (.int (a.length : Nat)) H) := by
  intro pins s σ H xs us Q I r h
  obtain ⟨a, rfl, hz, q⟩ := h
  refine call_len_str pins s σ H _ us Q I r ⟨_, rfl, by rw [S_len]; exact hz, ?_⟩
  rw [S_len]
  exact q
theorem mt_joinS : MtR X "str.join" (fun x xs H Q => ∃ (p : Addr) (ys : List (List Nat)), x = .str (S []) ∧ xs = [.ref p] ∧ (SqL X.K H p (ys.map fun y => V.str (S y)) ∨ SqT X.K H p (ys.map fun y => V.str (S y))) ∧ ys.flatten.length ≤ 16777216 ∧ Q (.str (S ys.flatten)) H) := by
  intro pins s σ H x v xs us Q I r rs h
  obtain ⟨p, ys, rfl, rfl, hp, hz, q⟩ := h
  have e0 : (ys.map fun y => V.str (S y)) = (ys.map S).map V.str := by rw [List.map_map]; rfl
  have ej : ∀ l : List (List Nat), TL.joinL [] l = l.flatten := by
    intro l
    induction l with
    | nil => rfl
    | cons a l ih =>
      cases l with
      | nil => rw [List.flatten_cons, List.flatten_nil, List.append_nil]; rfl
      | cons b l => rw [List.flatten_cons, ← ih]; rfl
  have el : ∀ l : List (List Nat), ((l.map S).map (·.length)).sum = l.flatten.length := by
    intro l
    induction l with
    | nil => rfl
    | cons a l ih => rw [List.map_cons, List.map_cons, List.sum_cons, ih, List.flatten_cons, List.length_append, S_len]
  rw [e0] at hp
  refine mt_join pins s σ H _ _ _ _ Q I r rs ⟨_, p, ys.map S, rfl, rfl, hp, ?_, ?_⟩
  · rw [el, S_len]
    simpa using hz
  · rw [join_S, ej]
    exact q
end
/-- x[::-1] -/
theorem revN (a : List Nat) (u : Tok) : Txt.sliceBy (S a) none none (-1, u) = S a.reverse := by
  have h := step_rev_list (S a) u
  generalize Txt.sliceBy (S a) none none (-1, u) = z at h ⊢
  have e : z = S z.cps.toList := (S_tl z).symm
  rw [e, h]
  congr 1
  have hl : (S a).length = a.length := S_len a
  have : ((List.range (S a).length).map fun k => (S a).cps.getD ((S a).length - 1 - k) 0) = a.reverse := by
    rw [hl]
    refine List.ext_getElem (by simp) fun i h1 h2 => ?_
    rw [List.getElem_map, List.getElem_range, List.getElem_reverse]
    have hi : i < a.length := by simpa using h1
    show (a.toArray).getD (a.length - 1 - i) 0 = _
    have hj : a.length - 1 - i < a.length := by omega
    simp [Array.getD, hj]
  rw [this]
def tRevS (te : TE) : TE := fun σ H Q => te σ H fun x H1 => ∃ a : List Nat, x = .str (S a) ∧ a.length ≤ sizeLine ∧ Q (.str (S a.reverse)) H1
theorem pe_revS {X : Cx} {e : Expr} {te : TE} {k : Nat} {p1 p2 p3 pos : Pos} (he : PE X e te) : PE X (.Subscript e (.Slice none none (some (.UnaryOp .USub (.Constant (.int 1) k p1) p2)) p3) pos) (tRevS te) := by
  refine ⟨fun pins s σ H Q I h => ?_⟩
  refine Subscript_ (thn (he.run pins s σ H _ I h) fun v s1 ⟨x, H1, I1, r1, q1⟩ => ?_)
  obtain ⟨a, ex, hz, q⟩ := q1
  subst ex
  obtain ⟨t, rfl⟩ := r1
  have hst : PO X (some (.UnaryOp .USub (.Constant (.int 1) k p1) p2)) (tPart (tUn (rU fun i => .int (-i)) (tC (.int 1)))) := po_some (pe_un un_neg pe_int)
  refine wpAny_Slice (thn (po_none.run pins s1 σ H1 (fun o H2 => o = none ∧ H2 = H1) I1 ⟨rfl, rfl⟩) fun vl s2 ⟨l, H2, I2, pl, el, e2⟩ => ?_)
  subst el e2
  refine thn (po_none.run pins s2 σ H2 (fun o H3 => o = none ∧ H3 = H2) I2 ⟨rfl, rfl⟩) fun vu s3 ⟨u, H3, I3, pu, eu, e3⟩ => ?_
  subst eu e3
  refine thn (hst.run pins s3 σ H3 (fun o H4 => o = some (-1) ∧ H4 = H3) I3 ⟨1, rfl, -1, rfl, rfl, rfl⟩) fun vs s4 ⟨o, H4, I4, ps, eo, e4⟩ => ?_
  subst eo e4
  have I5 : L2.Inv X pins σ H4 { s4 with heap := s4.heap.push { cls := .type "slice", data := .fields #[vl, vu, vs] } } := I4.kept (t' := s4.toks) fun b ob q => Heap.get?_push_of_some _ q
  obtain ⟨l, rfl, hl1⟩ := IsPart.raw pl
  obtain ⟨u, rfl, hu1⟩ := IsPart.raw pu
  obtain ⟨w, rfl, hw1⟩ := IsPart.raw ps
  cases l with
  | some l => cases hl1
  | none =>
  cases u with
  | some u => cases hu1
  | none =>
  cases w with
  | none => cases hw1
  | some w =>
  obtain ⟨i, tw⟩ := w
  have ei : i = -1 := Option.some.inj hw1
  subst ei
  show wpAny (model X.prog X.w) X.A (subscriptTail e (.Slice none none (some (.UnaryOp .USub (.Constant (.int 1) k p1) p2)) p3) (.str (S a) t) (.ref s4.heap.objs.size)) (EP X pins σ Q) X.xe { s4 with heap := s4.heap.push { cls := .type "slice", data := .fields #[_, _, _] } }
  refine tail_any (ops := [.str (S a) t, .ref s4.heap.objs.size]) (typeIs_str _ _ _) F.slot_str_getitem.lookup ?_ (by with_unfolding_all rfl)
  refine wpAny_getItem_str_slice (l := none) (u := none) (st := some (-1, tw)) ⟨_, Heap.get?_push_size _ rfl, rfl, rfl⟩ rfl ?_
  have er := revN a tw
  unfold Txt.sliceBy at er
  show Made.post (if _ then Made.val (.str (S a) t) else Made.str _) _ _
  split
  · rename_i c
    rw [if_pos c] at er
    exact ⟨.str (S a), _, I5, ⟨t, rfl⟩, by rw [er]; exact q⟩
  · rename_i c
    rw [if_neg c] at er
    have hl2 : (Str.length ⟨(List.filterMap (fun x => (S a).cps[x]?) (slicePicked (S a) none none (some (-1, tw)))).toArray⟩) = a.length := by
      rw [er, S_len, List.length_reverse]
    refine ⟨Nat.le_trans (Nat.le_of_eq hl2) hz, ?_⟩
    show EP X pins σ Q (.str ⟨(List.filterMap (fun x => (S a).cps[x]?) (slicePicked (S a) none none (some (-1, tw)))).toArray⟩ _) _
    rw [er]
    exact ⟨.str (S a.reverse), _, I5.tok _, ⟨_, rfl⟩, q⟩
/-- the signs of a text, as values -/
def sgs (a : List Nat) : List V := a.map fun c => V.str (S [c])
theorem vals_signs {a : List Nat} {acc : Array Value} (h : ItemsOf (SignAt (S a)) acc (S a).cps.size) : Vals (sgs a) acc.toList := by
  obtain ⟨hs, hi⟩ := h
  have hs' : acc.size = a.length := by rw [hs]; simp
  have key : ∀ (b : List Nat) (l : List Value), b.length = l.length → (∀ (j : Nat) (v : Value), l[j]? = some v → ∃ c u, b[j]? = some c ∧ v = Value.str ⟨#[c]⟩ u) → Vals (sgs b) l := by
    intro b
    induction b with
    | nil =>
      intro l hl _
      cases l with
      | nil => exact .nil
      | cons v l => cases hl
    | cons c b ih =>
      intro l hl h
      cases l with
      | nil => cases hl
      | cons v l =>
        obtain ⟨c', u, e1, e2⟩ := h 0 v rfl
        cases e1
        exact .cons ⟨u, e2⟩ (ih l (Nat.succ.inj hl) fun j v hj => h (j + 1) v hj)
  refine key a acc.toList (by rw [Array.length_toList]; exact hs'.symm) fun j v hj => ?_
  obtain ⟨c, u, h1, h2⟩ := hi j v (by simpa using hj)
  exact ⟨c, u, by simpa using h1, h2⟩
theorem call_list_S {X : Cx} (hc : X.calm = true) : CallR X (.type "list") (fun xs H Q => ∃ a : List Nat, xs = [.str (S a)] ∧ a.length ≤ sizeLine ∧ ∀ l, H l = none → Q (.ref l) (upd H l (.lst (sgs a)))) := by
  intro pins s σ H xs us Q I r h
  obtain ⟨a, rfl, hz, q⟩ := h
  obtain ⟨u, rfl, rx⟩ := vals1 r
  obtain ⟨t, rfl⟩ := rx
  refine call_list_str (I.ok.hd hc) (S a) t (fun h' tk acc' c' kp e hi => ?_) (by simpa using hz)
  have r' := vals_signs hi
  refine ⟨.ref s.heap.objs.size, _, I.laid (t' := tk) kp (Nat.le_refl _) (show ObjOk X.prog X.w _ h' _ (.lst (sgs a)) from ⟨by unfold sgs; rw [List.length_map]; exact hz, acc'.toList, c', r', by rw [Array.toArray_toList]; exact e⟩), rfl, q _ (I.hok.fresh (Nat.le_refl _))⟩
theorem call_tuple_S {X : Cx} (hc : X.calm = true) : CallR X (.type "tuple") (fun xs H Q => ∃ a : List Nat, xs = [.str (S a)] ∧ a.length ≤ sizeLine ∧ ∀ l, H l = none → Q (.ref l) (upd H l (.tup (sgs a)))) := by
  intro pins s σ H xs us Q I r h
  obtain ⟨a, rfl, hz, q⟩ := h
  obtain ⟨u, rfl, rx⟩ := vals1 r
  obtain ⟨t, rfl⟩ := rx
  refine call_tuple_str (I.ok.hd hc) (S a) t (fun h' tk acc kp hi => ?_) (by simpa using hz)
  have r' := vals_signs hi
  have I1 : L2.Inv X pins σ H { s with heap := h' } := I.kept (t' := s.toks) kp
  have I2 : L2.Inv X pins σ (upd H h'.objs.size (.tup (sgs a))) { s with heap := h'.push { cls := .type "tuple", data := .seq acc }, toks := tk } :=
    I1.laid (t' := tk) (fun b o e => Heap.get?_push_of_some _ e) (Nat.le_refl _) (show ObjOk X.prog X.w _ _ _ (.tup (sgs a)) from ⟨by unfold sgs; rw [List.length_map]; exact hz, acc.toList, r', by rw [Array.toArray_toList]; exact IsTup.new _ _⟩)
  exact ⟨.ref h'.objs.size, _, I2, rfl, q _ (I1.hok.fresh (Nat.le_refl _))⟩
/-- what pi_str walks -/
theorem its_at {a : List Nat} {i : Nat} {H H' : Hp} {x : V} (h : (Its (S a)).yld i H x H') : H' = H ∧ ∃ c, a[i]? = some c ∧ x = .str (S [c]) := by
  obtain ⟨e, c, h1, h2⟩ := h
  refine ⟨e, c, ?_, h2⟩
  simpa using h1
theorem its_go {a : List Nat} {i : Nat} {H : Hp} (h : i < a.length) : (Its (S a)).go i H := by
  show i < (S a).cps.size
  simpa using h
theorem its_stop {a : List Nat} {i : Nat} {H : Hp} (h : a.length ≤ i) : (Its (S a)).stop i H := by
  show (S a).cps.size ≤ i
  simpa using h
theorem for_S {a : List Nat} {g : TG} {tb : TS} {D : Ends} {σ : L2.St} {H : Hp} (Pv : Nat → L2.St → Hp → Prop) (h0 : Pv 0 σ H)
    (hs : ∀ i c σ H, a[i]? = some c → Pv i σ H → g (.str (S [c])) σ H fun σ2 H2 => tb { D with nx := Pv (i + 1), ct := Pv (i + 1), bk := D.nx } σ2 H2) (hd : ∀ σ H, Pv a.length σ H → D.nx σ H) :
    ∃ W : Nat → Nat → L2.St → Hp → Prop, (∃ m, W 0 m σ H) ∧ ∀ i m σ H, W i m σ H →
      ((Its (S a)).stop i H ∧ D.nx σ H) ∨ ((Its (S a)).go i H ∧ ∃ N : L2.St → Hp → Prop, (∀ σ' H', N σ' H' → ∃ m', m' < m ∧ W (i + 1) m' σ' H') ∧ ∀ x H', (Its (S a)).yld i H x H' → g x σ H' fun σ2 H2 => tb { D with nx := N, ct := N, bk := D.nx } σ2 H2) := by
  refine ⟨fun i m σ H => m = a.length - i ∧ i ≤ a.length ∧ Pv i σ H, ⟨a.length, by simp, Nat.zero_le _, h0⟩, ?_⟩
  rintro i m σ H ⟨rfl, hi, p⟩
  by_cases hlt : i < a.length
  · refine .inr ⟨its_go hlt, Pv (i + 1), fun σ' H' p' => ⟨a.length - (i + 1), by omega, rfl, hlt, p'⟩, fun x H' y => ?_⟩
    obtain ⟨rfl, c, hc, rfl⟩ := its_at y
    exact hs i c σ _ hc p
  · have e : i = a.length := by omega
    subst e
    exact .inl ⟨its_stop (Nat.le_refl _), hd σ H p⟩
theorem lc_S {a : List Nat} {g : TG} {tt : TT} {te : TE} {vs : List Nat} {σ : L2.St} {H1 : Hp} {D : Addr} {Qd : Hp → Prop} (Pv : Nat → Hp → Prop) (h0 : Pv 0 (upd H1 D (.lst [])))
    (hs : ∀ i c H, a[i]? = some c → Pv i H → g (.str (S [c])) (wipe σ vs) H fun σ2 H2 => wipe σ2 vs = wipe σ vs ∧ tt σ2 H2 fun b H3 =>
      if b = true then te σ2 H3 fun y H4 => ∃ acc, H4 D = some (.lst acc) ∧ acc.length < sizeLine ∧ Pv (i + 1) (upd H4 D (.lst (acc ++ [y]))) else Pv (i + 1) H3) (hd : ∀ H, Pv a.length H → Qd H) :
    ∃ W : Nat → Nat → Hp → Prop, (∃ m, W 0 m (upd H1 D (.lst []))) ∧ ∀ i m H, W i m H →
      ((Its (S a)).stop i H ∧ Qd H) ∨ ((Its (S a)).go i H ∧ ∃ Nx : Hp → Prop, (∀ H', Nx H' → ∃ m', m' < m ∧ W (i + 1) m' H') ∧ ∀ x H', (Its (S a)).yld i H x H' → g x (wipe σ vs) H' fun σ2 H2 => wipe σ2 vs = wipe σ vs ∧ tt σ2 H2 fun b H3 =>
        if b = true then te σ2 H3 fun y H4 => ∃ acc, H4 D = some (.lst acc) ∧ acc.length < sizeLine ∧ Nx (upd H4 D (.lst (acc ++ [y]))) else Nx H3) := by
  refine ⟨fun i m H => m = a.length - i ∧ i ≤ a.length ∧ Pv i H, ⟨a.length, by simp, Nat.zero_le _, h0⟩, ?_⟩
  rintro i m H ⟨rfl, hi, p⟩
  by_cases hlt : i < a.length
  · refine .inr ⟨its_go hlt, Pv (i + 1), fun H' p' => ⟨a.length - (i + 1), by omega, rfl, hlt, p'⟩, fun x H' y => ?_⟩
    obtain ⟨rfl, c, hc, rfl⟩ := its_at y
    exact hs i c _ hc p
  · have e : i = a.length := by omega
    subst e
    exact .inl ⟨its_stop (Nat.le_refl _), hd H p⟩
end EH

set_option Elab.async false
set_option linter.all false
set_option maxRecDepth 100000
set_option maxHeartbeats 4000000
namespace EH
open PySem PySem.Spec PyProof.Rows L2
def top (i : Nat) : Stmt := PySem.Challenge.pw_everyhalf_k02_integers_and_signs.main.body.getD i (.Pass ⟨0, 0, 0, 0⟩)

structure Txt (K : PySem.W.Frag) (mg : Str → Option Value) : Prop where
  n_int : mg "int" = none
  n_len : mg "len" = none
  n_abs : mg "abs" = none
  n_range : mg "range" = none
  n_isinstance : mg "isinstance" = none
  n_repr : mg "repr" = none
  n_str : mg "str" = none
  n_bool : mg "bool" = none
  n_list : mg "list" = none
  n_tuple : mg "tuple" = none
abbrev s_is_integer : Stmt := top 1
abbrev N_is_integer : List Str := ["value"]
theorem sc_is_integer : FnScope N_is_integer ["value"] (defScope s_is_integer) :=
  ⟨rfl, rfl, rfl, by decide +kernel, rfl, by decide +kernel, by decide +kernel⟩
abbrev s_is_within : Stmt := top 2
abbrev N_is_within : List Str := ["value", "least", "most"]
theorem sc_is_within : FnScope N_is_within ["value", "least", "most"] (defScope s_is_within) :=
  ⟨rfl, rfl, rfl, by decide +kernel, rfl, by decide +kernel, by decide +kernel⟩
abbrev s_is_signs : Stmt := top 3
abbrev N_is_signs : List Str := ["value"]
theorem sc_is_signs : FnScope N_is_signs ["value"] (defScope s_is_signs) :=
  ⟨rfl, rfl, rfl, by decide +kernel, rfl, by decide +kernel, by decide +kernel⟩
abbrev s__law_gauge : Stmt := top 5
abbrev N__law_gauge : List Str := ["script", "cell"]
theorem sc__law_gauge : FnScope N__law_gauge ["script"] (defScope s__law_gauge) :=
  ⟨rfl, rfl, rfl, by decide +kernel, rfl, by decide +kernel, by decide +kernel⟩
abbrev s__law_tick : Stmt := top 6
abbrev N__law_tick : List Str := ["gauge", "many", "rest", "at", "cell", "mixed"]
theorem sc__law_tick : FnScope N__law_tick ["gauge", "many"] (defScope s__law_tick) :=
  ⟨rfl, rfl, rfl, by decide +kernel, rfl, by decide +kernel, by decide +kernel⟩
abbrev s__law_dial : Stmt := top 7
abbrev N__law_dial : List Str := ["gauge", "some"]
theorem sc__law_dial : FnScope N__law_dial ["gauge", "some"] (defScope s__law_dial) :=
  ⟨rfl, rfl, rfl, by decide +kernel, rfl, by decide +kernel, by decide +kernel⟩
abbrev s__law_is_number : Stmt := top 8
abbrev N__law_is_number : List Str := ["value"]
theorem sc__law_is_number : FnScope N__law_is_number ["value"] (defScope s__law_is_number) :=
  ⟨rfl, rfl, rfl, by decide +kernel, rfl, by decide +kernel, by decide +kernel⟩
abbrev s__law_odd : Stmt := top 9
abbrev N__law_odd : List Str := ["gauge", "number"]
theorem sc__law_odd : FnScope N__law_odd ["gauge"] (defScope s__law_odd) :=
  ⟨rfl, rfl, rfl, by decide +kernel, rfl, by decide +kernel, by decide +kernel⟩
abbrev s_law : Stmt := top 10
abbrev N_law : List Str := ["script", "gauge", "turn", "value", "low", "high", "number", "least", "most", "due", "place", "signs", "at", "bent", "text", "sign"]
theorem sc_law : FnScope N_law ["script"] (defScope s_law) :=
  ⟨rfl, rfl, rfl, by decide +kernel, rfl, by decide +kernel, by decide +kernel⟩
/-! ### the drawing object: a list of the cells, how many were begun, what is left -/
/-- at g stands what draws, at most n cells begun -/
def GA (H : Hp) (g : Addr) (n : Nat) : Prop :=
  ∃ (c : Addr) (cs : List Int) (b : Nat) (r : Int), H g = some (.lst [.ref c, .int b, .int r]) ∧ H c = some (.lst (cs.map V.int)) ∧ c ≠ g ∧ b ≤ n ∧ 0 ≤ r
theorem GA.mono {H : Hp} {g : Addr} {n m : Nat} (h : GA H g n) (l : n ≤ m) : GA H g m := by
  obtain ⟨c, cs, b, r, h1, h2, h3, h4, h5⟩ := h
  exact ⟨c, cs, b, r, h1, h2, h3, Nat.le_trans h4 l, h5⟩
/-- g's cells stand at c -/
def Ce (H : Hp) (g c : Addr) : Prop := ∃ b r : Int, H g = some (.lst [.ref c, .int b, .int r])
theorem Ce.upd {H : Hp} {g c : Addr} {x y b r : Int} (h : H g = some (.lst [.ref c, .int x, .int y])) : ∀ d, Ce H g d → Ce (upd H g (.lst [.ref c, .int b, .int r])) g d := fun d ⟨_, _, e⟩ => by
  rw [h] at e
  cases e
  exact ⟨_, _, upd_same⟩
/-- all that was tracked is as it was, but what stands at g -/
structure Fm (g : Addr) (H H' : Hp) : Prop where
  k : ∀ b o, b ≠ g → H b = some o → H' b = some o
  c : ∀ d, Ce H g d → Ce H' g d
instance {g : Addr} {H H' : Hp} : CoeFun (Fm g H H') (fun _ => ∀ b o, b ≠ g → H b = some o → H' b = some o) := ⟨Fm.k⟩
theorem Fm.refl (g : Addr) (H : Hp) : Fm g H H := ⟨fun _ _ _ h => h, fun _ h => h⟩
theorem Fm.trans {g : Addr} {H H1 H2 : Hp} (a : Fm g H H1) (b : Fm g H1 H2) : Fm g H H2 := ⟨fun c o n h => b.k c o n (a.k c o n h), fun d h => b.c d (a.c d h)⟩
theorem Fm.of {g : Addr} {H H' : Hp} (s : Same H H') : Fm g H H' := ⟨fun c o _ h => s c o h, fun d ⟨b, r, e⟩ => ⟨b, r, s _ _ e⟩⟩
theorem Fm.upd {g : Addr} {H : Hp} {o : HO} (k : ∀ d, Ce H g d → Ce (upd H g o) g d) : Fm g H (upd H g o) := ⟨fun c u n h => by
  rw [upd_ne n]
  exact h, k⟩
theorem Fm.new {g : Addr} {H : Hp} {p : Addr} {o : HO} (h : H p = none) : Fm g H (L2.upd H p o) := Fm.of fun b x e => by
  rw [upd_ne (ne_of_none e h)]
  exact e
/-- where the cells stand, apart from what isn't there yet -/
theorem GA.off {H : Hp} {g D : Addr} {n : Nat} (h : GA H g n) (hD : H D = none) : ∃ c, Ce H g c ∧ D ≠ c := by
  obtain ⟨c, cs, b, r, h1, h2, h3, h4, h5⟩ := h
  exact ⟨c, ⟨_, _, h1⟩, fun e => by subst e; rw [hD] at h2; cases h2⟩
theorem GA.put {H : Hp} {g D c : Addr} {n : Nat} {o : HO} (h : GA H g n) (k : Ce H g c) (nc : D ≠ c) (ng : D ≠ g) : GA (L2.upd H D o) g n := by
  obtain ⟨c', cs, b, r, h1, h2, h3, h4, h5⟩ := h
  obtain ⟨b', r', e⟩ := k
  rw [h1] at e
  cases e
  exact ⟨c, cs, b, r, by rw [upd_ne (Ne.symm ng)]; exact h1, by rw [upd_ne (Ne.symm nc)]; exact h2, h3, h4, h5⟩
theorem Ce.put {H : Hp} {g D c : Addr} {o : HO} (k : Ce H g c) (ng : D ≠ g) : Ce (L2.upd H D o) g c := by
  obtain ⟨b', r', e⟩ := k
  exact ⟨b', r', by rw [upd_ne (Ne.symm ng)]; exact e⟩
theorem GA.new {H : Hp} {g p : Addr} {n : Nat} {o : HO} (h : GA H g n) (hp : H p = none) : GA (upd H p o) g n := by
  obtain ⟨c, cs, b, r, h1, h2, h3, h4, h5⟩ := h
  exact ⟨c, cs, b, r, by rw [upd_ne (ne_of_none h1 hp)]; exact h1, by rw [upd_ne (ne_of_none h2 hp)]; exact h2, h3, h4, h5⟩
theorem GA.same {H H' : Hp} {g : Addr} {n : Nat} (h : GA H g n) (s : Same H H') : GA H' g n := by
  obtain ⟨c, cs, b, r, h1, h2, h3, h4, h5⟩ := h
  exact ⟨c, cs, b, r, s _ _ h1, s _ _ h2, h3, h4, h5⟩
theorem same_new {H : Hp} {p : Addr} {o : HO} (h : H p = none) : Same H (upd H p o) := fun b x e => by
  rw [upd_ne (ne_of_none e h)]
  exact e
theorem Fm.none {g : Addr} {H H' : Hp} (h : Fm g H H') (hg : H g ≠ Option.none) {p : Addr} (hp : H' p = Option.none) (hg' : H' g ≠ Option.none) : H p = Option.none := by
  cases e : H p with
  | none => rfl
  | some o =>
    by_cases q : p = g
    · subst q
      exact absurd hp hg'
    · rw [h.k p o q e] at hp
      cases hp
theorem GA.some {H : Hp} {g : Addr} {n : Nat} (h : GA H g n) : H g ≠ Option.none := by
  obtain ⟨c, cs, b, r, h1, _⟩ := h
  rw [h1]
  exact Option.some_ne_none _
theorem Fm.sq {K : PySem.W.Frag} {g : Addr} {H H' : Hp} {a : Addr} {xs : List V} (h : Fm g H H') (n : a ≠ g) (s : SqL K H a xs) : SqL K H' a xs := by
  rcases s with (s | ⟨o, s⟩) | s
  · exact .inl (.inl (h.k _ _ n s))
  · exact .inl (.inr ⟨o, h.k _ _ n s⟩)
  · exact .inr s
theorem Fm.sqT {K : PySem.W.Frag} {g : Addr} {H H' : Hp} {a : Addr} {xs : List V} (h : Fm g H H') (n : a ≠ g) (s : SqT K H a xs) : SqT K H' a xs := by
  rcases s with (s | ⟨o, s⟩) | s
  · exact .inl (.inl (h.k _ _ n s))
  · exact .inl (.inr ⟨o, h.k _ _ n s⟩)
  · exact .inr s
def spGauge (K : PySem.W.Frag) : Sp := fun vs H Q _ => ∃ (a : Addr) (ns : List Int), vs = [.ref a] ∧ SqL K H a (ns.map V.int) ∧ ns.length ≤ 63 ∧
  ∀ (g : Addr) (H' : Hp), Same H H' → H g = none → GA H' g 0 → Q (.ref g) H'
def spTick : Sp := fun vs H Q _ => ∃ (g : Addr) (n : Nat) (m : Int), vs = [.ref g, .int m] ∧ GA H g n ∧ n < 1000000 ∧ 0 < m ∧ m.natAbs < 2 ^ 2000 ∧
  ∀ (H' : Hp) (v : Int), 0 ≤ v → v < m → Fm g H H' → GA H' g (n + 1) → Q (.int v) H'
def spDial (K : PySem.W.Frag) : Sp := fun vs H Q _ => ∃ (g a : Addr) (n : Nat) (xs : List V), vs = [.ref g, .ref a] ∧ GA H g n ∧ n < 1000000 ∧ SqL K H a xs ∧ a ≠ g ∧ 0 < xs.length ∧ xs.length < 1000 ∧
  ∀ (H' : Hp) (v : V), v ∈ xs → Fm g H H' → GA H' g (n + 1) → Q v H'
theorem cut_upto (xs : List V) (k : Nat) : cutV xs none (some (k : Int)) = xs.take k := by
  unfold cutV
  rw [HT.sIx_none, show HT.sIx xs.length xs.length (some (k : Int)) = min k xs.length from HT.sIx_nat xs.length xs.length k, List.drop_zero, Nat.sub_zero]
  rcases Nat.le_total k xs.length with h | h
  · rw [Nat.min_eq_left h]
  · rw [Nat.min_eq_right h, List.take_of_length_le (Nat.le_refl _), List.take_of_length_le h]
theorem natAbs_pow_lt {x : Int} {b : Int} (h0 : 0 ≤ x) (h1 : x < b) : x.natAbs < b.toNat := by omega
section
variable {P : Program} {w : World} {K : PySem.W.Frag} {mg : Str → Option Value} {base : Heap}
theorem ok__law_gauge {f : Addr} {fd : FuncData} (F : Fun K "_law_gauge" "_law_gauge" s__law_gauge f fd) (T : Txt K mg) : FnOk P w K mg base CX0 1 f fd ["script"] (spGauge K) := by
  have nd := sc__law_gauge.nd
  refine F.ok sc__law_gauge (fun vs H Q E h => ?_) (fun cdv A outer s H vs Q E hr h => ?_)
  · obtain ⟨a, ns, rfl, _⟩ := h
    rfl
  · obtain ⟨a, ns, rfl, hS, hl, q⟩ := h
    refine ⟨_, (pss_one (ps_ret (pe_lst (pa_cons (pe_lc (own := [("cell", 1)]) rfl nd (pi_list (pe_slice sl_list (pv 0) po_none (po_some pe_int))) (blkOk_by (N := N__law_gauge) (sc := defScope s__law_gauge) (by decide +kernel)) (fun _ _ _ _ _ => (pg_name (i := 1) nd rfl (by first | exact Or.inl rfl | exact Or.inr rfl))) (fun _ _ _ _ _ => pts_nil) (fun _ _ _ _ _ => (pe_callTy call_int1 (by rfl) T.n_int (by decide +kernel) (pa_cons (pv 1) pa_nil)))) (pa_cons pe_int (pa_cons pe_int pa_nil)))))), ?_⟩
    refine ⟨_, rfl, _, rfl, a, _, rfl, hS, fun p np => ?_⟩
    have e60 : cutV (ns.map V.int) none (some (59 : Int)) = (ns.take 59).map V.int := by
      rw [List.map_take]
      exact cut_upto (ns.map V.int) 59
    rw [e60]
    have hcl : (ns.take 59).length ≤ 59 := List.length_take_le ..
    generalize ns.take 59 = cs at hcl ⊢
    refine ⟨p, rfl, ⟨_, SqL.of upd_same⟩, fun D nD => ?_⟩
    have s1 : Same H (upd H p (.lst (cs.map V.int))) := same_new np
    have npD : p ≠ D := fun e => by
      rw [← e, upd_same] at nD
      cases nD
    refine lc_list (K := K) (a := p) (xs := cs.map V.int) (fun i H' => Same H H' ∧ H' p = some (.lst (cs.map V.int)) ∧ H' D = some (.lst ((cs.take i).map V.int)))
      ⟨s1.trans (same_new nD), by rw [upd_ne npD]; exact upd_same, upd_same⟩ (fun i H' _ h => SqL.of h.2.1) ?_ ?_
    · rintro i x H' hx ⟨sm, hp, hD⟩
      have hi : i < cs.length := by
        have := (List.getElem?_eq_some_iff.mp hx).1
        rw [List.length_map] at this
        exact this
      have ex : x = .int cs[i] := by
        rw [List.getElem?_map, List.getElem?_eq_getElem hi] at hx
        exact (Option.some.inj hx).symm
      subst ex
      refine ⟨rfl, ?_⟩
      dsimp only [tYes]
      rw [if_pos rfl]
      refine ⟨_, rfl, .inl ⟨_, rfl, _, hD, ?_, ?_⟩⟩
      · rw [List.length_map, List.length_take]
        exact Nat.lt_of_le_of_lt (Nat.min_le_right _ _) (small1000 (by omega))
      · refine ⟨fun b o e => ?_, by rw [upd_ne npD]; exact hp, ?_⟩
        · have nb : b ≠ D := fun z => by
            subst z
            rw [same_new np _ _ e] at nD
            cases nD
          rw [upd_ne nb]
          exact sm _ _ e
        · rw [upd_same, List.take_add_one, List.getElem?_eq_getElem hi, List.map_append]
          rfl
    · rintro H' ⟨sm, hp, hD⟩
      refine ⟨by show 3 ≤ sizeLine; decide, fun g ng => ?_⟩
      have ncg : D ≠ g := ne_of_none hD ng
      have eD : (cs.take (cs.map V.int).length).map V.int = cs.map V.int := by
        rw [List.length_map, List.take_length]
      refine q g _ (sm.trans (same_new ng)) (sm.free ng) ⟨D, cs, 0, 0, upd_same, ?_, ncg, Nat.le_refl _, by decide⟩
      rw [upd_ne ncg, hD, eD]

theorem ok__law_tick {f : Addr} {fd : FuncData} (F : Fun K "_law_tick" "_law_tick" s__law_tick f fd) (T : Txt K mg) : FnOk P w K mg base CX0 1 f fd ["gauge", "many"] spTick := by
  have nd := sc__law_tick.nd
  refine F.ok sc__law_tick (fun vs H Q E h => ?_) (fun cdv A outer s H vs Q E hr h => ?_)
  · obtain ⟨g, n, m, rfl, _⟩ := h
    rfl
  · obtain ⟨g, n, m, rfl, ⟨c, cs, b, r, hg, hc, ncg, hb, hr0⟩, hn, hm0, hm1, q⟩ := h
    have hu64 := hr.units
    have nmod : ∀ x : Int, 0 ≤ x % m := fun x => Int.emod_nonneg _ (by omega)
    have lmod : ∀ x : Int, x % m < m := fun x => Int.emod_lt_of_pos _ hm0
    have wd : ∀ x : Int, CDivW x m := fun x => wide_div hm0 hm1 (by decide) (by decide)
    have ix2 : ∀ (b r : Int), atI [V.ref c, V.int b, V.int r] 2 = some (V.int r) := fun _ _ => rfl
    have ix1 : ∀ (b r : Int), atI [V.ref c, V.int b, V.int r] 1 = some (V.int b) := fun _ _ => rfl
    have ix0 : ∀ (b r : Int), atI [V.ref c, V.int b, V.int r] 0 = some (V.ref c) := fun _ _ => rfl
    refine ⟨_, (pss_cons (ps_if (pt_cmpR op_gt (pe_ix ix_list (pv 0) pe_int (fun _ _ => rfl)) pe_int (nomark _))
 (pss_cons (ps_set (i := 2) nd rfl (by first | exact Or.inl rfl | exact Or.inr rfl) (pe_callTy call_int1 (by rfl) T.n_int (by decide +kernel) (pa_cons (pe_ix ix_list (pv 0) pe_int (fun _ _ => rfl)) pa_nil)))
 (pss_cons (ps_asg (pe_op op_fdivW (pv 2) (pv 1)) (pg_sub (pv 0) pe_int set_list))
 (pss_one (ps_ret (pe_op op_mod (pe_callTy call_int1 (by rfl) T.n_int (by decide +kernel) (pa_cons (pv 2) pa_nil)) (pv 1))))))
 pss_nil)
 (pss_cons (ps_set (i := 3) nd rfl (by first | exact Or.inl rfl | exact Or.inr rfl) (pe_ix ix_list (pv 0) pe_int (fun _ _ => rfl)))
 (pss_cons (ps_asg (pe_op op_add (pv 3) pe_int) (pg_sub (pv 0) pe_int set_list))
 (pss_cons (ps_set (i := 4) nd rfl (by first | exact Or.inl rfl | exact Or.inr rfl) (pe_op op_add (pe_op op_mul pe_int (pv 3)) pe_int))
 (pss_cons (ps_if (pt_cmpR (op_neD hu64) (pe_ix ix_list (pv 0) pe_int (fun _ _ => rfl)) (pe_lst pa_nil) (nomark _))
 (pss_one (ps_set (i := 4) nd rfl (by first | exact Or.inl rfl | exact Or.inr rfl) (pe_ix ix_list (pe_ix ix_list (pv 0) pe_int (fun _ _ => rfl)) (pe_op op_mod (pe_callTy call_int1 (by rfl) T.n_int (by decide +kernel) (pa_cons (pv 3) pa_nil)) (pe_callB call_len_seq (by rfl) T.n_len (by decide +kernel) (pa_cons (pe_ix ix_list (pv 0) pe_int (fun _ _ => rfl)) pa_nil))) (fun _ _ => rfl))))
 pss_nil)
 (pss_cons (ps_if (PW.pt (pw_and (pt_cmpR op_lt (pv 3) (pe_callB call_len_seq (by rfl) T.n_len (by decide +kernel) (pa_cons (pe_ix ix_list (pv 0) pe_int (fun _ _ => rfl)) pa_nil)) (nomark _)) (pw_and1 (pt_cmpR op_ge (pe_callB call_abs (by rfl) T.n_abs (by decide +kernel) (pa_cons (pv 4) pa_nil)) (pe_op op_pow pe_int pe_int) (nomark _)))))
 (pss_cons (ps_set (i := 2) nd rfl (by first | exact Or.inl rfl | exact Or.inr rfl) (pe_op op_add (pe_op op_mul pe_int (pe_op op_sub (pe_callB call_abs (by rfl) T.n_abs (by decide +kernel) (pa_cons (pv 4) pa_nil)) (pe_op op_pow pe_int pe_int))) (pe_callTy call_int1 (by rfl) T.n_int (by decide +kernel) (pa_cons (pe_cmpR op_lt (pv 4) pe_int (nomark _)) pa_nil))))
 (pss_cons (ps_asg (pe_op op_fdivW (pe_callTy call_int1 (by rfl) T.n_int (by decide +kernel) (pa_cons (pv 2) pa_nil)) (pv 1)) (pg_sub (pv 0) pe_int set_list))
 (pss_one (ps_ret (pe_op op_mod (pe_callTy call_int1 (by rfl) T.n_int (by decide +kernel) (pa_cons (pv 2) pa_nil)) (pv 1))))))
 pss_nil)
 (pss_cons (ps_set (i := 5) nd rfl (by first | exact Or.inl rfl | exact Or.inr rfl) (pe_op op_mod (pe_callTy call_int1 (by rfl) T.n_int (by decide +kernel) (pa_cons (pe_op op_pow (pe_op op_add (pe_op op_add (pe_op op_mod (pe_callTy call_int1 (by rfl) T.n_int (by decide +kernel) (pa_cons (pv 4) pa_nil)) pe_int) (pe_op op_mul pe_int (pv 3))) pe_int) pe_int) pa_nil)) pe_int))
 (pss_cons (ps_set (i := 5) nd rfl (by first | exact Or.inl rfl | exact Or.inr rfl) (pe_op op_mod (pe_callTy call_int1 (by rfl) T.n_int (by decide +kernel) (pa_cons (pe_op op_pow (pe_op op_add (pe_op op_add (pe_op op_mul (pv 5) (pe_op op_add (pe_op op_mul pe_int (pv 3)) pe_int)) (pe_op op_mul (pe_op op_mul pe_int (pv 3)) (pv 3))) pe_int) pe_int) pa_nil)) pe_int))
 (pss_one (ps_ret (pe_op op_mod (pe_callTy call_int1 (by rfl) T.n_int (by decide +kernel) (pa_cons (pe_op op_fdiv (pv 5) pe_int) pa_nil)) (pv 1)))))))))))), ?_⟩
    -- what is left of a great cell
    refine ⟨_, rfl, g, _, _, _, rfl, rfl, SqL.of hg, ix2 _ _, _, _, rfl, rfl, _, rfl, ?_⟩
    refine ite2 (fun e => ?_) (fun e => ?_)
    · refine ⟨_, rfl, g, _, _, _, rfl, rfl, SqL.of hg, ix2 _ _, .inl ⟨_, rfl, ?_⟩⟩
      first
        | refine ⟨_, rfl, _, rfl, _, _, rfl, rfl, wd r, _, rfl, g, _, _, 2, rfl, rfl, hg, rfl, ?_⟩
        | refine ⟨_, rfl, .inl ⟨_, rfl, _, rfl, _, _, rfl, rfl, wd r, _, rfl, g, _, _, 2, rfl, rfl, hg, rfl, ?_⟩⟩
      refine ⟨_, rfl, .inl ⟨_, rfl, _, rfl, _, _, rfl, rfl, hm0, ?_⟩⟩
      refine q _ _ (nmod _) (lmod _) (Fm.upd (Ce.upd hg)) ⟨c, cs, b, r / m, upd_same, ?_, ncg, by omega, Int.ediv_nonneg hr0 (by omega)⟩
      rw [upd_ne ncg]
      exact hc
    -- the next cell
    refine ⟨_, rfl, g, _, _, _, rfl, rfl, SqL.of hg, ix1 _ _, ?_⟩
    refine ⟨_, rfl, _, _, rfl, rfl, _, rfl, g, _, _, 1, rfl, rfl, hg, rfl, ?_⟩
    have hg1 : (upd H g (.lst [.ref c, .int ((b : Int) + 1), .int r])) g = some (.lst [.ref c, .int ((b : Int) + 1), .int r]) := upd_same
    have hc1 : (upd H g (.lst [.ref c, .int ((b : Int) + 1), .int r])) c = some (.lst (cs.map V.int)) := by
      rw [upd_ne ncg]
      exact hc
    have fm1 : Fm g H (upd H g (.lst [.ref c, .int ((b : Int) + 1), .int r])) := Fm.upd (Ce.upd hg)
    show tSeq _ _ _ _ (upd H g (.lst [.ref c, .int ((b : Int) + 1), .int r]))
    generalize upd H g (.lst [.ref c, .int ((b : Int) + 1), .int r]) = H1 at hg1 hc1 fm1 ⊢
    -- the cell that the place alone tells
    refine ⟨_, rfl, _, _, rfl, rfl, .inl (by omega), _, _, rfl, rfl, ?_⟩
    -- where there are cells: that one
    refine ⟨_, rfl, g, _, _, _, rfl, rfl, SqL.of hg1, ix0 _ _, Nat.zero_le _, fun l nl => ?_⟩
    have hg2 : (upd H1 l (.lst [])) g = some (.lst [.ref c, .int ((b : Int) + 1), .int r]) := by
      rw [upd_ne (ne_of_none hg1 nl)]
      exact hg1
    have hc2 : (upd H1 l (.lst [])) c = some (.lst (cs.map V.int)) := by
      rw [upd_ne (ne_of_none hc1 nl)]
      exact hc1
    have hl2 : (upd H1 l (.lst [])) l = some (.lst []) := upd_same
    have fm2 : Fm g H (upd H1 l (.lst [])) := fm1.trans (Fm.new nl)
    generalize upd H1 l (.lst []) = H2 at hg2 hc2 hl2 fm2 ⊢
    refine ⟨.list (cs.map .int), .list [], .lst (SqL.of hc2) (dp_ints cs), .lst (SqL.of hl2) .nil, sh_ints cs, rfl, _, rfl, ?_⟩
    refine ite2 (fun e2 => ?_) (fun e2 => ?_)
    · have hcs : 0 < cs.length := by
        cases cs with
        | nil => exact absurd e2 (by decide)
        | cons x y => exact Nat.zero_lt_succ _
      have hbl : (b : Int) % ((cs.map V.int).length : Nat) = ((b % cs.length : Nat) : Int) := by
        rw [List.length_map]
        exact (Int.natCast_emod b cs.length).symm
      have hj : b % cs.length < cs.length := Nat.mod_lt _ hcs
      refine ⟨_, rfl, g, _, _, _, rfl, rfl, SqL.of hg2, ix0 _ _, _, rfl, .inl ⟨_, rfl, _, rfl, g, _, _, _, rfl, rfl, SqL.of hg2, ix0 _ _, c, _, rfl, .inl (SqL.of hc2), _, _, rfl, rfl, ?_, c, _, _, .int cs[b % cs.length], rfl, rfl, SqL.of hc2, ?_, ?_⟩⟩
      · rw [List.length_map]
        omega
      · rw [hbl]
        exact atI_nat (by rw [List.getElem?_map, List.getElem?_eq_getElem hj]; rfl)
      · generalize cs[b % cs.length] = cell
        refine ⟨_, rfl, _, rfl, g, _, _, _, rfl, rfl, SqL.of hg2, ix0 _ _, c, _, rfl, .inl (SqL.of hc2), _, _, rfl, rfl, _, rfl, ?_⟩
        refine ite2 (fun e3 => ?_) (fun e3 => iteF ?_)
        · refine ⟨_, rfl, _, rfl, _, _, rfl, rfl, ⟨by decide, by decide, by decide⟩, _, _, rfl, rfl, _, rfl, ?_⟩
          refine ite2 (fun e4 => ?_) (fun e4 => ?_)
          · have e5 := of_decide_eq_true e4
            first
              | refine ⟨_, rfl, _, rfl, _, _, rfl, rfl, ⟨by decide, by decide, by decide⟩, _, _, rfl, rfl, _, _, rfl, rfl, .inl ⟨by decide, by decide⟩, _, rfl, _, _, rfl, rfl, .inr ⟨_, rfl, _, _, rfl, rfl, ?_⟩⟩
              | refine ⟨_, rfl, .inl ⟨_, rfl, _, rfl, _, _, rfl, rfl, ⟨by decide, by decide, by decide⟩, _, _, rfl, rfl, _, _, rfl, rfl, .inl ⟨by decide, by decide⟩, _, rfl, _, _, rfl, rfl, .inr ⟨_, rfl, _, _, rfl, rfl, ?_⟩⟩⟩
            have r0 : 0 ≤ 2 * ((if cell < 0 then -cell else cell) - 10 ^ (18 : Int).toNat) + (if decide (cell < 0) = true then (1 : Int) else 0) := by
              have e6 : (10 : Int) ^ (18 : Int).toNat ≤ (if cell < 0 then -cell else cell) := e5
              split <;> omega
            dsimp only
            generalize 2 * ((if cell < 0 then -cell else cell) - 10 ^ (18 : Int).toNat) + (if decide (cell < 0) = true then (1 : Int) else 0) = r2 at r0 ⊢
            first
              | refine ⟨_, rfl, _, rfl, _, _, rfl, rfl, wd r2, _, rfl, g, _, _, 2, rfl, rfl, hg2, rfl, ?_⟩
              | refine ⟨_, rfl, .inl ⟨_, rfl, _, rfl, _, _, rfl, rfl, wd r2, _, rfl, g, _, _, 2, rfl, rfl, hg2, rfl, ?_⟩⟩
            refine ⟨_, rfl, .inl ⟨_, rfl, _, rfl, _, _, rfl, rfl, hm0, ?_⟩⟩
            refine q _ _ (nmod _) (lmod _) (fm2.trans (Fm.upd (Ce.upd hg2))) ⟨c, cs, b + 1, r2 / m, upd_same, ?_, ncg, by omega, Int.ediv_nonneg r0 (by omega)⟩
            rw [upd_ne ncg]
            exact hc2
          · refine ⟨_, rfl, .inl ⟨_, rfl, _, _, rfl, rfl, by show (0 : Int) < _; decide, _, rfl, _, _, rfl, rfl, .inl ⟨by decide, by decide⟩, _, _, rfl, rfl, _, _, rfl, rfl, _, _, rfl, rfl, ⟨by decide, by decide, by omega⟩, .inl ⟨_, rfl, _, _, rfl, rfl, by show (0 : Int) < _; decide, ?_⟩⟩⟩
            dsimp only
            have mx0 : 0 ≤ (cell % 2147483587 + 143053 * (b : Int) + 11213) ^ (5 : Int).toNat % 2147483543 := Int.emod_nonneg _ (by decide)
            have mx1 : (cell % 2147483587 + 143053 * (b : Int) + 11213) ^ (5 : Int).toNat % 2147483543 < 2147483543 := Int.emod_lt_of_pos _ (by decide)
            generalize (cell % 2147483587 + 143053 * (b : Int) + 11213) ^ (5 : Int).toNat % 2147483543 = mx at mx0 mx1 ⊢
            have t1 := tick_b1 (x := mx) (b := b) (C := 12241) mx0 (by omega) (by omega) (by omega) (by omega) (by omega)
            have t2 := tick_b2 (D := 192007) (b := b) (by omega) (by omega) (by omega) (by omega)
            refine ⟨_, rfl, _, rfl, _, _, rfl, rfl, .inl ⟨by decide, by decide⟩, _, _, rfl, rfl, _, _, rfl, rfl, .inl ⟨by omega, by omega⟩, _, rfl, _, _, rfl, rfl, .inl ⟨by decide, by decide⟩, _, rfl, _, _, rfl, rfl, .inr ⟨by omega, by omega⟩, _, _, rfl, rfl, _, _, rfl, rfl, _, _, rfl, rfl, ⟨by decide, by decide, by omega⟩, .inl ⟨_, rfl, _, _, rfl, rfl, by show (0 : Int) < _; decide, ?_⟩⟩
            refine ⟨_, rfl, _, _, rfl, rfl, ⟨by decide, by decide⟩, .inl ⟨_, rfl, _, rfl, _, _, rfl, rfl, hm0, ?_⟩⟩
            exact q _ _ (nmod _) (lmod _) fm2 ⟨c, cs, b + 1, r, hg2, hc2, ncg, by omega, hr0⟩
        · refine ⟨_, rfl, .inl ⟨_, rfl, _, _, rfl, rfl, by show (0 : Int) < _; decide, _, rfl, _, _, rfl, rfl, .inl ⟨by decide, by decide⟩, _, _, rfl, rfl, _, _, rfl, rfl, _, _, rfl, rfl, ⟨by decide, by decide, by omega⟩, .inl ⟨_, rfl, _, _, rfl, rfl, by show (0 : Int) < _; decide, ?_⟩⟩⟩
          dsimp only
          have mx0 : 0 ≤ (cell % 2147483587 + 143053 * (b : Int) + 11213) ^ (5 : Int).toNat % 2147483543 := Int.emod_nonneg _ (by decide)
          have mx1 : (cell % 2147483587 + 143053 * (b : Int) + 11213) ^ (5 : Int).toNat % 2147483543 < 2147483543 := Int.emod_lt_of_pos _ (by decide)
          generalize (cell % 2147483587 + 143053 * (b : Int) + 11213) ^ (5 : Int).toNat % 2147483543 = mx at mx0 mx1 ⊢
          have t1 := tick_b1 (x := mx) (b := b) (C := 12241) mx0 (by omega) (by omega) (by omega) (by omega) (by omega)
          have t2 := tick_b2 (D := 192007) (b := b) (by omega) (by omega) (by omega) (by omega)
          refine ⟨_, rfl, _, rfl, _, _, rfl, rfl, .inl ⟨by decide, by decide⟩, _, _, rfl, rfl, _, _, rfl, rfl, .inl ⟨by omega, by omega⟩, _, rfl, _, _, rfl, rfl, .inl ⟨by decide, by decide⟩, _, rfl, _, _, rfl, rfl, .inr ⟨by omega, by omega⟩, _, _, rfl, rfl, _, _, rfl, rfl, _, _, rfl, rfl, ⟨by decide, by decide, by omega⟩, .inl ⟨_, rfl, _, _, rfl, rfl, by show (0 : Int) < _; decide, ?_⟩⟩
          refine ⟨_, rfl, _, _, rfl, rfl, ⟨by decide, by decide⟩, .inl ⟨_, rfl, _, rfl, _, _, rfl, rfl, hm0, ?_⟩⟩
          exact q _ _ (nmod _) (lmod _) fm2 ⟨c, cs, b + 1, r, hg2, hc2, ncg, by omega, hr0⟩
    · dsimp only
      generalize 192007 * (b : Int) + 11213 = cell
      refine ⟨_, rfl, _, rfl, g, _, _, _, rfl, rfl, SqL.of hg2, ix0 _ _, c, _, rfl, .inl (SqL.of hc2), _, _, rfl, rfl, _, rfl, ?_⟩
      refine ite2 (fun e3 => ?_) (fun e3 => iteF ?_)
      · refine ⟨_, rfl, _, rfl, _, _, rfl, rfl, ⟨by decide, by decide, by decide⟩, _, _, rfl, rfl, _, rfl, ?_⟩
        refine ite2 (fun e4 => ?_) (fun e4 => ?_)
        · have e5 := of_decide_eq_true e4
          first
            | refine ⟨_, rfl, _, rfl, _, _, rfl, rfl, ⟨by decide, by decide, by decide⟩, _, _, rfl, rfl, _, _, rfl, rfl, .inl ⟨by decide, by decide⟩, _, rfl, _, _, rfl, rfl, .inr ⟨_, rfl, _, _, rfl, rfl, ?_⟩⟩
            | refine ⟨_, rfl, .inl ⟨_, rfl, _, rfl, _, _, rfl, rfl, ⟨by decide, by decide, by decide⟩, _, _, rfl, rfl, _, _, rfl, rfl, .inl ⟨by decide, by decide⟩, _, rfl, _, _, rfl, rfl, .inr ⟨_, rfl, _, _, rfl, rfl, ?_⟩⟩⟩
          have r0 : 0 ≤ 2 * ((if cell < 0 then -cell else cell) - 10 ^ (18 : Int).toNat) + (if decide (cell < 0) = true then (1 : Int) else 0) := by
            have e6 : (10 : Int) ^ (18 : Int).toNat ≤ (if cell < 0 then -cell else cell) := e5
            split <;> omega
          dsimp only
          generalize 2 * ((if cell < 0 then -cell else cell) - 10 ^ (18 : Int).toNat) + (if decide (cell < 0) = true then (1 : Int) else 0) = r2 at r0 ⊢
          first
            | refine ⟨_, rfl, _, rfl, _, _, rfl, rfl, wd r2, _, rfl, g, _, _, 2, rfl, rfl, hg2, rfl, ?_⟩
            | refine ⟨_, rfl, .inl ⟨_, rfl, _, rfl, _, _, rfl, rfl, wd r2, _, rfl, g, _, _, 2, rfl, rfl, hg2, rfl, ?_⟩⟩
          refine ⟨_, rfl, .inl ⟨_, rfl, _, rfl, _, _, rfl, rfl, hm0, ?_⟩⟩
          refine q _ _ (nmod _) (lmod _) (fm2.trans (Fm.upd (Ce.upd hg2))) ⟨c, cs, b + 1, r2 / m, upd_same, ?_, ncg, by omega, Int.ediv_nonneg r0 (by omega)⟩
          rw [upd_ne ncg]
          exact hc2
        · refine ⟨_, rfl, .inl ⟨_, rfl, _, _, rfl, rfl, by show (0 : Int) < _; decide, _, rfl, _, _, rfl, rfl, .inl ⟨by decide, by decide⟩, _, _, rfl, rfl, _, _, rfl, rfl, _, _, rfl, rfl, ⟨by decide, by decide, by omega⟩, .inl ⟨_, rfl, _, _, rfl, rfl, by show (0 : Int) < _; decide, ?_⟩⟩⟩
          dsimp only
          have mx0 : 0 ≤ (cell % 2147483587 + 143053 * (b : Int) + 11213) ^ (5 : Int).toNat % 2147483543 := Int.emod_nonneg _ (by decide)
          have mx1 : (cell % 2147483587 + 143053 * (b : Int) + 11213) ^ (5 : Int).toNat % 2147483543 < 2147483543 := Int.emod_lt_of_pos _ (by decide)
          generalize (cell % 2147483587 + 143053 * (b : Int) + 11213) ^ (5 : Int).toNat % 2147483543 = mx at mx0 mx1 ⊢
          have t1 := tick_b1 (x := mx) (b := b) (C := 12241) mx0 (by omega) (by omega) (by omega) (by omega) (by omega)
          have t2 := tick_b2 (D := 192007) (b := b) (by omega) (by omega) (by omega) (by omega)
          refine ⟨_, rfl, _, rfl, _, _, rfl, rfl, .inl ⟨by decide, by decide⟩, _, _, rfl, rfl, _, _, rfl, rfl, .inl ⟨by omega, by omega⟩, _, rfl, _, _, rfl, rfl, .inl ⟨by decide, by decide⟩, _, rfl, _, _, rfl, rfl, .inr ⟨by omega, by omega⟩, _, _, rfl, rfl, _, _, rfl, rfl, _, _, rfl, rfl, ⟨by decide, by decide, by omega⟩, .inl ⟨_, rfl, _, _, rfl, rfl, by show (0 : Int) < _; decide, ?_⟩⟩
          refine ⟨_, rfl, _, _, rfl, rfl, ⟨by decide, by decide⟩, .inl ⟨_, rfl, _, rfl, _, _, rfl, rfl, hm0, ?_⟩⟩
          exact q _ _ (nmod _) (lmod _) fm2 ⟨c, cs, b + 1, r, hg2, hc2, ncg, by omega, hr0⟩
      · refine ⟨_, rfl, .inl ⟨_, rfl, _, _, rfl, rfl, by show (0 : Int) < _; decide, _, rfl, _, _, rfl, rfl, .inl ⟨by decide, by decide⟩, _, _, rfl, rfl, _, _, rfl, rfl, _, _, rfl, rfl, ⟨by decide, by decide, by omega⟩, .inl ⟨_, rfl, _, _, rfl, rfl, by show (0 : Int) < _; decide, ?_⟩⟩⟩
        dsimp only
        have mx0 : 0 ≤ (cell % 2147483587 + 143053 * (b : Int) + 11213) ^ (5 : Int).toNat % 2147483543 := Int.emod_nonneg _ (by decide)
        have mx1 : (cell % 2147483587 + 143053 * (b : Int) + 11213) ^ (5 : Int).toNat % 2147483543 < 2147483543 := Int.emod_lt_of_pos _ (by decide)
        generalize (cell % 2147483587 + 143053 * (b : Int) + 11213) ^ (5 : Int).toNat % 2147483543 = mx at mx0 mx1 ⊢
        have t1 := tick_b1 (x := mx) (b := b) (C := 12241) mx0 (by omega) (by omega) (by omega) (by omega) (by omega)
        have t2 := tick_b2 (D := 192007) (b := b) (by omega) (by omega) (by omega) (by omega)
        refine ⟨_, rfl, _, rfl, _, _, rfl, rfl, .inl ⟨by decide, by decide⟩, _, _, rfl, rfl, _, _, rfl, rfl, .inl ⟨by omega, by omega⟩, _, rfl, _, _, rfl, rfl, .inl ⟨by decide, by decide⟩, _, rfl, _, _, rfl, rfl, .inr ⟨by omega, by omega⟩, _, _, rfl, rfl, _, _, rfl, rfl, _, _, rfl, rfl, ⟨by decide, by decide, by omega⟩, .inl ⟨_, rfl, _, _, rfl, rfl, by show (0 : Int) < _; decide, ?_⟩⟩
        refine ⟨_, rfl, _, _, rfl, rfl, ⟨by decide, by decide⟩, .inl ⟨_, rfl, _, rfl, _, _, rfl, rfl, hm0, ?_⟩⟩
        exact q _ _ (nmod _) (lmod _) fm2 ⟨c, cs, b + 1, r, hg2, hc2, ncg, by omega, hr0⟩

theorem ok__law_dial {f : Addr} {fd : FuncData} (F : Fun K "_law_dial" "_law_dial" s__law_dial f fd) (T : Txt K mg) (c__law_tick : Cl P w K mg base 1 "_law_tick" spTick) : FnOk P w K mg base CX0 2 f fd ["gauge", "some"] (spDial K) := by
  have nd := sc__law_dial.nd
  refine F.ok sc__law_dial (fun vs H Q E h => ?_) (fun cdv A outer s H vs Q E hr h => ?_)
  · obtain ⟨g, a, n, xs, rfl, _⟩ := h
    rfl
  · obtain ⟨g, a, n, xs, rfl, hG, hn, hS, nag, hl0, hl1, q⟩ := h
    refine ⟨_, (pss_one (ps_ret (pe_ix ix_list (pv 1) (pe_f c__law_tick hr (by decide) (by rfl) (pa_cons (pv 0) (pa_cons (pe_callB call_len_seq (by rfl) T.n_len (by decide +kernel) (pa_cons (pv 1) pa_nil)) pa_nil))) (fun _ _ => rfl)))), ?_⟩
    have p2 : 1000 < 2 ^ 2000 := Nat.lt_of_lt_of_le (by decide : 1000 < 2 ^ 10) (Nat.pow_le_pow_right (by decide) (by decide))
    refine ⟨_, rfl, _, rfl, _, rfl, a, xs, rfl, .inl hS, g, n, xs.length, rfl, hG, hn, by omega, ?_, fun H' v hv0 hv1 fm ga => ?_⟩
    · rw [Int.natAbs_natCast]
      exact Nat.lt_trans hl1 p2
    · obtain ⟨j, rfl⟩ : ∃ j : Nat, v = (j : Int) := ⟨v.toNat, by omega⟩
      have hj : j < xs.length := by omega
      exact ⟨a, xs, _, xs[j], rfl, rfl, fm.sq nag hS, atI_nat (List.getElem?_eq_getElem hj), q H' _ (List.getElem_mem hj) fm ga⟩
end

open SX (S S_len S_cat S_inj join_S S_tl)
/-! ### checks of numbers -/
/-- a bound: none, or an integer -/
def Bd (x : V) : Prop := x = .non ∨ ∃ a, x = .int a
def isW (v lo hi : V) : Bool :=
  match v with
  | .int i => (match lo with | .int a => decide (a ≤ i) | _ => true) && (match hi with | .int b => decide (i ≤ b) | _ => true)
  | _ => false
def spIsInt (K : PySem.W.Frag) : Sp := fun vs H Q _ => ∃ (v : V) (t : String), vs = [v] ∧ TyB K H v t ∧ Q (.bl (t == "int")) H
def spWithin (K : PySem.W.Frag) : Sp := fun vs H Q _ => ∃ (v lo hi : V) (t : String), vs = [v, lo, hi] ∧ TyB K H v t ∧ Bd lo ∧ Bd hi ∧ Q (.bl (isW v lo hi)) H
def spCheck (K : PySem.W.Frag) : Sp := fun vs H Q _ => ∃ (v lo hi p : V) (t : String), vs = [v, lo, hi, p] ∧ TyB K H v t ∧ Bd lo ∧ Bd hi ∧ isW v lo hi = true ∧ Q .non H
theorem ty_only : ∀ t ∈ kinds, (if isSub t "int" = true then !isSub t "bool" else false) = (t == "int") := by decide
theorem tyb_int {K : PySem.W.Frag} {H : Hp} {v : V} {t : String} (h : TyB K H v t) (e : (t == "int") = true) : ∃ i, v = .int i := by
  cases h with
  | int i => exact ⟨i, rfl⟩
  | _ => exact absurd e (by decide)
theorem tyb_noint {K : PySem.W.Frag} {H : Hp} {v : V} {t : String} (h : TyB K H v t) (e : ¬ (t == "int") = true) (lo hi : V) : isW v lo hi = false := by
  cases h with
  | int i => exact absurd (by decide) e
  | _ => rfl
section
variable {P : Program} {w : World} {K : PySem.W.Frag} {mg : Str → Option Value} {base : Heap}
theorem ok_is_integer {f : Addr} {fd : FuncData} (F : Fun K "is_integer" "is_integer" s_is_integer f fd) (T : Txt K mg) : FnOk P w K mg base CX0 1 f fd ["value"] (spIsInt K) := by
  have nd := sc_is_integer.nd
  refine F.ok sc_is_integer (fun vs H Q E h => ?_) (fun cdv A outer s H vs Q E hr h => ?_)
  · obtain ⟨v, t, rfl, _⟩ := h
    rfl
  · obtain ⟨v, t, rfl, ht, q⟩ := h
    refine ⟨_, (pss_one (ps_ret (pe_and (pe_callB call_is (by rfl) T.n_isinstance (by decide +kernel) (pa_cons (pv 0) (pa_cons (pe_bltn (v := .ty "int") (by rfl) T.n_int (by decide +kernel) rfl) pa_nil))) (pe_one (pe_not (pe_callB call_is (by rfl) T.n_isinstance (by decide +kernel) (pa_cons (pv 0) (pa_cons (pe_bltn (v := .ty "bool") (by rfl) T.n_bool (by decide +kernel) rfl) pa_nil)))))))), ?_⟩
    rw [← ty_only t (tyb_kind ht)] at q
    refine ⟨_, rfl, v, t, "int", rfl, ht, by decide, _, rfl, ?_⟩
    refine ite2 (fun e => ?_) (fun e => ?_)
    · rw [if_pos e] at q
      exact ⟨_, rfl, v, t, "bool", rfl, ht, by decide, _, rfl, q⟩
    · rw [if_neg e] at q
      exact q
theorem ok_is_within {f : Addr} {fd : FuncData} (F : Fun K "is_within" "is_within" s_is_within f fd) (T : Txt K mg) (c_is_integer : Cl P w K mg base 1 "is_integer" (spIsInt K)) :
    FnOk P w K mg base CX0 2 f fd ["value", "least", "most"] (spWithin K) := by
  have nd := sc_is_within.nd
  refine F.ok sc_is_within (fun vs H Q E h => ?_) (fun cdv A outer s H vs Q E hr h => ?_)
  · obtain ⟨v, lo, hi, t, rfl, _⟩ := h
    rfl
  · obtain ⟨v, lo, hi, t, rfl, ht, hlo, hhi, q⟩ := h
    refine ⟨_, (pss_cons (ps_if (pt_not (pt_val (pe_f c_is_integer hr (by decide) (by rfl) (pa_cons (pv 0) pa_nil))))
 (pss_one (ps_ret pe_bl))
 pss_nil)
 (pss_cons (ps_if (PW.pt (pw_and (pt_cmpR op_notN (pv 1) pe_non (nomark _)) (pw_and1 (pt_cmpR op_lt (pv 0) (pv 1) (nomark _)))))
 (pss_one (ps_ret pe_bl))
 pss_nil)
 (pss_one (ps_ret (pe_or (pe_cmpR op_isN (pv 2) pe_non (nomark _)) (pe_one (pe_cmpR op_le (pv 0) (pv 2) (nomark _)))))))), ?_⟩
    refine ⟨_, rfl, v, t, rfl, ht, _, rfl, ?_⟩
    by_cases ei : (t == "int") = true
    · obtain ⟨i, rfl⟩ := tyb_int ht ei
      rw [ei]
      refine iteF ?_
      have up : ∀ lo', isW (.int i) lo' hi = isW (.int i) .non hi → Q (.bl (isW (.int i) lo' hi)) H → (tOrV (tOp (fun x y H Q => y = V.non ∧ Q (.bl (decide (x = .non))) H) (tVar 2) (tC .non)) (tOp (rI0 fun i j => .bl (decide (i ≤ j))) (tVar 0) (tVar 2))) [some (.int i), some lo', some hi] H Q := by
        intro lo' e1 q
        rw [e1] at q
        refine ⟨hi, rfl, rfl, _, rfl, ?_⟩
        rcases hhi with rfl | ⟨b, rfl⟩
        · exact q
        · refine (if_neg (by simp)).mpr ?_
          exact ⟨_, rfl, _, rfl, _, _, rfl, rfl, by simpa [isW] using q⟩
      refine ⟨lo, rfl, rfl, _, rfl, ?_⟩
      rcases hlo with rfl | ⟨a, rfl⟩
      · refine (if_neg (by decide)).mpr ?_
        refine iteF ?_
        exact up _ rfl q
      · refine (if_pos (by simp)).mpr ?_
        refine ⟨_, rfl, _, rfl, _, _, rfl, rfl, _, rfl, ?_⟩
        refine ite2 (fun e => ?_) (fun e => ?_)
        · have e2 : i < a := of_decide_eq_true e
          have e3 : isW (.int i) (.int a) hi = false := by
            show (decide (a ≤ i) && _) = false
            rw [decide_eq_false (by omega), Bool.false_and]
          rw [e3] at q
          exact q
        · have e2 : ¬ i < a := fun z => e (decide_eq_true z)
          refine up _ ?_ q
          show (decide (a ≤ i) && _) = (true && _)
          rw [decide_eq_true (by omega)]
          rfl
    · rw [Bool.eq_false_iff.mpr ei]
      refine iteT ?_
      rw [tyb_noint ht ei] at q
      exact q
end

/-! ### rows of signs, words -/
/-- all signs are 0 or 1 -/
def sg (a : List Nat) : Bool := a.all fun c => c == 48 || c == 49
/-- how high it stands behind these signs; none, where it went below -/
def hgt : Nat → List Nat → Option Nat
  | h, [] => some h
  | h, c :: r => if c = 49 then hgt (h + 1) r else match h with
    | 0 => none
    | k + 1 => hgt k r
theorem hgt_up (h : Nat) (r : List Nat) : hgt h (49 :: r) = hgt (h + 1) r := rfl
theorem hgt_zero {c : Nat} (e : c ≠ 49) (r : List Nat) : hgt 0 (c :: r) = none := by
  show (if c = 49 then _ else _) = _
  rw [if_neg e]
theorem hgt_down {c : Nat} (e : c ≠ 49) (k : Nat) (r : List Nat) : hgt (k + 1) (c :: r) = hgt k r := by
  show (if c = 49 then _ else _) = _
  rw [if_neg e]
theorem hgt_app : ∀ (a b : List Nat) (h : Nat), hgt h (a ++ b) = (hgt h a).bind fun k => hgt k b
  | [], b, h => rfl
  | c :: a, b, h => by
    rw [List.cons_append]
    by_cases e : c = 49
    · subst e
      rw [hgt_up, hgt_up]
      exact hgt_app a b _
    · cases h with
      | zero => rw [hgt_zero e, hgt_zero e]; rfl
      | succ k => rw [hgt_down e, hgt_down e]; exact hgt_app a b k
theorem sg_app (a b : List Nat) : sg (a ++ b) = (sg a && sg b) := List.all_append
def isWd (a : List Nat) : Bool := (sg a && (decide (2 ≤ a.length) && decide (a.length ≤ 400))) && (hgt 0 a == some 0)
theorem isWd_mk {a : List Nat} (h1 : sg a = true) (h2 : 2 ≤ a.length) (h3 : a.length ≤ 400) (h4 : hgt 0 a = some 0) : isWd a = true := by
  unfold isWd
  rw [h1, h4, decide_eq_true h2, decide_eq_true h3]
  rfl
theorem isWd_of {a : List Nat} (h : isWd a = true) : sg a = true ∧ 2 ≤ a.length ∧ a.length ≤ 400 ∧ hgt 0 a = some 0 := by
  unfold isWd at h
  simp only [Bool.and_eq_true, decide_eq_true_eq, beq_iff_eq] at h
  exact ⟨h.1.1, h.1.2.1, h.1.2.2, h.2⟩
def sgV : V → Bool
  | .str z => sg z.cps.toList
  | _ => false
def wdV : V → Bool
  | .str z => isWd z.cps.toList
  | _ => false
/-- a text, if it is one, is no longer than a line -/
def Sht (v : V) : Prop := ∀ z, v = .str z → z.length ≤ sizeLine
theorem sht_S {a : List Nat} (h : a.length ≤ sizeLine) : Sht (.str (S a)) := fun z e => by
  cases e
  rw [S_len]
  exact h
theorem count_two : ∀ a : List Nat, a.count 48 + a.count 49 ≤ a.length ∧ (sg a = decide (a.count 48 + a.count 49 = a.length))
  | [] => ⟨Nat.le_refl _, rfl⟩
  | c :: a => by
    obtain ⟨h1, h2⟩ := count_two a
    have e : sg (c :: a) = ((c == 48 || c == 49) && sg a) := rfl
    rw [e, h2, List.count_cons, List.count_cons, List.length_cons]
    by_cases e0 : c = 48
    · subst e0
      refine ⟨by simp; omega, ?_⟩
      simp
      omega
    · by_cases e1 : c = 49
      · subst e1
        refine ⟨by simp; omega, ?_⟩
        simp
        omega
      · have f0 : (c == 48) = false := beq_false_of_ne e0
        have f1 : (c == 49) = false := beq_false_of_ne e1
        rw [f0, f1]
        refine ⟨by simp; omega, ?_⟩
        simp
        omega
theorem drop_at {α : Type} {a : List α} {i : Nat} {c : α} (h : a[i]? = some c) : a.drop i = c :: a.drop (i + 1) := by
  obtain ⟨hi, e⟩ := List.getElem?_eq_some_iff.mp h
  rw [List.drop_eq_getElem_cons hi, e]
theorem tyb_str {K : PySem.W.Frag} {H : Hp} {v : V} {t : String} (h : TyB K H v t) (e : (t == "str") = true) : ∃ a, v = .str (S a) := by
  cases h with
  | str z => exact ⟨z.cps.toList, by rw [S_tl]⟩
  | _ => exact absurd e (by decide)
theorem tyb_nostr {K : PySem.W.Frag} {H : Hp} {v : V} {t : String} (h : TyB K H v t) (e : ¬ (t == "str") = true) : sgV v = false ∧ wdV v = false := by
  cases h with
  | str z => exact absurd (by decide) e
  | _ => exact ⟨rfl, rfl⟩
theorem sub_str : ∀ t ∈ kinds, isSub t "str" = (t == "str") := by decide
def spSigns (K : PySem.W.Frag) : Sp := fun vs H Q _ => ∃ (v : V) (t : String), vs = [v] ∧ TyB K H v t ∧ Sht v ∧ Q (.bl (sgV v)) H
def spWord (K : PySem.W.Frag) : Sp := fun vs H Q _ => ∃ (v : V) (t : String), vs = [v] ∧ TyB K H v t ∧ Sht v ∧ Q (.bl (wdV v)) H
def spCkWord : Sp := fun vs H Q _ => ∃ (a : List Nat) (p : V), vs = [.str (S a), p] ∧ isWd a = true ∧ Q .non H
def spPairsIn : Sp := fun vs H Q _ => ∃ a : List Nat, vs = [.str (S a)] ∧ isWd a = true ∧ Q (.int (a.length / 2 : Nat)) H
section
variable {P : Program} {w : World} {K : PySem.W.Frag} {mg : Str → Option Value} {base : Heap}
theorem ok_is_signs {f : Addr} {fd : FuncData} (F : Fun K "is_signs" "is_signs" s_is_signs f fd) (T : Txt K mg) : FnOk P w K mg base CX0 1 f fd ["value"] (spSigns K) := by
  have nd := sc_is_signs.nd
  refine F.ok sc_is_signs (fun vs H Q E h => ?_) (fun cdv A outer s H vs Q E hr h => ?_)
  · obtain ⟨v, t, rfl, _⟩ := h
    rfl
  · obtain ⟨v, t, rfl, ht, hz, q⟩ := h
    refine ⟨_, (pss_one (ps_ret (pe_and (pe_callB call_is (by rfl) T.n_isinstance (by decide +kernel) (pa_cons (pv 0) (pa_cons (pe_bltn (v := .ty "str") (by rfl) T.n_str (by decide +kernel) rfl) pa_nil))) (pe_one (pe_cmpR op_eq (pe_op op_add (pe_m1 PySem.F.slot_str_count PySem.F.type_str_count mt_countS (pv 0) (pe_lit (l := [48]) (by decide +kernel))) (pe_m1 PySem.F.slot_str_count PySem.F.type_str_count mt_countS (pv 0) (pe_lit (l := [49]) (by decide +kernel)))) (pe_callB call_len_S (by rfl) T.n_len (by decide +kernel) (pa_cons (pv 0) pa_nil)) (nomark _)))))), ?_⟩
    refine ⟨_, rfl, v, t, "str", rfl, ht, by decide, _, rfl, ?_⟩
    rw [sub_str t (tyb_kind ht)]
    refine ite2 (fun e => ?_) (fun e => ?_)
    · obtain ⟨a, rfl⟩ := tyb_str ht e
      have ha : a.length ≤ sizeLine := by
        have := hz _ rfl
        rwa [S_len] at this
      have e2 : decide (V.int (((a.count 48 : Nat) : Int) + ((a.count 49 : Nat) : Int)) = V.int ((a.length : Nat) : Int)) = sg a := by
        rw [(count_two a).2]
        by_cases e3 : a.count 48 + a.count 49 = a.length
        · rw [decide_eq_true e3, decide_eq_true (by rw [← e3]; rfl)]
        · rw [decide_eq_false e3, decide_eq_false]
          intro z
          have := V.int.inj z
          omega
      refine ⟨_, rfl, ⟨_, rfl⟩, a, 48, rfl, rfl, _, rfl, ⟨_, rfl⟩, a, 49, rfl, rfl, _, _, rfl, rfl, _, rfl, a, rfl, ha, rfl, ?_⟩
      rw [e2]
      exact q
    · rw [(tyb_nostr ht e).1] at q
      exact q
end

/-! ### small data -/
theorem gd2b {K : PySem.W.Frag} {H : Hp} {p : Addr} {a b : Bool} (h : SqL K H p [.bl a, .bl b]) : GD K H (.ref p) (.list [.bool a, .bool b]) :=
  GD.of h (.cons (.bl _) (.cons (.bl _) .nil)) (by simp only [okDs, okD, Bool.and_self]) (by simp only [PyData.bulkAll, PyData.bulk]; decide) (by simp only [PyData.depthAll, PyData.depth]; decide)
theorem gd2i {K : PySem.W.Frag} {H : Hp} {p : Addr} {a b : Int} (h : SqL K H p [.int a, .int b]) (ha : a.natAbs.log2 < 900) (hb : b.natAbs.log2 < 900) : GD K H (.ref p) (.list [.int a, .int b]) :=
  GD.of h (.cons (.int _) (.cons (.int _) .nil)) (by simp only [okDs, okD, decide_eq_true ha, decide_eq_true hb, Bool.and_self]) (by simp only [PyData.bulkAll, PyData.bulk]; decide) (by simp only [PyData.depthAll, PyData.depth]; decide)
theorem dp_sgs {K : PySem.W.Frag} {H : Hp} : ∀ a : List Nat, DpAll K H (sgs a) (a.map fun c => PyData.str (S [c]))
  | [] => .nil
  | c :: cs => .cons (.str _) (dp_sgs cs)
theorem sh_sgs (a : List Nat) (ha : a.all (fun c => decide (c < 1114112)) = true) : SeqAt.shaped (.list (a.map fun c => PyData.str (S [c]))) = true := by
  have h : ∀ a : List Nat, a.all (fun c => decide (c < 1114112)) = true → PyData.canLayAll0 (a.map fun c => PyData.str (S [c])) = true ∧ PyData.depthAll (a.map fun c => PyData.str (S [c])) = 0 := by
    intro a
    induction a with
    | nil => exact fun _ => ⟨rfl, rfl⟩
    | cons c cs ih =>
      intro h
      rw [List.all_cons, Bool.and_eq_true] at h
      have e1 : PyData.canLay0 (PyData.str (S [c])) = true := by
        simp only [PyData.canLay0, PyData.strOk]
        rw [← Array.all_toList, List.all_eq_true]
        intro x hx
        have : x = c := by simpa using hx
        subst this
        exact h.1
      simp only [List.map_cons, PyData.canLayAll0, PyData.depthAll, PyData.depth, e1, (ih h.2).1, (ih h.2).2, Bool.and_self, Nat.max_self, and_self]
  unfold SeqAt.shaped
  simp only [PyData.canLay0, PyData.depth, (h a ha).1, (h a ha).2]
  rfl
theorem gdb {K : PySem.W.Frag} {H : Hp} {b : Bool} : GD K H (.bl b) (.bool b) := ⟨.bl _, by simp only [okD], by simp only [PyData.bulk]; decide, by simp only [PyData.depth]; decide⟩
theorem eqv_nil : ∀ ys : List Nat, PyData.eqv (.list (ys.map fun c => PyData.str (S [c]))) (.list []) = decide (ys = [])
  | [] => by rw [List.map_nil, decide_eq_true rfl]; exact SeqAt.eqv_refl _ (by decide)
  | c :: cs => by
    rw [decide_eq_false (List.cons_ne_nil _ _), List.map_cons]
    simp only [PyData.eqv, PyData.eqvAll]
def offs (r : List Nat) : List Nat := r.filter fun c => !decide (c ∈ [48, 49])
theorem offs_sg : ∀ r : List Nat, decide (offs r = []) = sg r
  | [] => rfl
  | c :: r => by
    have ih := offs_sg r
    unfold offs at ih ⊢
    have e : sg (c :: r) = ((c == 48 || c == 49) && sg r) := rfl
    rw [e, List.filter_cons]
    by_cases h : c ∈ [48, 49]
    · rw [decide_eq_true h]
      have h2 : (c == 48 || c == 49) = true := by simpa using h
      rw [h2, Bool.true_and, ← ih]
      rfl
    · rw [decide_eq_false h]
      have h2 : (c == 48 || c == 49) = false := by simpa using h
      rw [h2]
      simp

/-! ### odd values -/
def spOdd (K : PySem.W.Frag) : Sp := fun vs H Q _ => ∃ (g : Addr) (m : Nat), vs = [.ref g] ∧ GA H g m ∧ m + 10 < 1000000 ∧
  ∀ (H' : Hp) (v : V) (t : String), (∀ H'', Fm g H' H'' → TyB K H'' v t) → (∀ z, v = .str z → z.length ≤ 1000 ∧ (z.cps.toList.all fun c => decide (c < 1114112)) = true) → Fm g H H' → GA H' g (m + 3) → Q v H'
section
variable {P : Program} {w : World} {K : PySem.W.Frag} {mg : Str → Option Value} {base : Heap}
theorem ok__law_is_number {f : Addr} {fd : FuncData} (F : Fun K "_law_is_number" "_law_is_number" s__law_is_number f fd) (T : Txt K mg) : FnOk P w K mg base CX0 1 f fd ["value"] (spIsInt K) := by
  have nd := sc__law_is_number.nd
  refine F.ok sc__law_is_number (fun vs H Q E h => ?_) (fun cdv A outer s H vs Q E hr h => ?_)
  · obtain ⟨v, t, rfl, _⟩ := h
    rfl
  · obtain ⟨v, t, rfl, ht, q⟩ := h
    refine ⟨_, (pss_one (ps_ret (pe_and (pe_callB call_is (by rfl) T.n_isinstance (by decide +kernel) (pa_cons (pv 0) (pa_cons (pe_bltn (v := .ty "int") (by rfl) T.n_int (by decide +kernel) rfl) pa_nil))) (pe_one (pe_not (pe_callB call_is (by rfl) T.n_isinstance (by decide +kernel) (pa_cons (pv 0) (pa_cons (pe_bltn (v := .ty "bool") (by rfl) T.n_bool (by decide +kernel) rfl) pa_nil)))))))), ?_⟩
    rw [← ty_only t (tyb_kind ht)] at q
    refine ⟨_, rfl, v, t, "int", rfl, ht, by decide, _, rfl, ?_⟩
    refine ite2 (fun e => ?_) (fun e => ?_)
    · rw [if_pos e] at q
      exact ⟨_, rfl, v, t, "bool", rfl, ht, by decide, _, rfl, q⟩
    · rw [if_neg e] at q
      exact q
theorem ok__law_odd {f : Addr} {fd : FuncData} (F : Fun K "_law_odd" "_law_odd" s__law_odd f fd) (T : Txt K mg) (c__law_tick : Cl P w K mg base 1 "_law_tick" spTick) (c__law_dial : Cl P w K mg base 2 "_law_dial" (spDial K)) :
    FnOk P w K mg base CX0 3 f fd ["gauge"] (spOdd K) := by
  have nd := sc__law_odd.nd
  refine F.ok sc__law_odd (fun vs H Q E h => ?_) (fun cdv A outer s H vs Q E hr h => ?_)
  · obtain ⟨g, m, rfl, _⟩ := h
    rfl
  · obtain ⟨g, m, rfl, hG, hm, q⟩ := h
    have hu64 := hr.units
    refine ⟨_, (pss_cons (ps_set (i := 1) nd rfl (by first | exact Or.inl rfl | exact Or.inr rfl) (pe_f c__law_dial hr (by decide) (by rfl) (pa_cons (pv 0) (pa_cons (pe_lst (pa_cons pe_int (pa_cons pe_int (pa_cons pe_int (pa_cons pe_int (pa_cons pe_int (pa_cons (pe_un un_neg pe_int) (pa_cons (pe_op op_pow pe_int pe_int) (pa_cons (pe_un un_neg (pe_op op_pow pe_int pe_int)) (pa_cons (pe_f c__law_tick hr (by decide) (by rfl) (pa_cons (pv 0) (pa_cons pe_int pa_nil))) pa_nil)))))))))) pa_nil))))
 (pss_one (ps_ret (pe_f c__law_dial hr (by decide) (by rfl) (pa_cons (pv 0) (pa_cons (pe_lst (pa_cons (pv 1) (pa_cons (pv 1) (pa_cons pe_non (pa_cons pe_bl (pa_cons pe_bl (pa_cons (pe_callTy call_str_int (by rfl) T.n_str (by decide +kernel) (pa_cons (pv 1) pa_nil)) (pa_cons (pe_lst (pa_cons (pv 1) pa_nil)) (pa_cons (pe_tup (pa_cons (pv 1) pa_nil)) (pa_cons pe_dnewK (pa_cons (pe_disp (pps_cons (pv 1) pe_int pps_nil) (by rfl) (by rfl) (by decide) (by decide)) (pa_cons (pe_lit (l := []) (by decide +kernel)) (pa_cons (pe_lst pa_nil) (pa_cons (pe_tup pa_nil) pa_nil)))))))))))))) pa_nil)))))), ?_⟩
    refine ⟨_, rfl, _, rfl, _, _, rfl, rfl, ⟨by decide, by decide, by decide⟩, _, _, rfl, rfl, ⟨by decide, by decide, by decide⟩, _, rfl, _, rfl, g, m, 9000, rfl, hG, by omega, by decide, pow_ok (by decide) (by decide), fun H1 t a0 b0 fa Ga => ?_⟩
    refine ⟨by show 9 ≤ sizeLine; decide, fun L nL => ?_⟩
    have nLg : L ≠ g := fun e => by
      subst e
      exact Ga.some nL
    refine ⟨g, L, _, _, rfl, Ga.new nL, by omega, SqL.of upd_same, nLg, by show 0 < 9; decide, by show 9 < 1000; decide, fun H0 u hu fb G0 => ?_⟩
    have f0 : Fm g H H0 := (fa.trans (Fm.new nL)).trans fb
    obtain ⟨k, rfl, hk⟩ : ∃ k : Int, u = .int k ∧ k.natAbs.log2 < 900 := by
      simp only [List.mem_cons, List.not_mem_nil, or_false] at hu
      rcases hu with h | h | h | h | h | h | h | h | h
      all_goals first | exact ⟨_, h, by decide⟩ | skip
      refine ⟨_, h, ?_⟩
      exact log2_of_lt (by decide) (Nat.lt_of_lt_of_le (by omega : t.natAbs < 2 ^ 14) (Nat.pow_le_pow_right (by decide) (by decide)))
    have tl := int_text_length_le (a := k) (k := 900) (by decide) hk
    refine ⟨_, rfl, _, rfl, _, rfl, _, rfl, k, rfl, by omega, _, rfl, by show 1 ≤ sizeLine; decide, fun A1 nA1 => ?_⟩
    have gA1 : A1 ≠ g := fun e => by
      subst e
      exact G0.some nA1
    have hA1 : (upd H0 A1 (.lst [.int k])) A1 = some (.lst [.int k]) := upd_same
    have G1 := G0.new (o := .lst [.int k]) nA1
    have f1 := f0.trans (Fm.new (o := .lst [.int k]) nA1)
    generalize upd H0 A1 (.lst [.int k]) = H1 at hA1 G1 f1 ⊢
    refine ⟨_, rfl, by show 1 ≤ sizeLine; decide, fun A2 nA2 => ?_⟩
    have gA2 : A2 ≠ g := fun e => by
      subst e
      exact G1.some nA2
    have hA2 : (upd H1 A2 (.tup [.int k])) A2 = some (.tup [.int k]) := upd_same
    have G2 := G1.new (o := .tup [.int k]) nA2
    have f2 := f1.trans (Fm.new (o := .tup [.int k]) nA2)
    replace hA1 := same_new (o := .tup [.int k]) nA2 _ _ hA1
    generalize upd H1 A2 (.tup [.int k]) = H2 at hA1 hA2 G2 f2 ⊢
    refine fun A3 nA3 => ?_
    have gA3 : A3 ≠ g := fun e => by
      subst e
      exact G2.some nA3
    have hA3 : (upd H2 A3 (.dK [])) A3 = some (.dK []) := upd_same
    have G3 := G2.new (o := .dK []) nA3
    have f3 := f2.trans (Fm.new (o := .dK []) nA3)
    replace hA1 := same_new (o := .dK []) nA3 _ _ hA1
    replace hA2 := same_new (o := .dK []) nA3 _ _ hA2
    generalize upd H2 A3 (.dK []) = H3 at hA1 hA2 hA3 G3 f3 ⊢
    refine fun A4 nA4 => ⟨_, rfl, upd_same, [(Sum.inl k, .int 1)], rfl, by show 1 ≤ 15; decide, ?_⟩
    rw [upd_upd]
    show tCons _ _ _ _ _
    have gA4 : A4 ≠ g := fun e => by
      subst e
      exact G3.some nA4
    have hA4 : (upd H3 A4 (HO.dK (mergeK [] [(Sum.inl k, V.int 1)]))) A4 = some (HO.dK (mergeK [] [(Sum.inl k, V.int 1)])) := upd_same
    have G4 := G3.new (o := HO.dK (mergeK [] [(Sum.inl k, V.int 1)])) nA4
    have f4 := f3.trans (Fm.new (o := HO.dK (mergeK [] [(Sum.inl k, V.int 1)])) nA4)
    replace hA1 := same_new (o := HO.dK (mergeK [] [(Sum.inl k, V.int 1)])) nA4 _ _ hA1
    replace hA2 := same_new (o := HO.dK (mergeK [] [(Sum.inl k, V.int 1)])) nA4 _ _ hA2
    replace hA3 := same_new (o := HO.dK (mergeK [] [(Sum.inl k, V.int 1)])) nA4 _ _ hA3
    generalize upd H3 A4 (HO.dK (mergeK [] [(Sum.inl k, V.int 1)])) = H4 at hA1 hA2 hA3 hA4 G4 f4 ⊢
    refine ⟨by show 0 ≤ sizeLine; decide, fun A5 nA5 => ?_⟩
    have gA5 : A5 ≠ g := fun e => by
      subst e
      exact G4.some nA5
    have hA5 : (upd H4 A5 (.lst [])) A5 = some (.lst []) := upd_same
    have G5 := G4.new (o := .lst []) nA5
    have f5 := f4.trans (Fm.new (o := .lst []) nA5)
    replace hA1 := same_new (o := .lst []) nA5 _ _ hA1
    replace hA2 := same_new (o := .lst []) nA5 _ _ hA2
    replace hA3 := same_new (o := .lst []) nA5 _ _ hA3
    replace hA4 := same_new (o := .lst []) nA5 _ _ hA4
    generalize upd H4 A5 (.lst []) = H5 at hA1 hA2 hA3 hA4 hA5 G5 f5 ⊢
    refine ⟨by show 0 ≤ sizeLine; decide, fun A6 nA6 => ?_⟩
    have gA6 : A6 ≠ g := fun e => by
      subst e
      exact G5.some nA6
    have hA6 : (upd H5 A6 (.tup [])) A6 = some (.tup []) := upd_same
    have G6 := G5.new (o := .tup []) nA6
    have f6 := f5.trans (Fm.new (o := .tup []) nA6)
    replace hA1 := same_new (o := .tup []) nA6 _ _ hA1
    replace hA2 := same_new (o := .tup []) nA6 _ _ hA2
    replace hA3 := same_new (o := .tup []) nA6 _ _ hA3
    replace hA4 := same_new (o := .tup []) nA6 _ _ hA4
    replace hA5 := same_new (o := .tup []) nA6 _ _ hA5
    generalize upd H5 A6 (.tup []) = H6 at hA1 hA2 hA3 hA4 hA5 hA6 G6 f6 ⊢
    refine ⟨by show 13 ≤ sizeLine; decide, fun A7 nA7 => ?_⟩
    have gA7 : A7 ≠ g := fun e => by
      subst e
      exact G6.some nA7
    have hA7 : (upd H6 A7 (.lst [.int k, .int k, .non, .bl true, .bl false, .str (Str.ofString (toString k)), .ref A1, .ref A2, .ref A3, .ref A4, .str (S []), .ref A5, .ref A6])) A7 = some (.lst [.int k, .int k, .non, .bl true, .bl false, .str (Str.ofString (toString k)), .ref A1, .ref A2, .ref A3, .ref A4, .str (S []), .ref A5, .ref A6]) := upd_same
    have G7 := G6.new (o := .lst [.int k, .int k, .non, .bl true, .bl false, .str (Str.ofString (toString k)), .ref A1, .ref A2, .ref A3, .ref A4, .str (S []), .ref A5, .ref A6]) nA7
    have f7 := f6.trans (Fm.new (o := .lst [.int k, .int k, .non, .bl true, .bl false, .str (Str.ofString (toString k)), .ref A1, .ref A2, .ref A3, .ref A4, .str (S []), .ref A5, .ref A6]) nA7)
    replace hA1 := same_new (o := .lst [.int k, .int k, .non, .bl true, .bl false, .str (Str.ofString (toString k)), .ref A1, .ref A2, .ref A3, .ref A4, .str (S []), .ref A5, .ref A6]) nA7 _ _ hA1
    replace hA2 := same_new (o := .lst [.int k, .int k, .non, .bl true, .bl false, .str (Str.ofString (toString k)), .ref A1, .ref A2, .ref A3, .ref A4, .str (S []), .ref A5, .ref A6]) nA7 _ _ hA2
    replace hA3 := same_new (o := .lst [.int k, .int k, .non, .bl true, .bl false, .str (Str.ofString (toString k)), .ref A1, .ref A2, .ref A3, .ref A4, .str (S []), .ref A5, .ref A6]) nA7 _ _ hA3
    replace hA4 := same_new (o := .lst [.int k, .int k, .non, .bl true, .bl false, .str (Str.ofString (toString k)), .ref A1, .ref A2, .ref A3, .ref A4, .str (S []), .ref A5, .ref A6]) nA7 _ _ hA4
    replace hA5 := same_new (o := .lst [.int k, .int k, .non, .bl true, .bl false, .str (Str.ofString (toString k)), .ref A1, .ref A2, .ref A3, .ref A4, .str (S []), .ref A5, .ref A6]) nA7 _ _ hA5
    replace hA6 := same_new (o := .lst [.int k, .int k, .non, .bl true, .bl false, .str (Str.ofString (toString k)), .ref A1, .ref A2, .ref A3, .ref A4, .str (S []), .ref A5, .ref A6]) nA7 _ _ hA6
    generalize upd H6 A7 (.lst [.int k, .int k, .non, .bl true, .bl false, .str (Str.ofString (toString k)), .ref A1, .ref A2, .ref A3, .ref A4, .str (S []), .ref A5, .ref A6]) = H7 at hA1 hA2 hA3 hA4 hA5 hA6 hA7 G7 f7 ⊢
    refine ⟨g, A7, _, _, rfl, G7, by omega, SqL.of hA7, gA7, by show 0 < 13; decide, by show 13 < 1000; decide, fun H8 v hv f8 G8 => ?_⟩
    have fz : ∀ H'', Fm g H8 H'' → Fm g H7 H'' := fun _ h => f8.trans h
    have q' : ∀ t, (∀ H'', Fm g H8 H'' → TyB K H'' v t) → (∀ z, v = .str z → z.length ≤ 1000 ∧ (z.cps.toList.all fun c => decide (c < 1114112)) = true) → Q v H8 := fun t h1 h2 => q H8 v t h1 h2 (f7.trans f8) (G8.mono (by omega))
    simp only [List.mem_cons, List.not_mem_nil, or_false] at hv
    have txt : (Str.ofString (toString k)).length ≤ 1000 ∧ ((Str.ofString (toString k)).cps.toList.all fun c => decide (c < 1114112)) = true := by
      constructor
      · have h4 := PySem.ofString_length (toString k)
        omega
      · rw [Str.ofString_eq_toList, List.all_eq_true]
        intro c hc
        obtain ⟨x, _, rfl⟩ := List.mem_map.mp (by simpa using hc : c ∈ (toString k).toList.map Char.toNat)
        have h := x.valid
        rcases h with h | h
        · exact decide_eq_true (Nat.lt_trans h (by decide))
        · exact decide_eq_true h.2
    rcases hv with h | h | h | h | h | h | h | h | h | h | h | h | h <;> subst h
    · exact q' _ (fun _ _ => .int _) nofun
    · exact q' _ (fun _ _ => .int _) nofun
    · exact q' _ (fun _ _ => .non) nofun
    · exact q' _ (fun _ _ => .bl _) nofun
    · exact q' _ (fun _ _ => .bl _) nofun
    · exact q' _ (fun _ _ => .str _) (fun z e => by cases e; exact txt)
    · exact q' _ (fun _ h => .lst (SqL.of ((fz _ h).k _ _ gA1 hA1))) nofun
    · exact q' _ (fun _ h => .tup (SqT.of ((fz _ h).k _ _ gA2 hA2))) nofun
    · exact q' _ (fun _ h => .dK ((fz _ h).k _ _ gA3 hA3)) nofun
    · exact q' _ (fun _ h => .dK ((fz _ h).k _ _ gA4 hA4)) nofun
    · exact q' _ (fun _ _ => .str _) (fun z e => by cases e; exact ⟨Nat.zero_le _, rfl⟩)
    · exact q' _ (fun _ h => .lst (SqL.of ((fz _ h).k _ _ gA5 hA5))) nofun
    · exact q' _ (fun _ h => .tup (SqT.of ((fz _ h).k _ _ gA6 hA6))) nofun
end
theorem in_two (c : Nat) : inV (.str (S [c])) [.str (S [48]), .str (S [49])] = decide (c ∈ [48, 49]) := by
  have e : ∀ d : Nat, eqV (.str (S [d])) (.str (S [c])) = (d == c) := fun d => by
    show (S [d] == S [c]) = _
    rw [SX.S_beq]
    show ((d == c) && true) = _
    rw [Bool.and_true]
  unfold inV
  rw [List.any_cons, List.any_cons, List.any_nil, e, e, Bool.or_false]
  by_cases h : c = 48
  · subst h; rfl
  · by_cases h1 : c = 49
    · subst h1; rfl
    · rw [beq_false_of_ne (Ne.symm h), beq_false_of_ne (Ne.symm h1), decide_eq_false (by simp [h, h1])]
      rfl
theorem due_rule {K : PySem.W.Frag} {σ : L2.St} {H : Hp} {C : VK} {x lo hi : V} {t : String} (hx : σ[6]? = some (some x)) (hlo : σ[7]? = some (some lo)) (hhi : σ[8]? = some (some hi)) (ht : TyB K H x t) (bl : Bd lo) (bh : Bd hi) (q : C (.bl (isW x lo hi)) H) :
    (tAndV (tF (spIsInt K) (tCons (tVar 6) tNil)) (tAndV (tOrV (tOp (fun x y H Q => y = V.non ∧ Q (V.bl (decide (x = V.non))) H) (tVar 7) (tC V.non)) (tOp (rI0 fun i j => V.bl (decide (j ≤ i))) (tVar 6) (tVar 7)))
      (tOrV (tOp (fun x y H Q => y = V.non ∧ Q (V.bl (decide (x = V.non))) H) (tVar 8) (tC V.non)) (tOp (rI0 fun i j => V.bl (decide (i ≤ j))) (tVar 6) (tVar 8))))) σ H C := by
  refine ⟨x, hx, x, t, rfl, ht, _, rfl, ?_⟩
  refine ite2 (fun e => ?_) (fun e => ?_)
  · obtain ⟨i, rfl⟩ := tyb_int ht e
    have up : ∀ b : Bool, isW (.int i) lo hi = (b && isW (.int i) .non hi) → b = true → (tOrV (tOp (fun x y H Q => y = V.non ∧ Q (V.bl (decide (x = V.non))) H) (tVar 8) (tC V.non)) (tOp (rI0 fun i j => V.bl (decide (i ≤ j))) (tVar 6) (tVar 8))) σ H C := by
      rintro b h1 rfl
      rw [h1, Bool.true_and] at q
      refine ⟨hi, hhi, rfl, _, rfl, ?_⟩
      rcases bh with rfl | ⟨c, rfl⟩
      · exact q
      · refine (if_neg (by simp)).mpr ?_
        exact ⟨_, hx, _, hhi, _, _, rfl, rfl, by simpa [isW] using q⟩
    refine ⟨lo, hlo, rfl, _, rfl, ?_⟩
    rcases bl with rfl | ⟨b, rfl⟩
    · refine ⟨_, rfl, ?_⟩
      refine iteT (up true rfl rfl)
    · refine (if_neg (by simp)).mpr ?_
      refine ⟨_, hx, _, hlo, _, _, rfl, rfl, _, rfl, ?_⟩
      refine ite2 (fun e2 => ?_) (fun e2 => ?_)
      · refine up (decide (b ≤ i)) ?_ e2
        show (decide (b ≤ i) && _) = _
        rfl
      · have e3 : isW (.int i) (.int b) hi = false := by
          show (decide (b ≤ i) && _) = false
          rw [decide_eq_false (fun z => e2 (decide_eq_true z)), Bool.false_and]
        rw [e3] at q
        exact q
  · rw [tyb_noint ht e] at q
    exact q
def spLaw (K : PySem.W.Frag) : Sp := fun vs H Q _ => ∃ (a : Addr) (ns : List Int), vs = [.ref a] ∧ SqL K H a (ns.map V.int) ∧ ns.length ≤ 63 ∧ ∀ H', Q (.bl true) H'
theorem law_end : ∀ (K : PySem.W.Frag) (H : Hp) (a : Addr) (ns : List Int), ns.length ≤ 63 → SqL K H a (ns.map V.int) → spLaw K [.ref a] H (fun v _ => v = .bl true) fun _ _ _ => False :=
  fun _ _ a ns hl hS => ⟨a, ns, rfl, hS, hl, fun _ => rfl⟩
section
variable {P : Program} {w : World} {K : PySem.W.Frag} {mg : Str → Option Value} {base : Heap}
theorem ok_law {f : Addr} {fd : FuncData} (F : Fun K "law" "law" s_law f fd) (T : Txt K mg) (c__law_gauge : Cl P w K mg base 1 "_law_gauge" (spGauge K)) (c__law_tick : Cl P w K mg base 1 "_law_tick" spTick)
    (c__law_dial : Cl P w K mg base 2 "_law_dial" (spDial K)) (c__law_is_number : Cl P w K mg base 1 "_law_is_number" (spIsInt K)) (c__law_odd : Cl P w K mg base 3 "_law_odd" (spOdd K))
    (c_is_integer : Cl P w K mg base 1 "is_integer" (spIsInt K)) (ck_is_integer_value : ClK P w K mg base 1 "is_integer" ["value"] (pick [0]) (spIsInt K))
    (c_is_within : Cl P w K mg base 2 "is_within" (spWithin K)) (ck_is_within_most_least_value : ClK P w K mg base 2 "is_within" ["most", "least", "value"] (pick [2, 1, 0]) (spWithin K))
    (c_is_signs : Cl P w K mg base 1 "is_signs" (spSigns K)) (ck_is_signs_value : ClK P w K mg base 1 "is_signs" ["value"] (pick [0]) (spSigns K)) : FnG P w K mg base CX0 4 f fd ["script"] (spLaw K) := by
  have nd := sc_law.nd
  refine okG F sc_law (fun vs H Q E h => ?_) (fun cdv A outer s H vs Q E gd hr h => ?_)
  · obtain ⟨a, ns, rfl, _⟩ := h
    rfl
  · obtain ⟨a, ns, rfl, hS, hl, q⟩ := h
    have hu64 := hr.units
    refine ⟨_, (pss_cons (ps_set (i := 1) nd rfl (by first | exact Or.inl rfl | exact Or.inr rfl) (pe_f c__law_gauge hr (by decide) (by rfl) (pa_cons (pv 0) pa_nil)))
 (pss_cons (ps_for PassesOwn.never rfl (pi_range1 (by rfl) T.n_range (pa_cons pe_int pa_nil)) (pg_name (i := 2) nd rfl (by first | exact Or.inl rfl | exact Or.inr rfl))
 (pss_cons (ps_par3 (i := 3) (j := 4) (l := 5) rfl nd rfl rfl rfl (by decide) (by decide) (by decide) rfl rfl rfl (pa_cons (pe_f c__law_odd hr (by decide) (by rfl) (pa_cons (pv 1) pa_nil)) (pa_cons (pe_op op_sub (pe_f c__law_tick hr (by decide) (by rfl) (pa_cons (pv 1) (pa_cons pe_int pa_nil))) pe_int) (pa_cons (pe_op op_sub (pe_f c__law_tick hr (by decide) (by rfl) (pa_cons (pv 1) (pa_cons pe_int pa_nil))) pe_int) pa_nil))) (by rfl))
 (pss_cons (ps_for PassesOwn.never rfl (pi_tup (pe_tup (pa_cons (pv 3) (pa_cons (pv 4) (pa_cons (pv 5) (pa_cons (pe_op op_sub (pv 4) pe_int) (pa_cons (pe_op op_add (pv 5) pe_int) pa_nil))))))) (pg_name (i := 6) nd rfl (by first | exact Or.inl rfl | exact Or.inr rfl))
 (pss_cons (ps_for PassesOwn.never rfl (pi_tup (pe_tup (pa_cons (pe_tup (pa_cons (pv 4) (pa_cons (pv 5) pa_nil))) (pa_cons (pe_tup (pa_cons pe_non (pa_cons (pv 5) pa_nil))) (pa_cons (pe_tup (pa_cons (pv 4) (pa_cons pe_non pa_nil))) (pa_cons (pe_tup (pa_cons pe_non (pa_cons pe_non pa_nil))) pa_nil)))))) (pg_tup rfl (pgs_cons (pg_name (i := 7) nd rfl (by first | exact Or.inl rfl | exact Or.inr rfl)) (pgs_cons (pg_name (i := 8) nd rfl (by first | exact Or.inl rfl | exact Or.inr rfl)) pgs_nil)))
 (pss_cons (ps_set (i := 9) nd rfl (by first | exact Or.inl rfl | exact Or.inr rfl) (pe_and (pe_f c__law_is_number hr (by decide) (by rfl) (pa_cons (pv 6) pa_nil)) (pe_and (pe_or (pe_cmpR op_isN (pv 7) pe_non (nomark _)) (pe_one (pe_cmpR op_ge (pv 6) (pv 7) (nomark _)))) (pe_one (pe_or (pe_cmpR op_isN (pv 8) pe_non (nomark _)) (pe_one (pe_cmpR op_le (pv 6) (pv 8) (nomark _))))))))
 (pss_one (ps_if (PW.pt (pw_or (pt_cmpR op_ne (pe_callB (cr_show gd hu64) (by rfl) T.n_repr (by decide +kernel) (pa_cons (pe_f c_is_within hr (by decide) (by rfl) (pa_cons (pv 6) (pa_cons (pv 7) (pa_cons (pv 8) pa_nil)))) pa_nil)) (pe_callB (cr_show gd hu64) (by rfl) T.n_repr (by decide +kernel) (pa_cons (pv 9) pa_nil)) (nomark _)) (pw_or1 (pt_cmpR op_ne (pe_callB (cr_show gd hu64) (by rfl) T.n_repr (by decide +kernel) (pa_cons (pe_fk ck_is_within_most_least_value hr (by decide) (by rfl) (pk_cons (pv 8) (pk_cons (pv 7) (pk_cons (pv 6) pk_nil)))) pa_nil)) (pe_callB (cr_show gd hu64) (by rfl) T.n_repr (by decide +kernel) (pa_cons (pv 9) pa_nil)) (nomark _)))))
 (pss_one (ps_ret pe_bl))
 pss_nil))))
 (pss_one (ps_if (pt_cmpR op_ne (pe_callB (cr_show gd hu64) (by rfl) T.n_repr (by decide +kernel) (pa_cons (pe_lst (pa_cons (pe_f c_is_integer hr (by decide) (by rfl) (pa_cons (pv 6) pa_nil)) (pa_cons (pe_fk ck_is_integer_value hr (by decide) (by rfl) (pk_cons (pv 6) pk_nil)) pa_nil))) pa_nil)) (pe_callB (cr_show gd hu64) (by rfl) T.n_repr (by decide +kernel) (pa_cons (pe_op op_rep (pe_lst (pa_cons (pe_f c__law_is_number hr (by decide) (by rfl) (pa_cons (pv 6) pa_nil)) pa_nil)) pe_int) pa_nil)) (nomark _))
 (pss_one (ps_ret pe_bl))
 pss_nil))))
 (pss_cons (ps_set (i := 11) nd rfl (by first | exact Or.inl rfl | exact Or.inr rfl) (pe_m1 PySem.F.slot_str_join PySem.F.type_str_join mt_joinS (pe_lit (l := []) (by decide +kernel)) (pe_lc (own := [("place", 10)]) rfl nd (pi_range1 (by rfl) T.n_range (pa_cons (pe_f c__law_dial hr (by decide) (by rfl) (pa_cons (pv 1) (pa_cons (pe_lst (pa_cons pe_int (pa_cons pe_int (pa_cons pe_int (pa_cons pe_int (pa_cons pe_int pa_nil)))))) pa_nil))) pa_nil)) (blkOk_by (N := N_law) (sc := defScope s_law) (by decide +kernel)) (fun _ _ _ _ _ => (pg_name (i := 10) nd rfl (by first | exact Or.inl rfl | exact Or.inr rfl))) (fun _ _ _ _ _ => pts_nil) (fun _ _ _ _ _ => (pe_f c__law_dial hr (by decide) (by rfl) (pa_cons (pv 1) (pa_cons (pe_lst (pa_cons (pe_lit (l := [48]) (by decide +kernel)) (pa_cons (pe_lit (l := [49]) (by decide +kernel)) pa_nil))) pa_nil)))))))
 (pss_cons (ps_set (i := 12) nd rfl (by first | exact Or.inl rfl | exact Or.inr rfl) (pe_f c__law_tick hr (by decide) (by rfl) (pa_cons (pv 1) (pa_cons (pe_op op_add (pe_callB call_len_S (by rfl) T.n_len (by decide +kernel) (pa_cons (pv 11) pa_nil)) pe_int) pa_nil))))
 (pss_cons (ps_set (i := 13) nd rfl (by first | exact Or.inl rfl | exact Or.inr rfl) (pe_op op_add_S (pe_op op_add_S (pe_slice sl_S (pv 11) po_none (po_some (pv 12))) (pe_f c__law_dial hr (by decide) (by rfl) (pa_cons (pv 1) (pa_cons (pe_lst (pa_cons (pe_lit (l := [48]) (by decide +kernel)) (pa_cons (pe_lit (l := [49]) (by decide +kernel)) (pa_cons (pe_lit (l := [50]) (by decide +kernel)) (pa_cons (pe_lit (l := [32]) (by decide +kernel)) (pa_cons (pe_lit (l := [111]) (by decide +kernel)) (pa_cons (pe_lit (l := [45]) (by decide +kernel)) (pa_cons (pe_lit (l := [49, 48]) (by decide +kernel)) (pa_cons (pe_lit (l := [120]) (by decide +kernel)) (pa_cons (pe_lit (l := []) (by decide +kernel)) (pa_cons (pe_lit (l := [10]) (by decide +kernel)) (pa_cons (pe_lit (l := [48, 49, 32]) (by decide +kernel)) pa_nil)))))))))))) pa_nil)))) (pe_slice sl_S (pv 11) (po_some (pv 12)) po_none)))
 (pss_one (ps_for PassesOwn.never rfl (pi_tup (pe_tup (pa_cons (pv 11) (pa_cons (pv 13) (pa_cons (pv 3) (pa_cons (pe_callTy (call_list_S rfl) (by rfl) T.n_list (by decide +kernel) (pa_cons (pv 11) pa_nil)) (pa_cons (pe_callTy (call_tuple_S rfl) (by rfl) T.n_tuple (by decide +kernel) (pa_cons (pv 11) pa_nil)) (pa_cons (pe_disp (pps_cons (pv 11) pe_int pps_nil) (by rfl) (by rfl) (by decide) (by decide)) pa_nil)))))))) (pg_name (i := 14) nd rfl (by first | exact Or.inl rfl | exact Or.inr rfl))
 (pss_cons (ps_set (i := 9) nd rfl (by first | exact Or.inl rfl | exact Or.inr rfl) (pe_and (pe_callB call_is (by rfl) T.n_isinstance (by decide +kernel) (pa_cons (pv 14) (pa_cons (pe_bltn (v := .ty "str") (by rfl) T.n_str (by decide +kernel) rfl) pa_nil))) (pe_one (pe_cmpR (op_eqD hu64) (pe_lc (own := [("sign", 15)]) rfl nd (pi_str (pv 14)) (blkOk_by (N := N_law) (sc := defScope s_law) (by decide +kernel)) (fun _ _ _ _ _ => (pg_name (i := 15) nd rfl (by first | exact Or.inl rfl | exact Or.inr rfl))) (fun _ _ _ _ _ => (pts_one (pt_cmpR (show OpR _ _ (rIn K true) from op_notIn_seq) (pv 15) (pe_tup (pa_cons (pe_lit (l := [48]) (by decide +kernel)) (pa_cons (pe_lit (l := [49]) (by decide +kernel)) pa_nil))) (by rfl)))) (fun _ _ _ _ _ => (pv 15))) (pe_lst pa_nil) (nomark _)))))
 (pss_one (ps_if (pt_cmpR op_ne (pe_callB (cr_show gd hu64) (by rfl) T.n_repr (by decide +kernel) (pa_cons (pe_lst (pa_cons (pe_f c_is_signs hr (by decide) (by rfl) (pa_cons (pv 14) pa_nil)) (pa_cons (pe_fk ck_is_signs_value hr (by decide) (by rfl) (pk_cons (pv 14) pk_nil)) pa_nil))) pa_nil)) (pe_callB (cr_show gd hu64) (by rfl) T.n_repr (by decide +kernel) (pa_cons (pe_lst (pa_cons (pv 9) (pa_cons (pv 9) pa_nil))) pa_nil)) (nomark _))
 (pss_one (ps_ret pe_bl))
 pss_nil)))))))))))
 (pss_one (ps_ret pe_bl)))), ?_⟩
    refine ⟨_, rfl, a, ns, rfl, hS, hl, fun g H1 s1 ng hG => ?_⟩
    have lz : ∀ n : Nat, n ≤ 2000 → n ≤ sizeLine := fun n h => Nat.le_trans h (by decide)
    refine ⟨4, rfl, by decide, by decide, for_range (lo := 0) (n := 4) (fun i σ H' => ∃ v2 v3 v4 v5 v6 v7 v8 v9 v10 v11 v12 v13 v14 v15, σ = [some (.ref a), some (.ref g), v2, v3, v4, v5, v6, v7, v8, v9, v10, v11, v12, v13, v14, v15] ∧ GA H' g (2000 * i))
      ⟨none, none, none, none, none, none, none, none, none, none, none, none, none, none, rfl, hG⟩ ?_ ?_⟩
    · rintro i σ H2 hi ⟨v2, v3, v4, v5, v6, v7, v8, v9, v10, v11, v12, v13, v14, v15, rfl, hG⟩
      refine ⟨_, rfl, g, _, rfl, hG, by omega, fun H3 v t hv hz f1 G1 => ?_⟩
      refine ⟨_, rfl, g, _, 12, rfl, G1, by omega, by decide, pow_ok (by decide) (by decide), fun H4 l0 la lb f2 G2 => ?_⟩
      refine ⟨_, _, rfl, rfl, _, rfl, g, _, 12, rfl, G2, by omega, by decide, pow_ok (by decide) (by decide), fun H5 h0 ha hb f3 G3 => ?_⟩
      refine ⟨_, _, rfl, rfl, _, _, _, rfl, ?_⟩
      have fv : Fm g H3 H5 := f2.trans f3
      refine ⟨_, rfl, _, rfl, _, rfl, _, rfl, _, _, rfl, rfl, _, rfl, _, _, rfl, rfl, by show 5 ≤ sizeLine; decide, fun p np => ⟨p, rfl, ⟨_, SqT.of upd_same⟩, ?_⟩⟩
      have fp : Fm g H3 (upd H5 p (.tup [v, .int (l0 - 6), .int (h0 - 6), .int ((l0 - 6) - 1), .int ((h0 - 6) + 1)])) := fv.trans (Fm.new np)
      have Gp := G3.new np (o := .tup [v, .int (l0 - 6), .int (h0 - 6), .int ((l0 - 6) - 1), .int ((h0 - 6) + 1)])
      have hp : (upd H5 p (.tup [v, .int (l0 - 6), .int (h0 - 6), .int ((l0 - 6) - 1), .int ((h0 - 6) + 1)])) p = some (.tup [v, .int (l0 - 6), .int (h0 - 6), .int ((l0 - 6) - 1), .int ((h0 - 6) + 1)]) := upd_same
      obtain ⟨H6, e6⟩ : ∃ H6, H6 = upd H5 p (.tup [v, .int (l0 - 6), .int (h0 - 6), .int ((l0 - 6) - 1), .int ((h0 - 6) + 1)]) := ⟨_, rfl⟩
      rw [← e6] at fp Gp hp
      refine for_tup (K := K) (a := p) (xs := [v, .int (l0 - 6), .int (h0 - 6), .int ((l0 - 6) - 1), .int ((h0 - 6) + 1)]) (fun j σ H' => Same H6 H' ∧ ∃ v6 v7 v8 v9, σ = [some (.ref a), some (.ref g), some (.int (0 + (i : Int))), some v, some (.int (l0 - 6)), some (.int (h0 - 6)), v6, v7, v8, v9, v10, v11, v12, v13, v14, v15]) ⟨fun _ _ e => by rw [e6] at e; exact e, v6, v7, v8, v9, rfl⟩ ?_ ?_ ?_
      · rintro j σ H' hj ⟨sm, _⟩
        exact SqT.of (sm _ _ hp)
      · rintro j x σ H' hx ⟨sm, v6, v7, v8, v9, rfl⟩
        obtain ⟨tx, htx⟩ : ∃ tx, ∀ H'', Same H6 H'' → TyB K H'' x tx := by
          have hm := List.mem_of_getElem? hx
          simp only [List.mem_cons, List.not_mem_nil, or_false] at hm
          rcases hm with h | h | h | h | h <;> subst h
          · exact ⟨t, fun H'' s => hv H'' (fp.trans (Fm.of s))⟩
          all_goals exact ⟨_, fun _ _ => .int _⟩
        refine ⟨_, rfl, _, rfl, by show 2 ≤ sizeLine; decide, fun q1 n1 => ?_⟩
        refine ⟨_, rfl, by show 2 ≤ sizeLine; decide, fun q2 n2 => ?_⟩
        refine ⟨_, rfl, by show 2 ≤ sizeLine; decide, fun q3 n3 => ?_⟩
        refine ⟨by show 2 ≤ sizeLine; decide, fun q4 n4 => ?_⟩
        refine ⟨by show 4 ≤ sizeLine; decide, fun qq nq => ⟨qq, rfl, ⟨_, SqT.of upd_same⟩, ?_⟩⟩
        obtain ⟨H7, e7⟩ : ∃ H7, H7 = upd (upd (upd (upd (upd H' q1 (.tup [.int (l0 - 6), .int (h0 - 6)])) q2 (.tup [.non, .int (h0 - 6)])) q3 (.tup [.int (l0 - 6), .non])) q4 (.tup [.non, .non])) qq (.tup [.ref q1, .ref q2, .ref q3, .ref q4]) := ⟨_, rfl⟩
        have t1 : H7 q1 = some (.tup [.int (l0 - 6), .int (h0 - 6)]) := by rw [e7]; exact same_new nq _ _ (same_new n4 _ _ (same_new n3 _ _ (same_new n2 _ _ upd_same)))
        have t2 : H7 q2 = some (.tup [.non, .int (h0 - 6)]) := by rw [e7]; exact same_new nq _ _ (same_new n4 _ _ (same_new n3 _ _ upd_same))
        have t3 : H7 q3 = some (.tup [.int (l0 - 6), .non]) := by rw [e7]; exact same_new nq _ _ (same_new n4 _ _ upd_same)
        have t4 : H7 q4 = some (.tup [.non, .non]) := by rw [e7]; exact same_new nq _ _ upd_same
        have tq : H7 qq = some (.tup [.ref q1, .ref q2, .ref q3, .ref q4]) := by rw [e7]; exact upd_same
        have sm7 : Same H6 H7 := fun b o e => by rw [e7]; exact same_new nq _ _ (same_new n4 _ _ (same_new n3 _ _ (same_new n2 _ _ (same_new n1 _ _ (sm _ _ e)))))
        refine for_tup (K := K) (a := qq) (xs := [.ref q1, .ref q2, .ref q3, .ref q4]) (fun j σ H' => Same H7 H' ∧ ∃ v7 v8 v9, σ = [some (.ref a), some (.ref g), some (.int (0 + (i : Int))), some v, some (.int (l0 - 6)), some (.int (h0 - 6)), some x, v7, v8, v9, v10, v11, v12, v13, v14, v15]) ⟨fun _ _ e => by rw [e7] at e; exact e, v7, v8, v9, rfl⟩ ?_ ?_ ?_
        · rintro j σ H'' hj ⟨sm2, _⟩
          exact SqT.of (sm2 _ _ tq)
        · rintro j y σ H8 hy ⟨sm2, v7, v8, v9, rfl⟩
          obtain ⟨qj, lo, hi, rfl, hq, bl, bh⟩ : ∃ q lo hi, y = .ref q ∧ H7 q = some (.tup [lo, hi]) ∧ Bd lo ∧ Bd hi := by
            have hm := List.mem_of_getElem? hy
            simp only [List.mem_cons, List.not_mem_nil, or_false] at hm
            rcases hm with h | h | h | h <;> subst h
            · exact ⟨_, _, _, rfl, t1, .inr ⟨_, rfl⟩, .inr ⟨_, rfl⟩⟩
            · exact ⟨_, _, _, rfl, t2, .inl rfl, .inr ⟨_, rfl⟩⟩
            · exact ⟨_, _, _, rfl, t3, .inr ⟨_, rfl⟩, .inl rfl⟩
            · exact ⟨_, _, _, rfl, t4, .inl rfl, .inl rfl⟩
          have sm68 : Same H6 H8 := fun b o e => sm2 _ _ (sm7 _ _ e)
          have ht8 := htx _ sm68
          refine ⟨qj, _, rfl, SqT.of (sm2 _ _ hq), rfl, _, _, rfl, _, _, rfl, rfl, ?_⟩
          refine due_rule (x := x) (lo := lo) (hi := hi) rfl rfl rfl ht8 bl bh ?_
          refine ⟨_, rfl, _, rfl, _, rfl, x, lo, hi, tx, rfl, ht8, bl, bh, _, _, rfl, gdb, _, rfl, _, _, rfl, gdb, rfl, _, rfl, ?_⟩
          rw [decide_eq_true rfl]
          refine iteF ?_
          refine ⟨_, rfl, _, rfl, _, rfl, rfl, x, lo, hi, tx, rfl, ht8, bl, bh, _, _, rfl, gdb, _, rfl, _, _, rfl, gdb, rfl, _, rfl, ?_⟩
          rw [decide_eq_true rfl]
          exact iteF ⟨sm2, _, _, _, rfl⟩
        · rintro σ H8 ⟨sm2, v7, v8, v9, rfl⟩
          have sm68 : Same H6 H8 := fun b o e => sm2 _ _ (sm7 _ _ e)
          have ht8 := htx _ sm68
          refine ⟨_, rfl, x, tx, rfl, ht8, _, rfl, rfl, x, tx, rfl, ht8, by show 2 ≤ sizeLine; decide, fun p1 m1 => ⟨_, _, rfl, gd2b (SqL.of upd_same), ?_⟩⟩
          have ht9 := htx _ (fun b o e => same_new (o := .lst [.bl (tx == "int"), .bl (tx == "int")]) m1 _ _ (sm68 _ _ e))
          refine ⟨_, rfl, x, tx, rfl, ht9, by show 1 ≤ sizeLine; decide, fun p2 m2 => ?_⟩
          refine ⟨_, _, _, rfl, rfl, upd_same, by decide, by decide, by show 1 * 2 ≤ sizeLine; decide, fun p3 m3 => ⟨_, _, rfl, gd2b (SqL.of upd_same), rfl, _, rfl, ?_⟩⟩
          rw [decide_eq_true rfl]
          exact iteF ⟨fun b o e => same_new m3 _ _ (same_new m2 _ _ (same_new m1 _ _ (sm68 _ _ e))), _, _, _, _, rfl⟩
      · rintro σ H7 ⟨sm, v6, v7, v8, v9, rfl⟩
        have G7 := Gp.same sm
        have f7 : Fm g H3 H7 := fp.trans (Fm.of sm)
        refine ⟨⟨_, rfl⟩, _, rfl, by show 5 ≤ sizeLine; decide, fun L nL => ?_⟩
        have nLg : L ≠ g := fun e => by
          subst e
          exact G7.some nL
        refine ⟨g, L, _, _, rfl, G7.new nL, by omega, SqL.of upd_same, nLg, by show 0 < 5; decide, by show 5 < 1000; decide, fun H8 u hu f8 G8 => ?_⟩
        obtain ⟨n, rfl, hn⟩ : ∃ n : Nat, u = .int n ∧ n ≤ 600 := by
          simp only [List.mem_cons, List.not_mem_nil, or_false] at hu
          rcases hu with h | h | h | h | h
          · exact ⟨0, h, by decide⟩
          · exact ⟨1, h, by decide⟩
          · exact ⟨5, h, by decide⟩
          · exact ⟨30, h, by decide⟩
          · exact ⟨600, h, by decide⟩
        refine ⟨(n : Int), rfl, by omega, by omega, fun D nD => ?_⟩
        have nDg : D ≠ g := fun e => by
          subst e
          exact G8.some nD
        obtain ⟨ce, ce1, ce2⟩ := G8.off nD
        rw [Int.toNat_natCast]
        refine lc_range (lo := 0) (n := n) (fun j H' => Ce H' g ce ∧ ∃ ys : List (List Nat), ys.flatten.length = j ∧ ys.length = j ∧ (ys.flatten.all fun c => decide (c < 128)) = true ∧ H' D = some (.lst (ys.map fun y => .str (S y))) ∧ Fm g H8 H' ∧ GA H' g (2000 * i + 10 + j)) ?_ ?_ ?_
        · exact ⟨ce1.put nDg, [], rfl, rfl, rfl, upd_same, Fm.new nD, (G8.new nD).mono (by omega)⟩
        · rintro j H' hj ⟨cj, ys, y1, y2, y3, hD, fj, GJ⟩
          refine ⟨rfl, ?_⟩
          dsimp only [tYes]
          rw [if_pos rfl]
          refine ⟨_, rfl, by show 2 ≤ sizeLine; decide, fun L2 nL2 => ?_⟩
          have nL2g : L2 ≠ g := fun e => by
            subst e
            exact GJ.some nL2
          refine ⟨g, L2, _, _, rfl, GJ.new nL2, by omega, SqL.of upd_same, nL2g, by show 0 < 2; decide, by show 2 < 1000; decide, fun H' u hu f8 G8 => ?_⟩
          obtain ⟨c, rfl, c1⟩ : ∃ c : Nat, u = .str (S [c]) ∧ c < 128 := by
            simp only [List.mem_cons, List.not_mem_nil, or_false] at hu
            rcases hu with h | h <;> exact ⟨_, h, by decide⟩
          have hD' := f8.k D _ nDg (by rw [upd_ne (ne_of_none hD nL2)]; exact hD)
          have cj' : Ce H' g ce := f8.c _ ((Fm.new nL2).c _ cj)
          refine ⟨_, hD', ?_, cj'.put nDg, ys ++ [[c]], ?_, ?_, ?_, ?_, ?_, ?_⟩
          · rw [List.length_map, y2]
            exact small1000 (by omega)
          · rw [List.flatten_append, List.length_append, y1]; rfl
          · rw [List.length_append, y2]; rfl
          · rw [List.flatten_append, List.all_append, y3]
            show (true && ((decide (c < 128)) && true)) = true
            rw [decide_eq_true c1]
            rfl
          · rw [upd_same, List.map_append]; rfl
          · refine ⟨fun b o nb e => ?_, fun d h => ?_⟩
            · have nb2 : b ≠ D := ne_of_none e nD
              rw [upd_ne nb2]
              exact f8.k _ _ nb ((Fm.new nL2).k _ _ nb (fj.k _ _ nb e))
            · exact (f8.c _ ((Fm.new nL2).c _ (fj.c _ h))).put nDg
          · exact (G8.put cj' ce2 nDg).mono (by omega)
        · rintro H9 ⟨cj, ys, y1, y2, y3, hD, f9, G9⟩
          refine ⟨D, ys, rfl, rfl, .inl (SqL.of hD), by rw [y1]; omega, ?_⟩
          have f39 : Fm g H3 H9 := ((f7.trans (Fm.new nL)).trans f8).trans f9
          have lx : ys.flatten.length ≤ 600 := by omega
          show tSeq _ _ _ [some (.ref a), some (.ref g), _, some v, some (.int (l0 - 6)), some (.int (h0 - 6)), v6, v7, v8, v9, v10, some (.str (S ys.flatten)), v12, v13, v14, v15] H9
          generalize ys.flatten = sn at lx y3 ⊢
          refine ⟨_, rfl, _, rfl, sn, rfl, lz _ (by omega), _, _, rfl, rfl, g, _, (sn.length : Int) + 1, rfl, G9, by omega, by omega, pow_ok (by omega) (by omega), fun H10 at_ a0 b0 f10 G10 => ?_⟩
          obtain ⟨k, rfl⟩ : ∃ k : Nat, at_ = (k : Int) := ⟨at_.toNat, by omega⟩
          refine ⟨_, rfl, _, rfl, _, rfl, sn, rfl, lz _ (by omega), _, rfl, by show 11 ≤ sizeLine; decide, fun L3 nL3 => ?_⟩
          have nL3g : L3 ≠ g := fun e => by
            subst e
            exact G10.some nL3
          refine ⟨g, L3, _, _, rfl, G10.new nL3, by omega, SqL.of upd_same, nL3g, by show 0 < 11; decide, by show 11 < 1000; decide, fun H11 sv hv2 f11 G11 => ?_⟩
          obtain ⟨l, rfl, ll, la⟩ : ∃ l : List Nat, sv = .str (S l) ∧ l.length ≤ 3 ∧ (l.all fun c => decide (c < 128)) = true := by
            simp only [List.mem_cons, List.not_mem_nil, or_false] at hv2
            rcases hv2 with h | h | h | h | h | h | h | h | h | h | h <;> exact ⟨_, h, by decide, by decide⟩
          have aa : ∀ lo hi, ((cutN sn lo hi).all fun c => decide (c < 128)) = true := fun lo hi => by
            rw [List.all_eq_true] at y3 ⊢
            exact fun x hx => y3 x (List.mem_of_mem_drop (List.mem_of_mem_take hx))
          have cl : ∀ lo hi, (cutN sn lo hi).length ≤ sn.length := fun lo hi => cutN_len sn lo hi
          have c1 := cl none (some (k : Int))
          have c2 := cl (some (k : Int)) none
          refine ⟨_, _, rfl, rfl, lz _ (by omega), _, rfl, _, rfl, _, rfl, sn, rfl, lz _ (by omega), _, _, rfl, rfl, lz _ (by rw [List.length_append]; omega), ?_⟩
          have bl : (cutN sn none (some (k : Int)) ++ l ++ cutN sn (some (k : Int)) none).length ≤ 1300 := by rw [List.length_append, List.length_append]; omega
          have ba : ((cutN sn none (some (k : Int)) ++ l ++ cutN sn (some (k : Int)) none).all fun c => decide (c < 128)) = true := by rw [List.all_append, List.all_append, aa, aa, la]; rfl
          generalize cutN sn none (some (k : Int)) ++ l ++ cutN sn (some (k : Int)) none = bent at bl ba ⊢
          have f311 : Fm g H3 H11 := (((f39.trans f10).trans (Fm.new nL3)).trans f11)
          refine ⟨_, rfl, _, rfl, _, rfl, _, rfl, sn, rfl, lz _ (by omega), fun P1 m1 => ?_⟩
          refine ⟨_, rfl, sn, rfl, lz _ (by omega), fun P2 m2 => ?_⟩
          refine fun P3 m3 => ⟨_, rfl, upd_same, [(Sum.inr (S sn), .int 1)], rfl, by show 1 ≤ 15; decide, ?_⟩
          rw [upd_upd]
          refine ⟨by show 6 ≤ sizeLine; decide, fun P4 m4 => ⟨P4, rfl, ⟨_, SqT.of upd_same⟩, ?_⟩⟩
          obtain ⟨H12, e12⟩ : ∃ H12, H12 = upd (upd (upd (upd H11 P1 (.lst (sgs sn))) P2 (.tup (sgs sn))) P3 (.dK (mergeK [] [(Sum.inr (S sn), V.int 1)]))) P4 (.tup [.str (S sn), .str (S bent), v, .ref P1, .ref P2, .ref P3]) := ⟨_, rfl⟩
          have u1 : H12 P1 = some (.lst (sgs sn)) := by rw [e12]; exact same_new m4 _ _ (same_new m3 _ _ (same_new m2 _ _ upd_same))
          have u2 : H12 P2 = some (.tup (sgs sn)) := by rw [e12]; exact same_new m4 _ _ (same_new m3 _ _ upd_same)
          have u3 : H12 P3 = some (.dK (mergeK [] [(Sum.inr (S sn), V.int 1)])) := by rw [e12]; exact same_new m4 _ _ upd_same
          have u4 : H12 P4 = some (.tup [.str (S sn), .str (S bent), v, .ref P1, .ref P2, .ref P3]) := by rw [e12]; exact upd_same
          have G12 : GA H12 g (2000 * i + 700) := by rw [e12]; exact ((((G11.new m1).new m2).new m3).new m4).mono (by omega)
          have f312 : Fm g H3 H12 := by rw [e12]; exact (((f311.trans (Fm.new m1)).trans (Fm.new m2)).trans (Fm.new m3)).trans (Fm.new m4)
          refine for_tup (K := K) (a := P4) (xs := [.str (S sn), .str (S bent), v, .ref P1, .ref P2, .ref P3]) (fun j σ H' => Same H12 H' ∧ ∃ v9 v14 v15, σ = [some (.ref a), some (.ref g), some (.int (0 + (i : Int))), some v, some (.int (l0 - 6)), some (.int (h0 - 6)), v6, v7, v8, v9, v10, some (.str (S sn)), some (.int (k : Int)), some (.str (S bent)), v14, v15]) ⟨fun _ _ e => by rw [e12] at e; exact e, v9, v14, v15, rfl⟩ ?_ ?_ ?_
          · rintro j σ H' hj ⟨sm2, _⟩
            exact SqT.of (sm2 _ _ u4)
          · rintro j x σ H' hx ⟨sm2, v9, v14, v15, rfl⟩
            have wide : ∀ r : List Nat, (r.all fun c => decide (c < 128)) = true → (r.all fun c => decide (c < 1114112)) = true := fun r h => by
              rw [List.all_eq_true] at h ⊢
              exact fun c hc => decide_eq_true (Nat.lt_trans (of_decide_eq_true (h c hc)) (by decide))
            obtain ⟨tx, htx, hzx⟩ : ∃ tx, (∀ H'', Same H12 H'' → TyB K H'' x tx) ∧ (∀ z, x = .str z → z.length ≤ 2000 ∧ (z.cps.toList.all fun c => decide (c < 1114112)) = true) := by
              have hm := List.mem_of_getElem? hx
              simp only [List.mem_cons, List.not_mem_nil, or_false] at hm
              rcases hm with h | h | h | h | h | h <;> subst h
              · exact ⟨_, fun _ _ => .str _, fun z e => by cases e; exact ⟨by rw [S_len]; omega, wide _ y3⟩⟩
              · exact ⟨_, fun _ _ => .str _, fun z e => by cases e; exact ⟨by rw [S_len]; omega, wide _ ba⟩⟩
              · exact ⟨t, fun H'' s => hv H'' (f312.trans (Fm.of s)), fun z e => ⟨Nat.le_trans (hz z e).1 (by decide), (hz z e).2⟩⟩
              · exact ⟨_, fun _ s => .lst (SqL.of (s _ _ u1)), nofun⟩
              · exact ⟨_, fun _ s => .tup (SqT.of (s _ _ u2)), nofun⟩
              · exact ⟨_, fun _ s => .dK (s _ _ u3), nofun⟩
            have sz : Sht x := fun z e => lz _ (hzx z e).1
            have ht := htx _ sm2
            refine ⟨_, rfl, x, tx, "str", rfl, ht, by decide, _, rfl, ?_⟩
            rw [sub_str tx (tyb_kind ht)]
            refine ite2 (fun e => ?_) (fun e => ?_)
            · obtain ⟨r, rfl⟩ := tyb_str ht e
              have r2 : (r.all fun c => decide (c < 1114112)) = true := (hzx _ rfl).2
              have r3 : r.length ≤ 2000 := by have := (hzx _ rfl).1; rwa [S_len] at this
              refine ⟨_, rfl, S r, rfl, fun D nD => ?_⟩
              refine lc_S (a := r) (fun j H1 => Same H' H1 ∧ H1 D = some (.lst (sgs (offs (r.take j))))) ⟨same_new nD, upd_same⟩ ?_ ?_
              · rintro j c H1 hc ⟨sm1, hD⟩
                refine ⟨rfl, _, rfl, by show 2 ≤ sizeLine; decide, fun p5 n5 => ⟨p5, _, rfl, .inr (SqT.of upd_same), rfl, rfl, _, rfl, ?_⟩⟩
                have hD5 : (upd H1 p5 (.tup [.str (S [48]), .str (S [49])])) D = some (.lst (sgs (offs (r.take j)))) := same_new n5 _ _ hD
                have sm5 : Same H' (upd H1 p5 (.tup [.str (S [48]), .str (S [49])])) := fun b o e => same_new n5 _ _ (sm1 _ _ e)
                have et : offs (r.take (j + 1)) = offs (r.take j) ++ (if (!decide (c ∈ [48, 49])) = true then [c] else []) := by
                  have e1 : r.take (j + 1) = r.take j ++ [c] := by rw [List.take_add_one, hc]; rfl
                  unfold offs
                  rw [e1, List.filter_append, List.filter_cons, List.filter_nil]
                rw [if_pos rfl, in_two]
                refine ite2 (fun e => ?_) (fun e => ?_)
                · rw [if_pos e] at et
                  refine ⟨_, rfl, _, hD5, ?_, same_put sm5 nD, ?_⟩
                  · unfold sgs offs
                    rw [List.length_map]
                    have h1 := List.length_filter_le (fun c => !decide (c ∈ [48, 49])) (r.take j)
                    have h3 : (r.take j).length ≤ r.length := by rw [List.length_take]; exact Nat.min_le_right _ _
                    exact Nat.lt_of_lt_of_le (by omega : _ < 3000) (by decide)
                  · rw [upd_same, et]
                    unfold sgs
                    rw [List.map_append]
                    rfl
                · rw [if_neg e, List.append_nil] at et
                  exact ⟨sm5, by rw [et]; exact hD5⟩
              · rintro H1 ⟨sm1, hD⟩
                rw [List.take_length] at hD
                refine ⟨by show 0 ≤ sizeLine; decide, fun p0 np0 => ?_⟩
                have hD0 : (upd H1 p0 (.lst [])) D = some (.lst (sgs (offs r))) := by
                  rw [upd_ne (ne_of_none hD np0)]
                  exact hD
                have o128 : ((offs r).all fun c => decide (c < 1114112)) = true := by
                  rw [List.all_eq_true] at r2 ⊢
                  exact fun c hc => r2 c (List.mem_filter.mp hc).1
                refine ⟨.list ((offs r).map fun c => PyData.str (S [c])), .list [], .lst (SqL.of hD0) (dp_sgs _), .lst (SqL.of upd_same) .nil, sh_sgs _ o128, rfl, ?_⟩
                rw [eqv_nil]
                have sm6 : Same H12 (upd H1 p0 (.lst [])) := fun b o e => same_new np0 _ _ (sm1 _ _ (sm2 _ _ e))
                have ht6 := htx _ sm6
                have due : sgV (.str (S r)) = decide (offs r = []) := (offs_sg r).symm
                refine ⟨_, rfl, .str (S r), tx, rfl, ht6, sz, _, rfl, rfl, .str (S r), tx, rfl, ht6, sz, by show 2 ≤ sizeLine; decide, fun p1 np1 => ?_⟩
                refine ⟨_, _, rfl, gd2b (SqL.of upd_same), _, rfl, _, rfl, by show 2 ≤ sizeLine; decide, fun p2 np2 => ⟨_, _, rfl, gd2b (SqL.of upd_same), rfl, _, rfl, ?_⟩⟩
                rw [due] at np2
                rw [due, decide_eq_true rfl]
                exact iteF ⟨fun b o e => same_new np2 _ _ (same_new np1 _ _ (sm6 _ _ e)), _, _, _, rfl⟩
            · have due := (tyb_nostr ht e).1
              refine ⟨_, rfl, x, tx, rfl, ht, sz, _, rfl, rfl, x, tx, rfl, ht, sz, by show 2 ≤ sizeLine; decide, fun p1 np1 => ?_⟩
              refine ⟨_, _, rfl, gd2b (SqL.of upd_same), _, rfl, _, rfl, by show 2 ≤ sizeLine; decide, fun p2 np2 => ⟨_, _, rfl, gd2b (SqL.of upd_same), rfl, _, rfl, ?_⟩⟩
              rw [due] at np2
              rw [due, decide_eq_true rfl]
              exact iteF ⟨fun b o e => same_new np2 _ _ (same_new np1 _ _ (sm2 _ _ e)), _, _, _, rfl⟩
          · rintro σ H' ⟨sm2, v9, v14, v15, rfl⟩
            exact ⟨_, _, _, _, _, _, _, _, _, _, _, _, _, _, rfl, (G12.same sm2).mono (by omega)⟩
    · rintro σ H2 ⟨v2, v3, v4, v5, v6, v7, v8, v9, v10, v11, v12, v13, v14, v15, rfl, hG⟩
      exact q _
end

/-! ### what the top has written, the end -/
theorem all_mk {l : PySem.W.OpenLaw} {w : World} {K : PySem.W.Frag} {h : Heap} {mg : Str → Option Value} {fa f0 f1 f2 f3 f4 f5 f6 f7 f8 : Addr} (X : K.In h) (G : h.Ns mainGlobals mg) (hfa : mg "law" = some (.ref fa))
    {od0 an0 od1 an1 od2 an2 od3 an3 od4 an4 od5 an5 od6 an6 od7 an7 od8 an8 : Option Addr} {sl0 sl1 sl2 sl3 sl4 sl5 sl6 sl7 sl8 : Array (Option Value)} {oc0 kV0 dc0 pm0 cd0 ct0 oc1 kV1 dc1 pm1 cd1 ct1 oc2 kV2 dc2 pm2 cd2 ct2 oc3 kV3 dc3 pm3 cd3 ct3 oc4 kV4 dc4 pm4 cd4 ct4 oc5 kV5 dc5 pm5 cd5 ct5 oc6 kV6 dc6 pm6 cd6 ct6 oc7 kV7 dc7 pm7 cd7 ct7 oc8 kV8 dc8 pm8 cd8 ct8 : Value}
    (a0 : PySem.W.nsIn K mainGlobals "is_integer" = some (some (.ref f0)))
    (l0 : K.lookup f0 = some ⟨oc0, od0, .func (PySem.W.fnOf "is_integer" "is_integer" (defArgs s_is_integer) (defBody s_is_integer) (defScope s_is_integer) .none kV0 dc0 pm0 an0 cd0 ct0), sl0⟩)
    (c0 : PySem.W.codeIn K cd0 "is_integer" = true) (k0 : PySem.W.keepIn K (.ref f0) = true)
    (a1 : PySem.W.nsIn K mainGlobals "is_within" = some (some (.ref f1)))
    (l1 : K.lookup f1 = some ⟨oc1, od1, .func (PySem.W.fnOf "is_within" "is_within" (defArgs s_is_within) (defBody s_is_within) (defScope s_is_within) .none kV1 dc1 pm1 an1 cd1 ct1), sl1⟩)
    (c1 : PySem.W.codeIn K cd1 "is_within" = true) (k1 : PySem.W.keepIn K (.ref f1) = true)
    (a2 : PySem.W.nsIn K mainGlobals "is_signs" = some (some (.ref f2)))
    (l2 : K.lookup f2 = some ⟨oc2, od2, .func (PySem.W.fnOf "is_signs" "is_signs" (defArgs s_is_signs) (defBody s_is_signs) (defScope s_is_signs) .none kV2 dc2 pm2 an2 cd2 ct2), sl2⟩)
    (c2 : PySem.W.codeIn K cd2 "is_signs" = true) (k2 : PySem.W.keepIn K (.ref f2) = true)
    (a3 : PySem.W.nsIn K mainGlobals "_law_gauge" = some (some (.ref f3)))
    (l3 : K.lookup f3 = some ⟨oc3, od3, .func (PySem.W.fnOf "_law_gauge" "_law_gauge" (defArgs s__law_gauge) (defBody s__law_gauge) (defScope s__law_gauge) .none kV3 dc3 pm3 an3 cd3 ct3), sl3⟩)
    (c3 : PySem.W.codeIn K cd3 "_law_gauge" = true) (k3 : PySem.W.keepIn K (.ref f3) = true)
    (a4 : PySem.W.nsIn K mainGlobals "_law_tick" = some (some (.ref f4)))
    (l4 : K.lookup f4 = some ⟨oc4, od4, .func (PySem.W.fnOf "_law_tick" "_law_tick" (defArgs s__law_tick) (defBody s__law_tick) (defScope s__law_tick) .none kV4 dc4 pm4 an4 cd4 ct4), sl4⟩)
    (c4 : PySem.W.codeIn K cd4 "_law_tick" = true) (k4 : PySem.W.keepIn K (.ref f4) = true)
    (a5 : PySem.W.nsIn K mainGlobals "_law_dial" = some (some (.ref f5)))
    (l5 : K.lookup f5 = some ⟨oc5, od5, .func (PySem.W.fnOf "_law_dial" "_law_dial" (defArgs s__law_dial) (defBody s__law_dial) (defScope s__law_dial) .none kV5 dc5 pm5 an5 cd5 ct5), sl5⟩)
    (c5 : PySem.W.codeIn K cd5 "_law_dial" = true) (k5 : PySem.W.keepIn K (.ref f5) = true)
    (a6 : PySem.W.nsIn K mainGlobals "_law_is_number" = some (some (.ref f6)))
    (l6 : K.lookup f6 = some ⟨oc6, od6, .func (PySem.W.fnOf "_law_is_number" "_law_is_number" (defArgs s__law_is_number) (defBody s__law_is_number) (defScope s__law_is_number) .none kV6 dc6 pm6 an6 cd6 ct6), sl6⟩)
    (c6 : PySem.W.codeIn K cd6 "_law_is_number" = true) (k6 : PySem.W.keepIn K (.ref f6) = true)
    (a7 : PySem.W.nsIn K mainGlobals "_law_odd" = some (some (.ref f7)))
    (l7 : K.lookup f7 = some ⟨oc7, od7, .func (PySem.W.fnOf "_law_odd" "_law_odd" (defArgs s__law_odd) (defBody s__law_odd) (defScope s__law_odd) .none kV7 dc7 pm7 an7 cd7 ct7), sl7⟩)
    (c7 : PySem.W.codeIn K cd7 "_law_odd" = true) (k7 : PySem.W.keepIn K (.ref f7) = true)
    (a8 : PySem.W.nsIn K mainGlobals "law" = some (some (.ref f8)))
    (l8 : K.lookup f8 = some ⟨oc8, od8, .func (PySem.W.fnOf "law" "law" (defArgs s_law) (defBody s_law) (defScope s_law) .none kV8 dc8 pm8 an8 cd8 ct8), sl8⟩)
    (c8 : PySem.W.codeIn K cd8 "law" = true) (k8 : PySem.W.keepIn K (.ref f8) = true)
    (z_int : PySem.W.nsIn K mainGlobals "int" = some none)
    (z_len : PySem.W.nsIn K mainGlobals "len" = some none)
    (z_abs : PySem.W.nsIn K mainGlobals "abs" = some none)
    (z_range : PySem.W.nsIn K mainGlobals "range" = some none)
    (z_isinstance : PySem.W.nsIn K mainGlobals "isinstance" = some none)
    (z_repr : PySem.W.nsIn K mainGlobals "repr" = some none)
    (z_str : PySem.W.nsIn K mainGlobals "str" = some none)
    (z_bool : PySem.W.nsIn K mainGlobals "bool" = some none)
    (z_list : PySem.W.nsIn K mainGlobals "list" = some none)
    (z_tuple : PySem.W.nsIn K mainGlobals "tuple" = some none)
    : ∃ fd : FuncData, (∀ (s : Shared) (v : Value), BindsTo s fd ⟨[v], []⟩ [("script", v)]) ∧ ∀ base : Heap, K.In base → base.Ns mainGlobals mg → FnG l.prog w K mg base CX0 4 fa fd ["script"] (spLaw K) := by
  have e := hfa.symm.trans (PySem.W.mg_of X G a8)
  cases e
  have T : Txt K mg := ⟨PySem.W.mg_none_of X G z_int, PySem.W.mg_none_of X G z_len, PySem.W.mg_none_of X G z_abs, PySem.W.mg_none_of X G z_range, PySem.W.mg_none_of X G z_isinstance, PySem.W.mg_none_of X G z_repr, PySem.W.mg_none_of X G z_str, PySem.W.mg_none_of X G z_bool, PySem.W.mg_none_of X G z_list, PySem.W.mg_none_of X G z_tuple⟩
  have F0 := fun_mk (st := s_is_integer) l0 c0 k0
  have b0 := F0.binds (ps := ["value"]) fun _ _ _ _ _ _ us hl => match us, hl with | [_], _ => rfl
  have F1 := fun_mk (st := s_is_within) l1 c1 k1
  have b1 := F1.binds (ps := ["value", "least", "most"]) fun _ _ _ _ _ _ us hl => match us, hl with | [_, _, _], _ => rfl
  have F2 := fun_mk (st := s_is_signs) l2 c2 k2
  have b2 := F2.binds (ps := ["value"]) fun _ _ _ _ _ _ us hl => match us, hl with | [_], _ => rfl
  have F3 := fun_mk (st := s__law_gauge) l3 c3 k3
  have b3 := F3.binds (ps := ["script"]) fun _ _ _ _ _ _ us hl => match us, hl with | [_], _ => rfl
  have F4 := fun_mk (st := s__law_tick) l4 c4 k4
  have b4 := F4.binds (ps := ["gauge", "many"]) fun _ _ _ _ _ _ us hl => match us, hl with | [_, _], _ => rfl
  have F5 := fun_mk (st := s__law_dial) l5 c5 k5
  have b5 := F5.binds (ps := ["gauge", "some"]) fun _ _ _ _ _ _ us hl => match us, hl with | [_, _], _ => rfl
  have F6 := fun_mk (st := s__law_is_number) l6 c6 k6
  have b6 := F6.binds (ps := ["value"]) fun _ _ _ _ _ _ us hl => match us, hl with | [_], _ => rfl
  have F7 := fun_mk (st := s__law_odd) l7 c7 k7
  have b7 := F7.binds (ps := ["gauge"]) fun _ _ _ _ _ _ us hl => match us, hl with | [_], _ => rfl
  refine ⟨PySem.W.fnOf "law" "law" (defArgs s_law) (defBody s_law) (defScope s_law) .none kV8 dc8 pm8 an8 cd8 ct8, fun s v => .of_eq rfl, fun base _ _ => ?_⟩
  have o0 := ok_is_integer (P := l.prog) (w := w) (mg := mg) (base := base) F0 T 
  have c_is_integer : Cl l.prog w K mg base 1 "is_integer" (spIsInt K) := Cl.mk' F0 (PySem.W.mg_of X G a0) b0 o0
  have ck_is_integer_value : ClK l.prog w K mg base 1 "is_integer" ["value"] (pick [0]) (spIsInt K) :=
    ⟨_, _, _, pick [0], o0, PySem.W.mg_of X G a0, F0.kp, fun s ws hl => match ws, hl with | [_], _ => .of_eq rfl, fun zs ws r => pick_vals _ r⟩
  have o1 := ok_is_within (P := l.prog) (w := w) (mg := mg) (base := base) F1 T c_is_integer
  have c_is_within : Cl l.prog w K mg base 2 "is_within" (spWithin K) := Cl.mk' F1 (PySem.W.mg_of X G a1) b1 o1
  have ck_is_within_most_least_value : ClK l.prog w K mg base 2 "is_within" ["most", "least", "value"] (pick [2, 1, 0]) (spWithin K) :=
    ⟨_, _, _, pick [2, 1, 0], o1, PySem.W.mg_of X G a1, F1.kp, fun s ws hl => match ws, hl with | [_, _, _], _ => .of_eq rfl, fun zs ws r => pick_vals _ r⟩
  have o2 := ok_is_signs (P := l.prog) (w := w) (mg := mg) (base := base) F2 T 
  have c_is_signs : Cl l.prog w K mg base 1 "is_signs" (spSigns K) := Cl.mk' F2 (PySem.W.mg_of X G a2) b2 o2
  have ck_is_signs_value : ClK l.prog w K mg base 1 "is_signs" ["value"] (pick [0]) (spSigns K) :=
    ⟨_, _, _, pick [0], o2, PySem.W.mg_of X G a2, F2.kp, fun s ws hl => match ws, hl with | [_], _ => .of_eq rfl, fun zs ws r => pick_vals _ r⟩
  have o3 := ok__law_gauge (P := l.prog) (w := w) (mg := mg) (base := base) F3 T 
  have c__law_gauge : Cl l.prog w K mg base 1 "_law_gauge" (spGauge K) := Cl.mk' F3 (PySem.W.mg_of X G a3) b3 o3
  have o4 := ok__law_tick (P := l.prog) (w := w) (mg := mg) (base := base) F4 T 
  have c__law_tick : Cl l.prog w K mg base 1 "_law_tick" (spTick) := Cl.mk' F4 (PySem.W.mg_of X G a4) b4 o4
  have o5 := ok__law_dial (P := l.prog) (w := w) (mg := mg) (base := base) F5 T c__law_tick
  have c__law_dial : Cl l.prog w K mg base 2 "_law_dial" (spDial K) := Cl.mk' F5 (PySem.W.mg_of X G a5) b5 o5
  have o6 := ok__law_is_number (P := l.prog) (w := w) (mg := mg) (base := base) F6 T 
  have c__law_is_number : Cl l.prog w K mg base 1 "_law_is_number" (spIsInt K) := Cl.mk' F6 (PySem.W.mg_of X G a6) b6 o6
  have o7 := ok__law_odd (P := l.prog) (w := w) (mg := mg) (base := base) F7 T c__law_tick c__law_dial
  have c__law_odd : Cl l.prog w K mg base 3 "_law_odd" (spOdd K) := Cl.mk' F7 (PySem.W.mg_of X G a7) b7 o7
  exact ok_law (fun_mk (st := s_law) l8 c8 k8) T c__law_gauge c__law_tick c__law_dial c__law_is_number c__law_odd c_is_integer ck_is_integer_value c_is_within ck_is_within_most_least_value c_is_signs ck_is_signs_value
end EH

open PySem PySem.W PyProof.Rows in
set_option maxHeartbeats 0 in
theorem PySem.Challenge.cw_everyhalf_k02_integers_and_signs_holds : PySem.Challenge.rw_everyhalf_k02_integers_and_signs.Holds := by
  w_on; o_law; k_head; (case hw => w_witness2)
  k_fill
  refine EH.walk_ofG (l := PySem.Challenge.rw_everyhalf_k02_integers_and_signs) (n := 63) (k := 4) (x := "script") (sp := fun K => EH.spLaw K) rfl (by decide) rfl ⟨rfl, by decide, by decide⟩ (fun w h Y => PySem.W.kIn_of Y) ?F EH.law_end
  case F =>
    intro w mg fa h KX G hmg
    refine' EH.all_mk KX G hmg ?a0 ?l0 ?c0 ?k0 ?a1 ?l1 ?c1 ?k1 ?a2 ?l2 ?c2 ?k2 ?a3 ?l3 ?c3 ?k3 ?a4 ?l4 ?c4 ?k4 ?a5 ?l5 ?c5 ?k5 ?a6 ?l6 ?c6 ?k6 ?a7 ?l7 ?c7 ?k7 ?a8 ?l8 ?c8 ?k8 ?z_int ?z_len ?z_abs ?z_range ?z_isinstance ?z_repr ?z_str ?z_bool ?z_list ?z_tuple
    (case a0 => k_is)
    (case l0 => k_is)
    (case c0 => k_is)
    (case k0 => k_is)
    (case a1 => k_is)
    (case l1 => k_is)
    (case c1 => k_is)
    (case k1 => k_is)
    (case a2 => k_is)
    (case l2 => k_is)
    (case c2 => k_is)
    (case k2 => k_is)
    (case a3 => k_is)
    (case l3 => k_is)
    (case c3 => k_is)
    (case k3 => k_is)
    (case a4 => k_is)
    (case l4 => k_is)
    (case c4 => k_is)
    (case k4 => k_is)
    (case a5 => k_is)
    (case l5 => k_is)
    (case c5 => k_is)
    (case k5 => k_is)
    (case a6 => k_is)
    (case l6 => k_is)
    (case c6 => k_is)
    (case k6 => k_is)
    (case a7 => k_is)
    (case l7 => k_is)
    (case c7 => k_is)
    (case k7 => k_is)
    (case a8 => k_is)
    (case l8 => k_is)
    (case c8 => k_is)
    (case k8 => k_is)
    (case z_int => k_is)
    (case z_len => k_is)
    (case z_abs => k_is)
    (case z_range => k_is)
    (case z_isinstance => k_is)
    (case z_repr => k_is)
    (case z_str => k_is)
    (case z_bool => k_is)
    (case z_list => k_is)
    (case z_tuple => k_is)
#print axioms PySem.Challenge.cw_everyhalf_k02_integers_and_signs_holds
