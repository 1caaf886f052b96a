import PyProof.Rows.All
import Wide.All
import OpenK.AllK
import Wide.FinOn
import HandS.ForMost
import HandS.More
import HandS.IsInst
import HandS.Wide
import HandS.Flow
import HandS.Steps
import HandS.Gcd
import KE.KMathGC
import PyProof.ReprRoads
import PyProof.ReprBulk
import PySem.Challenge.RW_everyhalf_k16_whole_trees_counted_for_an
set_option Elab.async false
set_option linter.all false
set_option maxRecDepth 100000
set_option maxHeartbeats 2000000
/-! EH1: our own words beside the hand layer: repr of data, a def entered with no guard on the stack, calls with keywords alone. -/
namespace EH
open PySem PySem.Spec PyProof.Rows L2

section
variable {X : Cx}
/-- repr(x), x any data without dicts -/
theorem cr_repr (gd : X.A.guards = some []) (hu : X.A.units + 64 < cLine) : CallR X (.builtin "repr") (fun xs H Q => ∃ x d, xs = [x] ∧ Dp X.K H x d ∧ d.showable = true ∧ d.hasDict = false ∧ d.depth ≤ 60 ∧ d.shown.length ≤ sizeLine ∧ Q (.str d.shown) H) := by
  intro pins s σ H xs us Q I r h
  obtain ⟨x, d, rfl, hd, hs, hn, hdp, hz, q⟩ := h
  obtain ⟨u, rfl, rx⟩ := vals1 r
  have viaRef : ∀ a as, Reads s.heap (.ref a) d as → wpAny (model X.prog X.w) X.A (call (.builtin "repr") [.ref a]) (EP X pins σ Q) X.xe s := fun a as rd =>
    repr_of_reads' rd hs (PyData.noDict_hsm hn) gd (by omega) (fun _ _ e => e)
      (fun h' u' tk hk => ⟨.str d.shown, H, I.un (h' := h') (t' := tk) (Un.kept hk) (I.hok.kept hk), ⟨_, rfl⟩, q⟩) hz
  obtain ⟨as, rd⟩ := Dp.reads I d x u hd rx
  cases hd with
  | non =>
    cases rx
    exact PySem.P.repr_of_none ⟨.str _, H, I.tok _, ⟨_, rfl⟩, q⟩
  | bl b =>
    cases rx
    exact PySem.P.repr_of_bool ⟨.str _, H, I.tok _, ⟨_, rfl⟩, by cases b <;> exact q⟩
  | int i =>
    obtain ⟨t, rfl⟩ := rx
    exact PySem.P.repr_of_int (by simpa [PyData.showable] using hs) ⟨.str _, H, I.tok _, ⟨_, rfl⟩, q⟩
  | str z =>
    obtain ⟨t, rfl⟩ := rx
    exact PySem.P.repr_of_str ⟨.str _, H, I.tok _, ⟨_, rfl⟩, q⟩ hz
  | lst h1 h2 =>
    cases rx
    exact viaRef _ as rd
  | tup h1 h2 =>
    cases rx
    exact viaRef _ as rd
end

/-! ### a def that is entered with no guard on the stack -/
structure FnG (P : Program) (w : World) (K : PySem.W.Frag) (mg : Str → Option Value) (base : Heap) (cx : CXT) (k : Nat) (f : Addr) (fd : FuncData) (ps : List Str) (sp : Sp) : Prop where
  len : ∀ vs H Q E, sp vs H Q E → vs.length = ps.length
  run : ∀ (A : Around) (out : List Env) (s : Shared) (H : Hp) (args : Args) (us : List Value) (vs : List V) (Q : VK) (E : XK),
    A.guards = some [] → Room k A → Env0 P w K mg base A out s H → BindsTo s fd args (ps.zip us) → Vals vs us → sp vs H Q E →
    codeAny (model P w) A (.call (.ref f) args) (CR cx out P w H s Q E) s

theorem deeper_guards {A : Around} {e : Env} (h : A.guards = some []) : (A.deeper e).guards = some [] := h

section
variable {P : Program} {w : World} {K : PySem.W.Frag} {mg : Str → Option Value} {base : Heap}
theorem okG {x qual : Str} {st : Stmt} {f : Addr} {fd : FuncData} {N ps : List Str} {k : Nat} {sp : Sp}
    (F : Fun K x qual st f fd) (S : FnScope N ps (defScope st)) (len : ∀ vs H Q E, sp vs H Q E → vs.length = ps.length)
    (hb : ∀ (cdv : Value) (A : Around) (out : List Env) (s : Shared) (H : Hp) (vs : List V) (Q : VK) (E : XK),
      (A.deeper (envOfC qual (defScope st) s.heap.objs.size f cdv)).guards = some [] →
      Room k (A.deeper (envOfC qual (defScope st) s.heap.objs.size f cdv)) → sp vs H Q E →
      ∃ t, PSs (cxOf CX0 P w K mg base N qual (defScope st) f cdv A out s H E).nox (defBody st) t ∧
        t { nx := fun _ H' => Q .non H', rt := Q } (start N vs) H) :
    FnG P w K mg base CX0 (k + 1) f fd ps sp := by
  obtain ⟨oc, od, kV, doc, pm, an, cdv, ct, osl, rfl, lk, hcd⟩ := F.ex
  refine ⟨len, fun A out s H args us vs Q E gd hr e0 bnd rv hsp => ?_⟩
  have lenV := len _ _ _ _ hsp
  have KX : K.In s.heap := e0.mod.kin.keeps fun b o e => (e0.bs b o e).1
  have noLim : s.heap.NoLimit := e0.mod.nolimit.keeps fun b o e => (e0.bs b o e).1
  have kinds : ∀ y ∈ ps.zip us, (defScope st).names.lookup y.1 = some .local ∨
      ((defScope st).names.lookup y.1 = some .cell ∧ ((cellsFrom (s.heap.objs.size + 1) (defScope st).names []).lookup y.1).isSome = true) := by
    rintro ⟨n, v⟩ hy
    refine (S.par n (List.of_mem_zip hy).1).imp id fun q => ⟨q, ?_⟩
    exact PySem.W.cellsFrom_some _ _ _ (.inl q)
  refine codeAny_call_function hr.depth (KX _ _ lk) rfl S.co S.gen rfl (PySem.W.codeRec_of KX hcd) (bnd _ _ _ _ ?_)
  refine wpAny_newFunctionEnv_cells S.kind kinds fun en he s1 ic => ?_
  subst he
  refine ⟨noLim.keeps ic.toInCall.keep, codeAny_func ?_⟩
  obtain ⟨t, ht', hq⟩ := hb cdv A out s H vs Q E (deeper_guards gd) (hr.deeper _) hsp
  have ht := ht'.nox
  have I0 : Inv (cxOf CX0 P w K mg base N qual (defScope st) f cdv A out s H E) [] (start N vs) H s1 := inv_start S hr.hd e0 lenV rv ic
  refine wpAny_mono (ht.run [] s1 (start N vs) H _ I0 hq) (fun fl s' hs => ?_) fun _ _ z => z
  cases fl with
  | ret u =>
    obtain ⟨v, σ', H', J, ru, q⟩ := hs
    exact ⟨v, H', J.os, J.bare, J.base, J.hok, ru, q⟩
  | next =>
    obtain ⟨σ', H', J, q⟩ := hs
    exact ⟨.non, H', J.os, J.bare, J.base, J.hok, rfl, q⟩
  | brk =>
    obtain ⟨_, _, _, q⟩ := hs
    exact q.elim
  | cont =>
    obtain ⟨_, _, _, q⟩ := hs
    exact q.elim
end

/-- the law's call, no guard on the stack -/
theorem law_callG {P : Program} {w : World} {K : PySem.W.Frag} {mg mb : Str → Option Value} {k : Nat} {fa a : Addr} {fd : FuncData} {x : Str} {sp : Sp} {s1 : Shared} {us : List Value} {ns : List Int}
    (KX : K.In s1.heap) (nsG : s1.heap.Ns mainGlobals mg) (nsB : s1.heap.Ns builtinsNs mb) (boot : ∀ x : Str, x ≠ "__name__" → mb x = bootBuiltins x)
    (noLim : s1.heap.NoLimit) (gens0 : s1.gens = #[]) (ha : s1.heap.get? a = some { cls := .type "list", data := .seq us.toArray }) (hi : IntsAre us ns) (hl : ns.length ≤ sizeLine) (hr : Room k callerA)
    (F : ∀ base : Heap, K.In base → base.Ns mainGlobals mg → FnG P w K mg base CX0 k fa fd [x] sp)
    (bnd : ∀ (s : Shared) (u : Value), BindsTo s fd ⟨[u], []⟩ [(x, u)])
    (hsp : ∀ H : Hp, SqL K H a (ns.map V.int) → sp [.ref a] H (fun v _ => v = .bl true) fun _ _ _ => False) :
    codeAny (model P w) callerA (.call (.ref fa) ⟨[.ref a], []⟩)
      (fun r s' => r = .ok (.ret (.bool true)) ∧ OldK s1.heap s'.heap ∧ s'.os = s1.os ∧ AllBare s'.gens) s1 := by
  have rv := vals_ints hi
  have lenU := hi.length
  have body : ∀ H : Hp, Only H → SqL K H a (ns.map V.int) → HOk P w H s1.heap → (∀ b, H b ≠ none → b = a) → (H a ≠ none → K.lookup a = none) →
      codeAny (model P w) callerA (.call (.ref fa) ⟨[.ref a], []⟩)
        (fun r s' => r = .ok (.ret (.bool true)) ∧ OldK s1.heap s'.heap ∧ s'.os = s1.os ∧ AllBare s'.gens) s1 := by
    intro H only hS hok atA notK
    have down : ∀ {b : Addr} {o : Obj}, s1.heap.get? b = some o → H b = none → (hidT s1.heap H).get? b = some o := fun e n => hidT_get e n
    have isA : ∀ {b : Addr}, H b ≠ none → b = a := fun {b} h => atA b h
    have dictFree : ∀ {b : Addr} {o : Obj} {es : Array DictEntry} {ep : Nat}, s1.heap.get? b = some o → o.data = .dict es ep → H b = none := by
      intro b o es ep e d
      cases hb : H b with
      | none => rfl
      | some u =>
        have eb : b = a := isA (by rw [hb]; exact Option.some_ne_none _)
        subst eb
        rw [ha] at e
        cases e
        cases (show Data.seq us.toArray _ = Data.dict es ep from d)
    have nsDown : ∀ {b : Addr} {m : Str → Option Value}, s1.heap.Ns b m → (hidT s1.heap H).Ns b m := by
      rintro b m ⟨o, es, ep, e, d, r⟩
      exact ⟨o, es, ep, down e (dictFree e d), d, r⟩
    have kDown : K.In (hidT s1.heap H) := by
      intro b o e
      refine down (KX b o e) ?_
      cases hb : H b with
      | none => rfl
      | some u =>
        have eb : b = a := isA (by rw [hb]; exact Option.some_ne_none _)
        subst eb
        rw [notK (by rw [hb]; exact Option.some_ne_none _)] at e
        cases e
    have md : Mod K mg (hidT s1.heap H) := by
      refine ⟨kDown, nsDown nsG, ⟨mb, nsDown nsB, boot⟩, ?_⟩
      obtain ⟨mc, h1, h2⟩ := noLim
      exact ⟨mc, nsDown h1, h2⟩
    have e0 : Env0 P w K mg (hidT s1.heap H) callerA [] s1 H :=
      ⟨rfl, md, fun _ _ e => of_hidT e, Nat.le_of_eq (hidT_size _ _), trivial, fun _ hb => absurd hb List.not_mem_nil, hok, .of_eq gens0⟩
    have run := (F _ kDown (nsDown nsG)).run callerA [] s1 H ⟨[.ref a], []⟩ [.ref a] [.ref a] _ _ rfl hr e0 (bnd s1 (.ref a)) (.cons rfl .nil) (hsp H hS)
    refine codeAny_mono run fun r s' h => ?_
    rcases r with e | fl
    · exact h.elim
    · cases fl with
      | next => exact h.elim
      | brk => exact h.elim
      | cont => exact h.elim
      | ret u =>
        obtain ⟨v, H', os, bare, un, hok', ru, q⟩ := h
        cases (show v = .bl true from q)
        cases (show u = Value.bool true from ru)
        refine ⟨rfl, OldK.of_keep fun b o e => ?_, os, bare⟩
        cases hb : H b with
        | none => exact un.keep b o e hb (fun z => absurd z List.not_mem_nil) List.not_mem_nil
        | some u =>
          rcases only b with z | ⟨ob, xs, z⟩
          · rw [hb] at z
            cases z
          · obtain ⟨e1, _⟩ := hok b _ z
            obtain ⟨e2, _⟩ := hok' b _ (un.frzs b ob _ z)
            rw [e] at e1
            cases e1
            exact e2
  cases hk : K.lookup a with
  | some o =>
    have e := KX a o hk
    rw [ha] at e
    cases e
    refine body (fun _ => none) (fun _ => .inl rfl) (.inr ⟨_, us.toArray, _, hk, rfl, rfl, rfl, ?_, ?_⟩) (fun b u => ?_) (fun b z => absurd rfl z) fun z => absurd rfl z
    · rw [List.size_toArray, lenU]
      exact hl
    · simpa using rv
    · intro z
      exact nomatch (show (none : Option HO) = some u from z)
  | none =>
    have hA : ∀ b, (fun b => if b = a then some (HO.frz { cls := .type "list", data := .seq us.toArray } (.lst (ns.map V.int))) else none) b ≠ none → b = a := by
      intro b z
      by_cases hb : b = a
      · exact hb
      · exact absurd (if_neg hb) z
    refine body (fun b => if b = a then some (.frz { cls := .type "list", data := .seq us.toArray } (.lst (ns.map V.int))) else none) (fun b => ?_) (.inl (.inr ⟨{ cls := .type "list", data := .seq us.toArray }, if_pos rfl⟩)) (fun b u z => ?_) hA fun _ => hk
    · by_cases hb : b = a
      · exact .inr ⟨_, _, if_pos hb⟩
      · exact .inl (if_neg hb)
    · have eb : b = a := hA b (by rw [z]; exact Option.some_ne_none _)
      have z' := (if_pos eb).symm.trans z
      cases z'
      subst eb
      refine ⟨ha, ?_, us, _, rv, ha⟩
      rw [List.length_map]
      exact hl

/-- from the promise of the law's def to what k_head leaves -/
theorem walk_ofG {l : PySem.W.OpenLaw} {n k : Nat} {q : Program} {loose : List Str} {XP : (Str → Option Value) → Heap → Prop} {YP : World → Heap → Prop} {d : DefRec} {K : Params → PySem.W.Frag} {sp : PySem.W.Frag → Sp} {x : Str}
    (hn : l.most = some n) (hn2 : n ≤ sizeLine) (hdf : d.params.defaults = []) (hr : Room k callerA) (hY : ∀ (w : World) (h : Heap), YP w h → (K w.params).In h)
    (F : ∀ (w : World) (mg : Str → Option Value) (fa : Addr) (h : Heap), (K w.params).In h → h.Ns mainGlobals mg → mg d.name = some (.ref fa) →
      ∃ fd : FuncData, (∀ (s : Shared) (u : Value), BindsTo s fd ⟨[u], []⟩ [(x, u)]) ∧
        ∀ base : Heap, (K w.params).In base → base.Ns mainGlobals mg → FnG l.prog w (K w.params) mg base CX0 k fa fd [x] (sp (K w.params)))
    (hsp : ∀ (K : PySem.W.Frag) (H : Hp) (a : Addr) (ns : List Int), ns.length ≤ n → SqL K H a (ns.map V.int) → sp K [.ref a] H (fun v _ => v = .bl true) fun _ _ _ => False) :
    PySem.W.WalkO q loose XP YP l.row.toRowW d [] (fun f vs => PySem.call f vs) := by
  refine Att.attach_call hn hdf fun w s0 s1 mg mb fa o pm cd doc a us ns G Y ho hd hcd hmg hobj hints hlen hg => ?_
  have KX := hY w _ Y
  obtain ⟨fd, bnd, hF⟩ := F w mg fa _ KX G.T.g hmg
  exact law_callG KX G.T.g G.T.b G.T.builtins G.T.nolimit hg hobj hints (Nat.le_trans hlen hn2) hr hF bnd fun H hS => hsp _ H a ns hlen hS

/-! ### calls with keywords alone -/
section
variable {X : Cx} {cx : CXT} {k : Nat} {f : Addr} {fd : FuncData} {ps ks : List Str} {sp : Sp} {E : XK} {x : Str} {p pos : Pos} {kws : List Keyword} {tk : TA}
variable {g : List Value → List Value → List Value} {gV : List V → List V → List V}
theorem pe_callK0 (F : FnOk X.prog X.w X.K X.mg X.base cx k f fd ps sp) (hr : Room k X.A) (hg : Gl X x) (hm : X.mg x = some (.ref f)) (hk : PySem.W.keepIn X.K (.ref f) = true)
    (hb : KBinds X.K fd ps ks g gV) (hx : Passes cx X E) (hkw : PK X kws tk)
    (hall : (backToKw pos (keywordEach kws X.env)).all (·.1.isSome) = true := by rfl) (hks : (backToKw pos (keywordEach kws X.env)).filterMap (·.1) = ks := by rfl)
    (hdb : (x == ("__debug__" : Str)) = false := by decide)
    (hpl : ((backTo pos (starEach [] X.env)).any (·.1) || (backToKw pos (keywordEach kws X.env)).any (·.1.isNone)) = false := by rfl) :
    PE X (.Call (.Name x p) [] kws pos) (tCallK sp gV E tNil tk) := by
  refine ⟨fun pins s σ H Q I h => ?_⟩
  refine wpAny_Call_Name_kw (ld_glob I hg hm ?_ hdb)
  refine PySem.W.callWith_KW0 (h₀ := X.base) I.ok.mod.kin hk hall ?_ hpl
  refine thn (hkw.run pos pins s σ H _ I h) fun ws s2 ⟨zs, H2, I2, rz, q2⟩ => ⟨I2.kIn, ?_⟩
  rw [hks]
  exact run_fnk (us := []) (vs := []) F hr hb hx I2 .nil rz q2
end

/-! ### texts -/
section
variable {X : Cx}
/-- s * n -/
theorem op_rep_str : OpR X (binaryOp .Mult) (fun x y H Q => ∃ (z : Str) (n : Nat), x = .str z ∧ y = .int n ∧ n ≤ 1000000 ∧ z.length * n ≤ sizeLine ∧ z.length ≤ 1000000 ∧ Q (.str ⟨((List.replicate n z.cps.toList).flatten).toArray⟩) H) := by
  intro pins s σ H x y v u Q I rx ry h
  obtain ⟨z, n, rfl, rfl, hn, hz, hl, q⟩ := h
  obtain ⟨t, rfl⟩ := rx
  obtain ⟨t', rfl⟩ := ry
  have key : ∀ m : Nat, (List.replicate m z.cps).foldl (· ++ ·) #[] = ((List.replicate m z.cps.toList).flatten).toArray := by
    have gen : ∀ (m : Nat) (acc : Array Nat), (List.replicate m z.cps).foldl (· ++ ·) acc = acc ++ ((List.replicate m z.cps.toList).flatten).toArray := by
      intro m
      induction m with
      | zero => intro acc; simp
      | succ m ih =>
        intro acc
        rw [List.replicate_succ, List.foldl_cons, ih, List.replicate_succ, List.flatten_cons]
        apply Array.ext'
        simp
    intro m
    rw [gen]
    simp
  have done : ∀ w' : Str, w' = ⟨((List.replicate n z.cps.toList).flatten).toArray⟩ → ∀ t2 tk2, EP X pins σ Q (.str w' t2) { s with toks := tk2 } := by
    rintro w' rfl t2 tk2
    exact ⟨.str _, H, I.tok _, ⟨_, rfl⟩, q⟩
  refine PySem.P.mul_str ?_ ?_ ?_ ?_
  · have h1 : ¬ ((n : Int) < -(2 ^ 63 : Int)) := by omega
    have h2 : ¬ ((n : Int) ≥ 2 ^ 63) := by omega
    rw [decide_eq_false h1, decide_eq_false h2]
    rfl
  · intro h1 _ h3
    have hpos : (0 : Int) < n := by omega
    have h4 : ((z.length : Int) + 1) ≤ (2 ^ 63 - 1) / n := by
      rw [Int.le_ediv_iff_mul_le hpos]
      have h5 : ((z.length : Int) + 1) * n ≤ ((z.length : Int) + 1) * 1000000 := Int.mul_le_mul_of_nonneg_left (by omega) (by omega)
      have h6 : (z.length : Int) ≤ 1000000 := by omega
      have h7 : ((z.length : Int) + 1) * 1000000 ≤ 1000001 * 1000000 := Int.mul_le_mul_of_nonneg_right (by omega) (by omega)
      omega
    omega
  · intro h1 h2
    show decide (z.length * ((n : Nat) : Int).toNat > sizeLine) = false
    rw [Int.toNat_natCast]
    exact decide_eq_false (by omega)
  · by_cases h1 : (n : Int) < 1
    · rw [if_pos h1]
      have e0 : n = 0 := by omega
      subst e0
      exact ⟨by decide, done Str.empty rfl _ _⟩
    · rw [if_neg h1]
      by_cases h2 : ((n : Int) == 1 || z.length == 0) = true
      · rw [if_pos h2]
        have e1 : z = (⟨((List.replicate n z.cps.toList).flatten).toArray⟩ : Str) := by
          rcases Bool.or_eq_true_iff.mp h2 with h3 | h3
          · have e2 : n = 1 := by
              have := of_decide_eq_true (p := (n : Int) = 1) (by simpa using h3)
              omega
            subst e2
            obtain ⟨c⟩ := z
            simp
          · obtain ⟨⟨c⟩⟩ := z
            have e3 : c = [] := by
              have h4 : c.length = 0 := of_decide_eq_true (p := c.length = 0) (by simpa [Str.length] using h3)
              exact List.eq_nil_of_length_eq_zero h4
            subst e3
            simp
        exact done z e1 _ _
      · rw [if_neg h2, Int.toNat_natCast, key]
        refine ⟨?_, done _ rfl _ _⟩
        show ((List.replicate n z.cps.toList).flatten).toArray.size ≤ sizeLine
        have e4 : ((List.replicate n z.cps.toList).flatten).length = n * z.cps.toList.length := by simp
        have e5 : z.cps.toList.length = z.length := by simp [Str.length]
        rw [List.size_toArray, e4, e5, Nat.mul_comm]
        exact hz
end

/-! ### a, b, c = x, y, z with plain local names -/
def tPar3 (i j l : Nat) (ta : TA) : TS := fun D σ H => ta σ H fun vs H1 => ∃ v w u, vs = [v, w, u] ∧ D.nx (((σ.set i (some v)).set j (some w)).set l (some u)) H1
section
variable {X : Cx} {pos : Pos}
theorem ps_par3 {i j l : Nat} {x y z : Str} {a b c : Expr} {ta : TA} {px py pz pt : Pos} {kt k2 pt2} (hc : X.calm = true) (hN : X.N.Nodup)
    (hi : X.N[i]? = some x) (hj : X.N[j]? = some y) (hl : X.N[l]? = some z) (hij : i ≠ j) (hil : i ≠ l) (hjl : j ≠ l)
    (hx : X.env.scope.names.lookup x = some .local) (hy : X.env.scope.names.lookup y = some .local) (hz : X.env.scope.names.lookup z = some .local) (ha : PA X [a, b, c] ta)
    (hw : swappedStores [.Tuple [.Name x px, .Name y py, .Name z pz] kt pt] (.Tuple [a, b, c] k2 pt2) X.env = pure (some [x, y, z]))
    (hs : swapsWithSole [.Tuple [.Name x px, .Name y py, .Name z pz] kt pt] (.Tuple [a, b, c] k2 pt2) pos.line X.env = pure false := by rfl) :
    PS X (.Assign [.Tuple [.Name x px, .Name y py, .Name z pz] kt pt] (.Tuple [a, b, c] k2 pt2) pos) (tPar3 i j l ta) := by
  refine ⟨fun pins s σ H D I h => ?_⟩
  rw [exec_Assign_arm]
  refine wpAny_bind (wpAny_standAt ?_)
  rw [hs]
  refine wpAny_bind (wpAny_pure ?_)
  rw [if_neg (by decide)]
  refine wpAny_bind (Tuple_ (thn (ha.run _ pins s σ H _ I h) fun us s1 ⟨vs, H1, I1, r1, q1⟩ => ?_))
  obtain ⟨v, w, t, e1, q1⟩ := q1
  subst e1
  obtain ⟨u1, u2, u3, rfl, rv, rw', rt⟩ : ∃ u1 u2 u3, us = [u1, u2, u3] ∧ RelV v u1 ∧ RelV w u2 ∧ RelV t u3 := by
    cases r1 with
    | cons p q =>
      cases q with
      | cons p' q' =>
        cases q' with
        | cons p'' q'' =>
          cases q''
          exact ⟨_, _, _, rfl, p, p', p''⟩
  refine wpAny_newObj_type ?_ (by show 3 ≤ sizeLine; decide)
  have I2 : Inv X pins σ H1 { s1 with heap := s1.heap.push { cls := .type "tuple", data := .seq [u1, u2, u3].toArray } } :=
    I1.kept (t' := s1.toks) fun b o e => Heap.get?_push_of_some _ e
  rw [hw]
  refine wpAny_bind (wpAny_pure ?_)
  show wpAny (model X.prog X.w) X.A (do
    rule "assign.swapped-stores"
    let items ← unpackItems (.ref s1.heap.objs.size) 3 none
    assignInOrder [fun v => bindName X.env z v, fun v => bindName X.env y v, fun v => bindName X.env x v] items.reverse
    pure Flow.next) _ _ _
  refine wpAny_bind (wpAny_rule (wpAny_bind (unpackItems_tuple (items := #[u1, u2, u3]) (I.ok.hd hc) (IsTup.new s1.heap _) fun h' hx' => ?_)))
  have I3 := I2.kept (h' := h') (t' := s1.toks) fun b o e => hx' b o (Nat.ne_of_lt (Heap.lt_size e)) e
  show wpAny _ _ (assignInOrder [fun v => bindName X.env z v, fun v => bindName X.env y v, fun v => bindName X.env x v] [u3, u2, u1] >>= fun _ => pure Flow.next) _ _ _
  refine wpAny_bind (assignInOrder_cons (wpAny_bindName (store_ok I3 hN hl (.inl hz) rt (fun s2 I4 => ?_) (.inr hz))))
  refine assignInOrder_cons (wpAny_bindName (store_ok I4 hN hj (.inl hy) rw' (fun s3 I5 => ?_) (.inr hy)))
  refine assignInOrder_cons (wpAny_bindName (store_ok I5 hN hi (.inl hx) rv (fun s4 I6 => assignInOrder_nil (wpAny_pure ?_)) (.inr hx)))
  have e : (((σ.set l (some t)).set j (some w)).set i (some v)) = (((σ.set i (some v)).set j (some w)).set l (some t)) := by
    rw [List.set_comm _ _ (Ne.symm hjl), List.set_comm _ _ (Ne.symm hil), List.set_comm _ _ (Ne.symm hij)]
  rw [e] at I6
  exact ⟨_, H1, I6, q1⟩
end

/-! ### a def that may be called by its name -/
structure Cl (P : Program) (w : World) (K : PySem.W.Frag) (mg : Str → Option Value) (base : Heap) (k : Nat) (x : Str) (sp : Sp) : Prop where
  ex : ∃ (f : Addr) (fd : FuncData) (ps : List Str), FnOk P w K mg base CX0 k f fd ps sp ∧ mg x = some (.ref f) ∧ PySem.W.keepIn K (.ref f) = true ∧ Binds K fd ps []
/-- .. with keywords alone: π brings the keywords' values into the parameters' order -/
def tF (sp : Sp) (t : TA) : TE := fun σ H Q => t σ H fun vs H1 => sp vs H1 Q E0
def tF0 (sp : Sp) : TE := fun _ H Q => sp [] H Q E0
def tFk (n : Nat) (π : List V → List V) (sp : Sp) (t : TA) : TE := fun σ H Q => t σ H fun zs H1 => zs.length = n ∧ sp (π zs) H1 Q E0
structure ClK (P : Program) (w : World) (K : PySem.W.Frag) (mg : Str → Option Value) (base : Heap) (k : Nat) (x : Str) (ks : List Str) (π : List V → List V) (sp : Sp) : Prop where
  ex : ∃ (f : Addr) (fd : FuncData) (ps : List Str) (g : List Value → List Value), FnOk P w K mg base CX0 k f fd ps sp ∧ mg x = some (.ref f) ∧ PySem.W.keepIn K (.ref f) = true ∧
    (∀ (s : Shared) (ws : List Value), ws.length = ks.length → BindsTo s fd ⟨[], ks.zip ws⟩ (ps.zip (g ws))) ∧ ∀ (zs : List V) (ws : List Value), Vals zs ws → Vals (π zs) (g ws)
section
variable {X : Cx} {k j : Nat} {x : Str} {sp : Sp} {p pos : Pos} {e : Expr} {es : List Expr} {t tk : TA} {ks : List Str} {π : List V → List V} {kws : List Keyword}
theorem pe_f (c : Cl X.prog X.w X.K X.mg X.base k x sp) (hr : Room j X.A) (hk : k ≤ j) (hg : Gl X x) (ha : PA X (e :: es) t) (hdb : (x == ("__debug__" : Str)) = false := by decide)
    (he : starEach (e :: es) X.env = (false, eval e X.env) :: starEach es X.env := by rfl) (hpl : (backTo pos (starEach es X.env)).any (·.1) = false := by rfl) :
    PE X (.Call (.Name x p) (e :: es) [] pos) (tF sp t) := by
  obtain ⟨f, fd, ps, F, hm, kp, b⟩ := c.ex
  have h := pe_call (p := p) (pos := pos) F (hr.mono hk) hg hm kp b .nil pass0 ha hdb he hpl
  refine ⟨fun pins s σ H Q I q => h.run pins s σ H Q I ?_⟩
  show t σ H fun vs H1 => sp (vs ++ []) H1 Q E0
  simp only [List.append_nil]
  exact q
theorem pe_f0 (c : Cl X.prog X.w X.K X.mg X.base k x sp) (hr : Room j X.A) (hk : k ≤ j) (hg : Gl X x) (hdb : (x == ("__debug__" : Str)) = false := by decide) :
    PE X (.Call (.Name x p) [] [] pos) (tF0 sp) := by
  obtain ⟨f, fd, ps, F, hm, kp, b⟩ := c.ex
  have h := pe_call0 (p := p) (pos := pos) F (hr.mono hk) hg hm kp b .nil pass0 hdb
  exact ⟨fun pins s σ H Q I q => h.run pins s σ H Q I q⟩
theorem pe_fk (c : ClK X.prog X.w X.K X.mg X.base k x ks π sp) (hr : Room j X.A) (hk : k ≤ j) (hg : Gl X x) (hkw : PK X kws tk)
    (hall : (backToKw pos (keywordEach kws X.env)).all (·.1.isSome) = true := by rfl) (hks : (backToKw pos (keywordEach kws X.env)).filterMap (·.1) = ks := by rfl)
    (hdb : (x == ("__debug__" : Str)) = false := by decide)
    (hpl : ((backTo pos (starEach [] X.env)).any (·.1) || (backToKw pos (keywordEach kws X.env)).any (·.1.isNone)) = false := by rfl) :
    PE X (.Call (.Name x p) [] kws pos) (tFk ks.length π sp tk) := by
  obtain ⟨f, fd, ps, g, F, hm, kp, b, rel⟩ := c.ex
  refine ⟨fun pins s σ H Q I h => ?_⟩
  refine wpAny_Call_Name_kw (ld_glob I hg hm ?_ hdb)
  refine PySem.W.callWith_KW0 (h₀ := X.base) I.ok.mod.kin kp hall ?_ hpl
  refine thn (hkw.run pos pins s σ H _ I h) fun ws s2 ⟨zs, H2, I2, rz, hlen, q2⟩ => ⟨I2.kIn, ?_⟩
  rw [hks]
  have r2 := rel zs ws rz
  refine wpAny_call (codeAny_mono (F.run X.A X.stack s2 H2 ⟨[], ks.zip ws⟩ (g ws) (π zs) Q E0 (hr.mono hk) I2.env0 (b s2 ws (by rw [← rz.length]; exact hlen)) r2 q2) fun r s' hq => ?_)
  cases r with
  | error e => exact hq.elim
  | ok fl =>
    cases fl with
    | ret u => exact I2.after hq
    | next => exact hq.elim
    | brk => exact hq.elim
    | cont => exact hq.elim
end
section
variable {P : Program} {w : World} {K : PySem.W.Frag} {mg : Str → Option Value} {base : Heap}
theorem Cl.mk' {k : Nat} {x qual : Str} {st : Stmt} {f : Addr} {fd : FuncData} {ps : List Str} {sp : Sp} (F : Fun K x qual st f fd) (m : mg x = some (.ref f)) (b : Binds K fd ps []) (ok : FnOk P w K mg base CX0 k f fd ps sp) : Cl P w K mg base k x sp :=
  ⟨f, fd, ps, ok, m, F.kp, b⟩
theorem Cl.mono {j k : Nat} {x : Str} {sp : Sp} (c : Cl P w K mg base j x sp) (h : j ≤ k) : Cl P w K mg base k x sp := by
  obtain ⟨f, fd, ps, F, m, kp, b⟩ := c.ex
  exact ⟨f, fd, ps, F.mono h, m, kp, b⟩
theorem Cl.imp {k : Nat} {x : Str} {sp sp' : Sp} (c : Cl P w K mg base k x sp) (h : ∀ vs H Q E, sp' vs H Q E → sp vs H Q E) : Cl P w K mg base k x sp' := by
  obtain ⟨f, fd, ps, F, m, kp, b⟩ := c.ex
  exact ⟨f, fd, ps, F.imp h, m, kp, b⟩
/-- a module's constant -/
structure Cst (mg : Str → Option Value) (x : Str) (v : V) : Prop where
  ex : ∃ u, mg x = some u ∧ RelV v u
theorem pe_cst {X : Cx} {x : Str} {v : V} {pos : Pos} (c : Cst X.mg x v) (hg : Gl X x) (hd : (x == ("__debug__" : Str)) = false := by decide) : PE X (.Name x pos) (tC v) := by
  obtain ⟨u, hm, r⟩ := c.ex
  exact pe_glob hg hm r hd
end

/-! ### keywords' values in the parameters' order -/
def pick (is : List Nat) {α : Type} (xs : List α) : List α := is.filterMap fun i => xs[i]?
theorem pick_vals : ∀ (is : List Nat) {zs : List V} {ws : List Value}, Vals zs ws → Vals (pick is zs) (pick is ws)
  | [], _, _, _ => .nil
  | i :: is, zs, ws, r => by
    have ih := pick_vals is r
    unfold pick at ih ⊢
    cases e : zs[i]? with
    | none =>
      have e2 := r.none_of e
      rw [List.filterMap_cons_none e, List.filterMap_cons_none e2]
      exact ih
    | some z =>
      obtain ⟨u, e2, ru⟩ := r.get e
      rw [List.filterMap_cons_some e, List.filterMap_cons_some e2]
      exact .cons ru ih

/-! ### numbers of the drawing object -/
theorem tick_b1 {x b C : Int} (h0 : 0 ≤ x) (h1 : x < 2147483648) (b0 : 0 ≤ b) (b1 : b ≤ 1000000) (c0 : 0 ≤ C) (c1 : C ≤ 1000000) : 0 ≤ x * (2 * b + C) ∧ x * (2 * b + C) ≤ 2147483648 * 3000000 := by
  refine ⟨Int.mul_nonneg h0 (by omega), ?_⟩
  exact Int.mul_le_mul (by omega) (by omega) (by omega) (by omega)
theorem tick_b2 {D b : Int} (d0 : 0 ≤ D) (d1 : D ≤ 1000000) (b0 : 0 ≤ b) (b1 : b ≤ 1000000) : 0 ≤ D * b ∧ D * b ≤ 1000000 * 1000000 ∧ 0 ≤ D * b * b ∧ D * b * b ≤ 1000000 * 1000000 * 1000000 := by
  have h1 : 0 ≤ D * b := Int.mul_nonneg d0 b0
  have h2 : D * b ≤ 1000000 * 1000000 := Int.mul_le_mul d1 b1 b0 (by decide)
  exact ⟨h1, h2, Int.mul_nonneg h1 b0, Int.mul_le_mul h2 b1 b0 (by decide)⟩

/-! ### data of ints -/
theorem dp_ints {K : PySem.W.Frag} {H : Hp} : ∀ cs : List Int, DpAll K H (cs.map V.int) (cs.map PyData.int)
  | [] => .nil
  | c :: cs => .cons (.int c) (dp_ints cs)
theorem sh_ints (cs : List Int) : SeqAt.shaped (.list (cs.map .int)) = true := by
  have h : ∀ cs : List Int, PyData.canLayAll0 (cs.map PyData.int) = true ∧ PyData.depthAll (cs.map PyData.int) = 0 := by
    intro cs
    induction cs with
    | nil => exact ⟨rfl, rfl⟩
    | cons c cs ih => simp only [List.map_cons, PyData.canLayAll0, PyData.canLay0, PyData.depthAll, PyData.depth, ih.1, ih.2, Bool.and_self, Nat.max_self, and_self]
  unfold SeqAt.shaped
  simp only [PyData.canLay0, PyData.depth, (h cs).1, (h cs).2]
  rfl

/-! ### isinstance of a value and a built-in class -/
theorem tyb_wide {K : PySem.W.Frag} {H : Hp} {v : V} {T : String} (h : TyB K H v T) : TyX K H v (.type T) := by
  cases h with
  | non => exact .base .non
  | bl b => exact .base (.bl b)
  | int i => exact .base (.int i)
  | str x => exact .base (.str x)
  | byt b => exact .byt b
  | lst h =>
    rcases h with (h | ⟨o, h⟩) | ⟨o, its, n, h1, h2, _⟩
    · exact .base (.lst h)
    · exact .base (.frz h)
    · exact .kList h1 h2
  | tup h =>
    rcases h with (h | ⟨o, h⟩) | ⟨o, its, n, h1, h2, _⟩
    · exact .base (.tup h)
    · exact .fTuple h
    · exact .kTuple h1 h2
  | dK h => exact .base (.dK h)
def kinds : List String := ["NoneType", "bool", "int", "str", "bytes", "list", "tuple", "dict"]
theorem tyb_kind {K : PySem.W.Frag} {H : Hp} {v : V} {T : String} (h : TyB K H v T) : T ∈ kinds := by
  cases h <;> decide
/-- is what is of the type T also of the type n -/
def isSub (T n : String) : Bool := T == n || (T == "bool" && n == "int")
theorem kit_sub : ∀ T ∈ kinds, ∀ n ∈ kinds, kitB T n = some (isSub T n) := by decide +kernel
theorem call_is {X : Cx} : CallR X (.builtin "isinstance") (fun xs H Q => ∃ v T n, xs = [v, .ty n] ∧ TyB X.K H v T ∧ n ∈ kinds ∧ Q (.bl (isSub T n)) H) := by
  intro pins s σ H xs us Q I r h
  obtain ⟨v, T, n, rfl, ht, hn, q⟩ := h
  exact call_isi pins s σ H _ us Q I r ⟨v, .ty n, .type T, .type n, isSub T n, rfl, .ty n, tyb_wide ht, kit_ty (kit_sub T (tyb_kind ht) n hn), q⟩

/-! ### binomials -/
def chs : Nat → Nat → Nat
  | _, 0 => 1
  | 0, _ + 1 => 0
  | n + 1, k + 1 => chs n k + chs n (k + 1)
theorem chs_zero (n : Nat) : chs n 0 = 1 := by cases n <;> rfl
theorem chs_big : ∀ (n k : Nat), n < k → chs n k = 0
  | 0, 0, h => absurd h (Nat.lt_irrefl _)
  | 0, k + 1, _ => rfl
  | n + 1, 0, h => absurd h (Nat.not_lt_zero _)
  | n + 1, k + 1, h => by
    show chs n k + chs n (k + 1) = 0
    rw [chs_big n k (by omega), chs_big n (k + 1) (by omega)]
theorem chs_step : ∀ (n k : Nat), k ≤ n → chs n (k + 1) * (k + 1) = chs n k * (n - k)
  | 0, 0, _ => rfl
  | 0, k + 1, h => absurd h (by omega)
  | n + 1, 0, _ => by
    show (chs n 0 + chs n (0 + 1)) * (0 + 1) = 1 * (n + 1 - 0)
    have h := chs_step n 0 (Nat.zero_le _)
    rw [chs_zero] at h ⊢
    omega
  | n + 1, k + 1, h => by
    show (chs n (k + 1) + chs n (k + 1 + 1)) * (k + 1 + 1) = (chs n k + chs n (k + 1)) * (n + 1 - (k + 1))
    have h1 := chs_step n k (by omega)
    have e : n + 1 - (k + 1) = n - k := by omega
    rw [e, Nat.add_mul, Nat.add_mul, ← h1]
    by_cases hk : k + 1 ≤ n
    · have h2 := chs_step n (k + 1) hk
      rw [h2, ← Nat.mul_add, ← Nat.mul_add]
      congr 1
      omega
    · have en : n = k := by omega
      subst en
      rw [chs_big n (n + 1) (by omega), chs_big n (n + 1 + 1) (by omega)]
      simp
def fct : Nat → Nat
  | 0 => 1
  | n + 1 => fct n * (n + 1)
theorem fct_pos : ∀ n, 0 < fct n
  | 0 => Nat.one_pos
  | n + 1 => Nat.mul_pos (fct_pos n) (Nat.succ_pos _)
/-- n (n - 1) .. (n - k + 1) -/
def fll (n : Nat) : Nat → Nat
  | 0 => 1
  | k + 1 => fll n k * (n - k)
theorem chs_fll (n : Nat) : ∀ k, k ≤ n → chs n k * fct k = fll n k
  | 0, _ => by rw [chs_zero]; rfl
  | k + 1, h => by
    have ih := chs_fll n k (by omega)
    have hs := chs_step n k (by omega)
    show chs n (k + 1) * (fct k * (k + 1)) = fll n k * (n - k)
    rw [← ih, Nat.mul_right_comm (chs n k), ← hs, Nat.mul_comm (fct k), ← Nat.mul_assoc]
theorem fll_self : ∀ n, fll n n = fct n := by
  intro n
  have h := chs_fll n n (Nat.le_refl _)
  have e : chs n n = 1 := by
    induction n with
    | zero => rfl
    | succ n ih =>
      show chs n n + chs n (n + 1) = 1
      rw [chs_big n (n + 1) (by omega), ih (chs_fll n n (Nat.le_refl _))]
  rw [e, Nat.one_mul] at h
  exact h.symm
theorem chs_sym : ∀ (n k : Nat), k ≤ n → chs n (n - k) = chs n k := by
  -- both times k! (n - k)! are n!
  have key : ∀ (n k : Nat), k ≤ n → chs n k * fct k * fct (n - k) = fct n := by
    intro n
    induction n with
    | zero =>
      intro k h
      have e : k = 0 := by omega
      subst e
      rfl
    | succ n ih =>
      intro k h
      cases k with
      | zero => rw [chs_zero]; show 1 * 1 * fct (n + 1) = _; omega
      | succ k =>
        have i1 := ih k (by omega)
        have e1 : n + 1 - (k + 1) = n - k := by omega
        show (chs n k + chs n (k + 1)) * (fct k * (k + 1)) * fct (n + 1 - (k + 1)) = fct n * (n + 1)
        rw [e1]
        by_cases hk : k + 1 ≤ n
        · have i2 := ih (k + 1) hk
          have e2 : fct (n - k) = fct (n - (k + 1)) * (n - k) := by
            have : n - k = (n - (k + 1)) + 1 := by omega
            rw [this]
            rfl
          have a1 : chs n k * (fct k * (k + 1)) * fct (n - k) = fct n * (k + 1) := by
            rw [← i1]
            simp only [Nat.mul_assoc, Nat.mul_comm, Nat.mul_left_comm]
          have a2 : chs n (k + 1) * (fct k * (k + 1)) * fct (n - k) = fct n * (n - k) := by
            rw [← i2, e2]
            show _ = chs n (k + 1) * (fct k * (k + 1)) * fct (n - (k + 1)) * (n - k)
            simp only [Nat.mul_assoc]
          rw [Nat.add_mul, Nat.add_mul, a1, a2, ← Nat.mul_add]
          congr 1
          omega
        · have en : n = k := by omega
          subst en
          rw [chs_big n (n + 1) (by omega), Nat.add_zero]
          have e3 : n - n = 0 := Nat.sub_self n
          rw [e3] at i1 ⊢
          calc chs n n * (fct n * (n + 1)) * fct 0 = (chs n n * fct n * fct 0) * (n + 1) := by
                simp only [Nat.mul_assoc, Nat.mul_comm, Nat.mul_left_comm]
            _ = fct n * (n + 1) := by rw [i1]
  intro n k h
  have a := key n k h
  have b := key n (n - k) (by omega)
  have e : n - (n - k) = k := by omega
  rw [e] at b
  have hp : 0 < fct k * fct (n - k) := Nat.mul_pos (fct_pos _) (fct_pos _)
  have c : chs n (n - k) * (fct k * fct (n - k)) = chs n k * (fct k * fct (n - k)) := by
    rw [← Nat.mul_assoc, ← Nat.mul_assoc, a]
    rw [Nat.mul_right_comm] at b
    exact b
  exact Nat.eq_of_mul_eq_mul_right hp c
theorem fprod (n : Nat) : ∀ k, k ≤ n → Builtin.Math.fallingProduct (n : Int) k = (fll n k : Nat)
  | 0, _ => rfl
  | k + 1, h => by
    have ih := fprod n k (by omega)
    unfold Builtin.Math.fallingProduct at ih ⊢
    rw [List.range_succ, List.foldl_append, ih]
    show ((fll n k : Nat) : Int) * ((n : Int) - (k : Int)) = ((fll n k * (n - k) : Nat) : Int)
    rw [Int.natCast_mul, Int.natCast_sub (by omega)]
theorem chs_div {n k : Nat} (h : k ≤ n) : fll n k / fct k = chs n k := by
  rw [← chs_fll n k h, Nat.mul_div_cancel _ (fct_pos k)]
theorem mcComb_chs (n k : Nat) : PySem.W.mcComb (n : Int) (k : Int) = (chs n k : Nat) := by
  by_cases h : k ≤ n
  · have em : ∃ m : Nat, min (k : Int) ((n : Int) - k) = (m : Int) ∧ m ≤ n ∧ chs n m = chs n k := by
      by_cases h2 : k ≤ n - k
      · exact ⟨k, by omega, h, rfl⟩
      · exact ⟨n - k, by omega, by omega, chs_sym n k h⟩
    obtain ⟨m, e1, e2, e3⟩ := em
    rw [PySem.W.mcComb_at (by omega) (by omega) e1, Int.toNat_natCast, fprod n m e2, fprod m m (Nat.le_refl _), fll_self, ← e3, ← chs_div e2, Int.natCast_ediv]
  · rw [PySem.W.mcComb_above (by omega), chs_big n k (by omega)]
    rfl
theorem cr_comb {X : Cx} : CallR X (.builtin "math.comb") (fun xs H Q => ∃ n k : Nat, xs = [.int n, .int k] ∧ n ≤ 18000 ∧ Q (.int (chs n k : Nat)) H) := by
  intro pins s σ H xs us Q I r h
  obtain ⟨n, k, rfl, hn, q⟩ := h
  obtain ⟨u1, u2, rfl, ⟨t, rfl⟩, ⟨t', rfl⟩⟩ := vals2 r
  refine PySem.W.mc_comb_v (by omega) (by omega) (by omega) (.inr (by omega)) (mcComb_chs n k) ?_
  exact ⟨.int _, H, I.tok _, ⟨_, rfl⟩, q⟩

/-! ### heaps -/
theorem same_put {H0 H : Hp} {D : Addr} {o : HO} (s : Same H0 H) (h : H0 D = none) : Same H0 (upd H D o) := fun b x e => by
  rw [upd_ne (ne_of_none e h)]
  exact s _ _ e

/-! ### data that may be shown and compared -/
mutual
def okD : PyData → Bool
  | .int i => decide (i.natAbs.log2 < 900)
  | .str x => x.cps.toList.all fun c => decide (c < 1114112)
  | .list xs | .tuple xs => okDs xs
  | .dict _ => false
  | .none | .bool _ => true
def okDs : List PyData → Bool
  | [] => true
  | x :: xs => okD x && okDs xs
end
mutual
theorem okD_all : ∀ d : PyData, okD d = true → d.showable = true ∧ d.hasDict = false ∧ d.leavesShort 1000 = true ∧ d.canLay0 = true
  | .none, _ => ⟨by simp only [PyData.showable], by simp only [PyData.hasDict], by simp only [PyData.leavesShort], by simp only [PyData.canLay0]⟩
  | .bool _, _ => ⟨by simp only [PyData.showable], by simp only [PyData.hasDict], by simp only [PyData.leavesShort], by simp only [PyData.canLay0]⟩
  | .int i, h => by
    have h1 : i.natAbs.log2 < 900 := by simpa only [okD, decide_eq_true_eq] using h
    refine ⟨by simp only [PyData.showable, decide_eq_true_eq]; omega, by simp only [PyData.hasDict], ?_, by simp only [PyData.canLay0]⟩
    have h2 := int_text_length_le (a := i) (k := 900) (by decide) h1
    have h3 : (PyData.shown (.int i)).length ≤ 1000 := by
      simp only [PyData.shown]
      show (Str.ofString (toString i)).length ≤ 1000
      have h4 := PySem.ofString_length (toString i)
      omega
    simp only [PyData.leavesShort]
    exact decide_eq_true h3
  | .str x, h => by
    have h1 : ∀ c ∈ x.cps.toList, c < 1114112 := by simpa only [okD, List.all_eq_true, decide_eq_true_eq] using h
    refine ⟨by simp only [PyData.showable], by simp only [PyData.hasDict], ?_, ?_⟩
    · simp only [PyData.leavesShort, List.all_eq_true, decide_eq_true_eq]
      intro c hc
      exact Nat.lt_of_lt_of_le (h1 c hc) (by decide)
    · simp only [PyData.canLay0, PyData.strOk]
      rw [← Array.all_toList, List.all_eq_true]
      intro c hc
      exact decide_eq_true (h1 c hc)
  | .list xs, h => by
    obtain ⟨a, b, c, d⟩ := okDs_all xs (by simpa only [okD] using h)
    exact ⟨by simpa only [PyData.showable] using a, by simpa only [PyData.hasDict] using b, by simpa only [PyData.leavesShort] using c, by simpa only [PyData.canLay0] using d⟩
  | .tuple xs, h => by
    obtain ⟨a, b, c, d⟩ := okDs_all xs (by simpa only [okD] using h)
    exact ⟨by simpa only [PyData.showable] using a, by simpa only [PyData.hasDict] using b, by simpa only [PyData.leavesShort] using c, by simpa only [PyData.canLay0] using d⟩
  | .dict _, h => by simp only [okD, Bool.false_eq_true] at h
theorem okDs_all : ∀ xs : List PyData, okDs xs = true → PyData.showableAll xs = true ∧ PyData.hasDictAll xs = false ∧ PyData.leavesShortAll 1000 xs = true ∧ PyData.canLayAll0 xs = true
  | [], _ => ⟨by simp only [PyData.showableAll], by simp only [PyData.hasDictAll], by simp only [PyData.leavesShortAll], by simp only [PyData.canLayAll0]⟩
  | x :: xs, h => by
    have h1 : okD x = true ∧ okDs xs = true := by simpa only [okDs, Bool.and_eq_true] using h
    obtain ⟨a, b, c, d⟩ := okD_all x h1.1
    obtain ⟨a', b', c', d'⟩ := okDs_all xs h1.2
    exact ⟨by simp only [PyData.showableAll, a, a', Bool.and_self], by simp only [PyData.hasDictAll, b, b', Bool.or_self], by simp only [PyData.leavesShortAll, c, c', Bool.and_self], by simp only [PyData.canLayAll0, d, d', Bool.and_self]⟩
end
/-- x is the data d, small enough -/
structure GD (K : PySem.W.Frag) (H : Hp) (x : V) (d : PyData) : Prop where
  at_ : Dp K H x d
  ok : okD d = true
  bk : d.bulk ≤ 10000
  dp : d.depth ≤ 60
theorem GD.shaped {K : PySem.W.Frag} {H : Hp} {x : V} {d : PyData} (h : GD K H x d) : SeqAt.shaped d = true := by
  unfold SeqAt.shaped
  rw [(okD_all d h.ok).2.2.2, decide_eq_true (Nat.le_trans h.dp (by decide))]
  rfl
theorem GD.short {K : PySem.W.Frag} {H : Hp} {x : V} {d : PyData} (h : GD K H x d) : d.shown.length ≤ sizeLine := by
  have e := PyData.shown_le_bulk 1000 (by decide) d (okD_all d h.ok).2.2.1
  have b := h.bk
  rw [sizeLine_eq]
  have m : (1000 + 2) * d.bulk ≤ (1000 + 2) * 10000 := Nat.mul_le_mul_left _ b
  omega
section
variable {X : Cx}
theorem cr_show (gd : X.A.guards = some []) (hu : X.A.units + 64 < cLine) : CallR X (.builtin "repr") (fun xs H Q => ∃ x d, xs = [x] ∧ GD X.K H x d ∧ Q (.str d.shown) H) := by
  intro pins s σ H xs us Q I r h
  obtain ⟨x, d, rfl, g, q⟩ := h
  obtain ⟨a, b, _, _⟩ := okD_all d g.ok
  exact cr_repr gd hu pins s σ H _ us Q I r ⟨x, d, rfl, g.at_, a, b, g.dp, g.short, q⟩
theorem op_eqG (hu : X.A.units + 64 < cLine) : OpR X (compareOp .Eq) (fun x y H Q => ∃ d e, GD X.K H x d ∧ GD X.K H y e ∧ Q (.bl (PyData.eqv d e)) H) := by
  intro pins s σ H x y v u Q I rx ry h
  obtain ⟨d, e, hd, he, q⟩ := h
  exact op_eqD hu pins s σ H x y v u Q I rx ry ⟨d, e, hd.at_, he.at_, hd.shaped, he.shaped, q⟩
theorem op_neG (hu : X.A.units + 64 < cLine) : OpR X (compareOp .NotEq) (fun x y H Q => ∃ d e, GD X.K H x d ∧ GD X.K H y e ∧ Q (.bl (!PyData.eqv d e)) H) := by
  intro pins s σ H x y v u Q I rx ry h
  obtain ⟨d, e, hd, he, q⟩ := h
  exact op_neD hu pins s σ H x y v u Q I rx ry ⟨d, e, hd.at_, he.at_, hd.shaped, he.shaped, q⟩
end
theorem GD.of {K : PySem.W.Frag} {H : Hp} {a : Addr} {xs : List V} {ds : List PyData} (h : SqL K H a xs) (p : DpAll K H xs ds) (o : okDs ds = true) (b : PyData.bulkAll ds ≤ 10000) (n : PyData.depthAll ds ≤ 59) : GD K H (.ref a) (.list ds) :=
  ⟨.lst h p, by simpa only [okD] using o, by simpa only [PyData.bulk] using b, by simp only [PyData.depth]; omega⟩
theorem GD.ofT {K : PySem.W.Frag} {H : Hp} {a : Addr} {xs : List V} {ds : List PyData} (h : SqT K H a xs) (p : DpAll K H xs ds) (o : okDs ds = true) (b : PyData.bulkAll ds ≤ 10000) (n : PyData.depthAll ds ≤ 59) : GD K H (.ref a) (.tuple ds) :=
  ⟨.tup h p, by simpa only [okD] using o, by simpa only [PyData.bulk] using b, by simp only [PyData.depth]; omega⟩
end EH

namespace EH
open PySem PySem.Spec PyProof.Rows L2
theorem pow_ok {m : Int} (h0 : 0 < m) (h1 : m ≤ 1000000) : m.natAbs < 2 ^ 2000 :=
  Nat.lt_of_lt_of_le (show m.natAbs < 2 ^ 20 by omega) (Nat.pow_le_pow_right (by decide) (by decide))
theorem log2_of_lt {n k : Nat} (hk : 0 < k) (h : n < 2 ^ k) : n.log2 < k := by
  by_cases h0 : n = 0
  · subst h0
    simpa using hk
  · exact (Nat.log2_lt h0).mpr h
end EH

set_option Elab.async false
set_option linter.all false
set_option maxRecDepth 100000
set_option maxHeartbeats 4000000
namespace EH
open PySem PySem.Spec PyProof.Rows L2
def top (i : Nat) : Stmt := PySem.Challenge.pw_everyhalf_k16_whole_trees_counted_for_an.main.body.getD i (.Pass ⟨0, 0, 0, 0⟩)

structure Txt (K : PySem.W.Frag) (mg : Str → Option Value) : Prop where
  n_int : mg "int" = none
  n_len : mg "len" = none
  n_abs : mg "abs" = none
  n_range : mg "range" = none
  n_isinstance : mg "isinstance" = none
  n_bool : mg "bool" = none
  n_sum : mg "sum" = none
  n_repr : mg "repr" = none
  c_MOST_PAIRS : Cst mg "MOST_PAIRS" (.int 200)
  m_comb : mg "comb" = some (.builtin "math.comb")
  m_gcd : mg "gcd" = some (.builtin "math.gcd")
abbrev s_is_integer : Stmt := top 6
abbrev N_is_integer : List Str := ["value"]
theorem sc_is_integer : FnScope N_is_integer ["value"] (defScope s_is_integer) :=
  ⟨rfl, rfl, rfl, by decide +kernel, rfl, by decide +kernel, by decide +kernel⟩
abbrev s_is_within : Stmt := top 7
abbrev N_is_within : List Str := ["value", "least", "most"]
theorem sc_is_within : FnScope N_is_within ["value", "least", "most"] (defScope s_is_within) :=
  ⟨rfl, rfl, rfl, by decide +kernel, rfl, by decide +kernel, by decide +kernel⟩
abbrev s_check_number : Stmt := top 8
abbrev N_check_number : List Str := ["value", "least", "most", "part"]
theorem sc_check_number : FnScope N_check_number ["value", "least", "most", "part"] (defScope s_check_number) :=
  ⟨rfl, rfl, rfl, by decide +kernel, rfl, by decide +kernel, by decide +kernel⟩
abbrev s_check_pairs : Stmt := top 9
abbrev N_check_pairs : List Str := ["pairs"]
theorem sc_check_pairs : FnScope N_check_pairs ["pairs"] (defScope s_check_pairs) :=
  ⟨rfl, rfl, rfl, by decide +kernel, rfl, by decide +kernel, by decide +kernel⟩
abbrev s__ways_on : Stmt := top 12
abbrev N__ways_on : List Str := ["ones", "zeros"]
theorem sc__ways_on : FnScope N__ways_on ["ones", "zeros"] (defScope s__ways_on) :=
  ⟨rfl, rfl, rfl, by decide +kernel, rfl, by decide +kernel, by decide +kernel⟩
abbrev s_how_many_words : Stmt := top 11
abbrev N_how_many_words : List Str := ["pairs"]
theorem sc_how_many_words : FnScope N_how_many_words ["pairs"] (defScope s_how_many_words) :=
  ⟨rfl, rfl, rfl, by decide +kernel, rfl, by decide +kernel, by decide +kernel⟩
abbrev s__coprime : Stmt := top 17
abbrev N__coprime : List Str := ["number", "each"]
theorem sc__coprime : FnScope N__coprime ["number"] (defScope s__coprime) :=
  ⟨rfl, rfl, rfl, by decide +kernel, rfl, by decide +kernel, by decide +kernel⟩
abbrev s__with_place : Stmt := top 16
abbrev N__with_place : List Str := ["pairs", "many", "divisors"]
theorem sc__with_place : FnScope N__with_place ["pairs"] (defScope s__with_place) :=
  ⟨rfl, rfl, rfl, by decide +kernel, rfl, by decide +kernel, by decide +kernel⟩
abbrev s__with_tie : Stmt := top 15
abbrev N__with_tie : List Str := ["pairs", "turned_round"]
theorem sc__with_tie : FnScope N__with_tie ["pairs"] (defScope s__with_tie) :=
  ⟨rfl, rfl, rfl, by decide +kernel, rfl, by decide +kernel, by decide +kernel⟩
abbrev s_how_many_trees : Stmt := top 14
abbrev N_how_many_trees : List Str := ["pairs"]
theorem sc_how_many_trees : FnScope N_how_many_trees ["pairs"] (defScope s_how_many_trees) :=
  ⟨rfl, rfl, rfl, by decide +kernel, rfl, by decide +kernel, by decide +kernel⟩
abbrev s__law_abbey : Stmt := top 19
abbrev N__law_abbey : List Str := ["script", "cell"]
theorem sc__law_abbey : FnScope N__law_abbey ["script"] (defScope s__law_abbey) :=
  ⟨rfl, rfl, rfl, by decide +kernel, rfl, by decide +kernel, by decide +kernel⟩
abbrev s__law_toll : Stmt := top 20
abbrev N__law_toll : List Str := ["abbey", "many", "left", "turn", "cell", "mixed"]
theorem sc__law_toll : FnScope N__law_toll ["abbey", "many"] (defScope s__law_toll) :=
  ⟨rfl, rfl, rfl, by decide +kernel, rfl, by decide +kernel, by decide +kernel⟩
abbrev s__law_one_of : Stmt := top 21
abbrev N__law_one_of : List Str := ["abbey", "some"]
theorem sc__law_one_of : FnScope N__law_one_of ["abbey", "some"] (defScope s__law_one_of) :=
  ⟨rfl, rfl, rfl, by decide +kernel, rfl, by decide +kernel, by decide +kernel⟩
abbrev s__law_lots : Stmt := top 22
abbrev N__law_lots : List Str := ["many", "some", "found", "turn"]
theorem sc__law_lots : FnScope N__law_lots ["many", "some"] (defScope s__law_lots) :=
  ⟨rfl, rfl, rfl, by decide +kernel, rfl, by decide +kernel, by decide +kernel⟩
abbrev s__law_words : Stmt := top 23
abbrev N__law_words : List Str := ["pairs"]
theorem sc__law_words : FnScope N__law_words ["pairs"] (defScope s__law_words) :=
  ⟨rfl, rfl, rfl, by decide +kernel, rfl, by decide +kernel, by decide +kernel⟩
abbrev s__law_common : Stmt := top 24
abbrev N__law_common : List Str := ["one", "other"]
theorem sc__law_common : FnScope N__law_common ["one", "other"] (defScope s__law_common) :=
  ⟨rfl, rfl, rfl, by decide +kernel, rfl, by decide +kernel, by decide +kernel⟩
abbrev s__law_left : Stmt := top 25
abbrev N__law_left : List Str := ["pairs", "turns", "times", "part"]
theorem sc__law_left : FnScope N__law_left ["pairs", "turns"] (defScope s__law_left) :=
  ⟨rfl, rfl, rfl, by decide +kernel, rfl, by decide +kernel, by decide +kernel⟩
abbrev s_law : Stmt := top 26
abbrev N_law : List Str := ["script", "abbey", "lap", "pairs", "turns", "whole", "due"]
theorem sc_law : FnScope N_law ["script"] (defScope s_law) :=
  ⟨rfl, rfl, rfl, by decide +kernel, rfl, by decide +kernel, by decide +kernel⟩
/-! ### the drawing object: a list of the cells, how many were begun, what is left -/
/-- at g stands what draws, at most n cells begun -/
def GA (H : Hp) (g : Addr) (n : Nat) : Prop :=
  ∃ (c : Addr) (cs : List Int) (b : Nat) (r : Int), H g = some (.lst [.ref c, .int b, .int r]) ∧ H c = some (.lst (cs.map V.int)) ∧ c ≠ g ∧ b ≤ n ∧ 0 ≤ r
theorem GA.mono {H : Hp} {g : Addr} {n m : Nat} (h : GA H g n) (l : n ≤ m) : GA H g m := by
  obtain ⟨c, cs, b, r, h1, h2, h3, h4, h5⟩ := h
  exact ⟨c, cs, b, r, h1, h2, h3, Nat.le_trans h4 l, h5⟩
/-- all that was tracked is as it was, but what stands at g -/
def Fm (g : Addr) (H H' : Hp) : Prop := ∀ b o, b ≠ g → H b = some o → H' b = some o
theorem Fm.refl (g : Addr) (H : Hp) : Fm g H H := fun _ _ _ h => h
theorem Fm.trans {g : Addr} {H H1 H2 : Hp} (a : Fm g H H1) (b : Fm g H1 H2) : Fm g H H2 := fun c o n h => b c o n (a c o n h)
theorem Fm.of {g : Addr} {H H' : Hp} (s : Same H H') : Fm g H H' := fun c o _ h => s c o h
theorem Fm.upd {g : Addr} {H : Hp} (o : HO) : Fm g H (upd H g o) := fun c u n h => by
  rw [upd_ne n]
  exact h
theorem Fm.new {g : Addr} {H : Hp} {p : Addr} {o : HO} (h : H p = none) : Fm g H (L2.upd H p o) := Fm.of fun b x e => by
  rw [upd_ne (ne_of_none e h)]
  exact e
theorem GA.new {H : Hp} {g p : Addr} {n : Nat} {o : HO} (h : GA H g n) (hp : H p = none) : GA (upd H p o) g n := by
  obtain ⟨c, cs, b, r, h1, h2, h3, h4, h5⟩ := h
  exact ⟨c, cs, b, r, by rw [upd_ne (ne_of_none h1 hp)]; exact h1, by rw [upd_ne (ne_of_none h2 hp)]; exact h2, h3, h4, h5⟩
theorem GA.same {H H' : Hp} {g : Addr} {n : Nat} (h : GA H g n) (s : Same H H') : GA H' g n := by
  obtain ⟨c, cs, b, r, h1, h2, h3, h4, h5⟩ := h
  exact ⟨c, cs, b, r, s _ _ h1, s _ _ h2, h3, h4, h5⟩
theorem same_new {H : Hp} {p : Addr} {o : HO} (h : H p = none) : Same H (upd H p o) := fun b x e => by
  rw [upd_ne (ne_of_none e h)]
  exact e
theorem Fm.none {g : Addr} {H H' : Hp} (h : Fm g H H') (hg : H g ≠ Option.none) {p : Addr} (hp : H' p = Option.none) (hg' : H' g ≠ Option.none) : H p = Option.none := by
  cases e : H p with
  | none => rfl
  | some o =>
    by_cases q : p = g
    · subst q
      exact absurd hp hg'
    · rw [h p o q e] at hp
      cases hp
theorem GA.some {H : Hp} {g : Addr} {n : Nat} (h : GA H g n) : H g ≠ Option.none := by
  obtain ⟨c, cs, b, r, h1, _⟩ := h
  rw [h1]
  exact Option.some_ne_none _
theorem Fm.sq {K : PySem.W.Frag} {g : Addr} {H H' : Hp} {a : Addr} {xs : List V} (h : Fm g H H') (n : a ≠ g) (s : SqL K H a xs) : SqL K H' a xs := by
  rcases s with (s | ⟨o, s⟩) | s
  · exact .inl (.inl (h _ _ n s))
  · exact .inl (.inr ⟨o, h _ _ n s⟩)
  · exact .inr s
theorem Fm.sqT {K : PySem.W.Frag} {g : Addr} {H H' : Hp} {a : Addr} {xs : List V} (h : Fm g H H') (n : a ≠ g) (s : SqT K H a xs) : SqT K H' a xs := by
  rcases s with (s | ⟨o, s⟩) | s
  · exact .inl (.inl (h _ _ n s))
  · exact .inl (.inr ⟨o, h _ _ n s⟩)
  · exact .inr s
def spGauge (K : PySem.W.Frag) : Sp := fun vs H Q _ => ∃ (a : Addr) (ns : List Int), vs = [.ref a] ∧ SqL K H a (ns.map V.int) ∧ ns.length ≤ 63 ∧
  ∀ (g : Addr) (H' : Hp), Same H H' → H g = none → GA H' g 0 → Q (.ref g) H'
def spTick : Sp := fun vs H Q _ => ∃ (g : Addr) (n : Nat) (m : Int), vs = [.ref g, .int m] ∧ GA H g n ∧ n < 1000000 ∧ 0 < m ∧ m.natAbs < 2 ^ 2000 ∧
  ∀ (H' : Hp) (v : Int), 0 ≤ v → v < m → Fm g H H' → GA H' g (n + 1) → Q (.int v) H'
def spDial (K : PySem.W.Frag) : Sp := fun vs H Q _ => ∃ (g a : Addr) (n : Nat) (xs : List V), vs = [.ref g, .ref a] ∧ GA H g n ∧ n < 1000000 ∧ SqL K H a xs ∧ a ≠ g ∧ 0 < xs.length ∧ xs.length < 1000 ∧
  ∀ (H' : Hp) (v : V), v ∈ xs → Fm g H H' → GA H' g (n + 1) → Q v H'
theorem cut_upto (xs : List V) (k : Nat) : cutV xs none (some (k : Int)) = xs.take k := by
  unfold cutV
  rw [HT.sIx_none, show HT.sIx xs.length xs.length (some (k : Int)) = min k xs.length from HT.sIx_nat xs.length xs.length k, List.drop_zero, Nat.sub_zero]
  rcases Nat.le_total k xs.length with h | h
  · rw [Nat.min_eq_left h]
  · rw [Nat.min_eq_right h, List.take_of_length_le (Nat.le_refl _), List.take_of_length_le h]
theorem natAbs_pow_lt {x : Int} {b : Int} (h0 : 0 ≤ x) (h1 : x < b) : x.natAbs < b.toNat := by omega
section
variable {P : Program} {w : World} {K : PySem.W.Frag} {mg : Str → Option Value} {base : Heap}
theorem ok__law_abbey {f : Addr} {fd : FuncData} (F : Fun K "_law_abbey" "_law_abbey" s__law_abbey f fd) (T : Txt K mg) : FnOk P w K mg base CX0 1 f fd ["script"] (spGauge K) := by
  have nd := sc__law_abbey.nd
  refine F.ok sc__law_abbey (fun vs H Q E h => ?_) (fun cdv A outer s H vs Q E hr h => ?_)
  · obtain ⟨a, ns, rfl, _⟩ := h
    rfl
  · obtain ⟨a, ns, rfl, hS, hl, q⟩ := h
    refine ⟨_, (pss_one (ps_ret (pe_lst (pa_cons (pe_lc (own := [("cell", 1)]) rfl nd (pi_list (pe_slice sl_list (pv 0) po_none (po_some pe_int))) (blkOk_by (N := N__law_abbey) (sc := defScope s__law_abbey) (by decide +kernel)) (fun _ _ _ _ _ => (pg_name (i := 1) nd rfl (by first | exact Or.inl rfl | exact Or.inr rfl))) (fun _ _ _ _ _ => pts_nil) (fun _ _ _ _ _ => (pe_callTy call_int1 (by rfl) T.n_int (by decide +kernel) (pa_cons (pv 1) pa_nil)))) (pa_cons pe_int (pa_cons pe_int pa_nil)))))), ?_⟩
    refine ⟨_, rfl, _, rfl, a, _, rfl, hS, fun p np => ?_⟩
    have e60 : cutV (ns.map V.int) none (some (60 : Int)) = (ns.take 60).map V.int := by
      rw [List.map_take]
      exact cut_upto (ns.map V.int) 60
    rw [e60]
    have hcl : (ns.take 60).length ≤ 60 := List.length_take_le ..
    generalize ns.take 60 = cs at hcl ⊢
    refine ⟨p, rfl, ⟨_, SqL.of upd_same⟩, fun D nD => ?_⟩
    have s1 : Same H (upd H p (.lst (cs.map V.int))) := same_new np
    have npD : p ≠ D := fun e => by
      rw [← e, upd_same] at nD
      cases nD
    refine lc_list (K := K) (a := p) (xs := cs.map V.int) (fun i H' => Same H H' ∧ H' p = some (.lst (cs.map V.int)) ∧ H' D = some (.lst ((cs.take i).map V.int)))
      ⟨s1.trans (same_new nD), by rw [upd_ne npD]; exact upd_same, upd_same⟩ (fun i H' _ h => SqL.of h.2.1) ?_ ?_
    · rintro i x H' hx ⟨sm, hp, hD⟩
      have hi : i < cs.length := by
        have := (List.getElem?_eq_some_iff.mp hx).1
        rw [List.length_map] at this
        exact this
      have ex : x = .int cs[i] := by
        rw [List.getElem?_map, List.getElem?_eq_getElem hi] at hx
        exact (Option.some.inj hx).symm
      subst ex
      refine ⟨rfl, ?_⟩
      dsimp only [tYes]
      rw [if_pos rfl]
      refine ⟨_, rfl, .inl ⟨_, rfl, _, hD, ?_, ?_⟩⟩
      · rw [List.length_map, List.length_take]
        exact Nat.lt_of_le_of_lt (Nat.min_le_right _ _) (small1000 (by omega))
      · refine ⟨fun b o e => ?_, by rw [upd_ne npD]; exact hp, ?_⟩
        · have nb : b ≠ D := fun z => by
            subst z
            rw [same_new np _ _ e] at nD
            cases nD
          rw [upd_ne nb]
          exact sm _ _ e
        · rw [upd_same, List.take_add_one, List.getElem?_eq_getElem hi, List.map_append]
          rfl
    · rintro H' ⟨sm, hp, hD⟩
      refine ⟨by show 3 ≤ sizeLine; decide, fun g ng => ?_⟩
      have ncg : D ≠ g := ne_of_none hD ng
      have eD : (cs.take (cs.map V.int).length).map V.int = cs.map V.int := by
        rw [List.length_map, List.take_length]
      refine q g _ (sm.trans (same_new ng)) (sm.free ng) ⟨D, cs, 0, 0, upd_same, ?_, ncg, Nat.le_refl _, by decide⟩
      rw [upd_ne ncg, hD, eD]

theorem ok__law_toll {f : Addr} {fd : FuncData} (F : Fun K "_law_toll" "_law_toll" s__law_toll f fd) (T : Txt K mg) : FnOk P w K mg base CX0 1 f fd ["abbey", "many"] spTick := by
  have nd := sc__law_toll.nd
  refine F.ok sc__law_toll (fun vs H Q E h => ?_) (fun cdv A outer s H vs Q E hr h => ?_)
  · obtain ⟨g, n, m, rfl, _⟩ := h
    rfl
  · obtain ⟨g, n, m, rfl, ⟨c, cs, b, r, hg, hc, ncg, hb, hr0⟩, hn, hm0, hm1, q⟩ := h
    have hu64 := hr.units
    have nmod : ∀ x : Int, 0 ≤ x % m := fun x => Int.emod_nonneg _ (by omega)
    have lmod : ∀ x : Int, x % m < m := fun x => Int.emod_lt_of_pos _ hm0
    have wd : ∀ x : Int, CDivW x m := fun x => wide_div hm0 hm1 (by decide) (by decide)
    have ix2 : ∀ (b r : Int), atI [V.ref c, V.int b, V.int r] 2 = some (V.int r) := fun _ _ => rfl
    have ix1 : ∀ (b r : Int), atI [V.ref c, V.int b, V.int r] 1 = some (V.int b) := fun _ _ => rfl
    have ix0 : ∀ (b r : Int), atI [V.ref c, V.int b, V.int r] 0 = some (V.ref c) := fun _ _ => rfl
    refine ⟨_, (pss_cons (ps_if (pt_cmpR op_gt (pe_ix ix_list (pv 0) pe_int (fun _ _ => rfl)) pe_int (nomark _))
 (pss_cons (ps_set (i := 2) nd rfl (by first | exact Or.inl rfl | exact Or.inr rfl) (pe_callTy call_int1 (by rfl) T.n_int (by decide +kernel) (pa_cons (pe_ix ix_list (pv 0) pe_int (fun _ _ => rfl)) pa_nil)))
 (pss_cons (ps_asg (pe_op op_fdivW (pv 2) (pv 1)) (pg_sub (pv 0) pe_int set_list))
 (pss_one (ps_ret (pe_op op_mod (pe_callTy call_int1 (by rfl) T.n_int (by decide +kernel) (pa_cons (pv 2) pa_nil)) (pv 1))))))
 pss_nil)
 (pss_cons (ps_set (i := 3) nd rfl (by first | exact Or.inl rfl | exact Or.inr rfl) (pe_ix ix_list (pv 0) pe_int (fun _ _ => rfl)))
 (pss_cons (ps_asg (pe_op op_add (pv 3) pe_int) (pg_sub (pv 0) pe_int set_list))
 (pss_cons (ps_set (i := 4) nd rfl (by first | exact Or.inl rfl | exact Or.inr rfl) (pe_op op_add (pe_op op_mul pe_int (pv 3)) pe_int))
 (pss_cons (ps_if (pt_cmpR (op_neD hu64) (pe_ix ix_list (pv 0) pe_int (fun _ _ => rfl)) (pe_lst pa_nil) (nomark _))
 (pss_one (ps_set (i := 4) nd rfl (by first | exact Or.inl rfl | exact Or.inr rfl) (pe_ix ix_list (pe_ix ix_list (pv 0) pe_int (fun _ _ => rfl)) (pe_op op_mod (pe_callTy call_int1 (by rfl) T.n_int (by decide +kernel) (pa_cons (pv 3) pa_nil)) (pe_callB call_len_seq (by rfl) T.n_len (by decide +kernel) (pa_cons (pe_ix ix_list (pv 0) pe_int (fun _ _ => rfl)) pa_nil))) (fun _ _ => rfl))))
 pss_nil)
 (pss_cons (ps_if (PW.pt (pw_and (pt_cmpR op_lt (pv 3) (pe_callB call_len_seq (by rfl) T.n_len (by decide +kernel) (pa_cons (pe_ix ix_list (pv 0) pe_int (fun _ _ => rfl)) pa_nil)) (nomark _)) (pw_and1 (pt_cmpR op_ge (pe_callB call_abs (by rfl) T.n_abs (by decide +kernel) (pa_cons (pv 4) pa_nil)) (pe_op op_pow pe_int pe_int) (nomark _)))))
 (pss_cons (ps_set (i := 2) nd rfl (by first | exact Or.inl rfl | exact Or.inr rfl) (pe_op op_add (pe_op op_mul pe_int (pe_op op_sub (pe_callB call_abs (by rfl) T.n_abs (by decide +kernel) (pa_cons (pe_callTy call_int1 (by rfl) T.n_int (by decide +kernel) (pa_cons (pv 4) pa_nil)) pa_nil)) (pe_op op_pow pe_int pe_int))) (pe_callTy call_int1 (by rfl) T.n_int (by decide +kernel) (pa_cons (pe_cmpR op_lt (pv 4) pe_int (nomark _)) pa_nil))))
 (pss_cons (ps_asg (pe_op op_fdivW (pv 2) (pv 1)) (pg_sub (pv 0) pe_int set_list))
 (pss_one (ps_ret (pe_op op_mod (pe_callTy call_int1 (by rfl) T.n_int (by decide +kernel) (pa_cons (pv 2) pa_nil)) (pv 1))))))
 pss_nil)
 (pss_cons (ps_set (i := 5) nd rfl (by first | exact Or.inl rfl | exact Or.inr rfl) (pe_op op_mod (pe_callTy call_int1 (by rfl) T.n_int (by decide +kernel) (pa_cons (pe_op op_pow (pe_op op_add (pe_op op_add (pe_op op_mod (pe_callTy call_int1 (by rfl) T.n_int (by decide +kernel) (pa_cons (pv 4) pa_nil)) pe_int) (pe_op op_mul pe_int (pv 3))) pe_int) pe_int) pa_nil)) pe_int))
 (pss_cons (ps_set (i := 5) nd rfl (by first | exact Or.inl rfl | exact Or.inr rfl) (pe_op op_mod (pe_callTy call_int1 (by rfl) T.n_int (by decide +kernel) (pa_cons (pe_op op_pow (pe_op op_add (pe_op op_add (pe_op op_mul (pv 5) (pe_op op_add (pe_op op_mul pe_int (pv 3)) pe_int)) (pe_op op_mul (pe_op op_mul pe_int (pv 3)) (pv 3))) pe_int) pe_int) pa_nil)) pe_int))
 (pss_one (ps_ret (pe_op op_mod (pe_callTy call_int1 (by rfl) T.n_int (by decide +kernel) (pa_cons (pe_op op_fdiv (pv 5) pe_int) pa_nil)) (pv 1)))))))))))), ?_⟩
    -- what is left of a great cell
    refine ⟨_, rfl, g, _, _, _, rfl, rfl, SqL.of hg, ix2 _ _, _, _, rfl, rfl, _, rfl, ?_⟩
    refine ite2 (fun e => ?_) (fun e => ?_)
    · refine ⟨_, rfl, g, _, _, _, rfl, rfl, SqL.of hg, ix2 _ _, .inl ⟨_, rfl, ?_⟩⟩
      refine ⟨_, rfl, _, rfl, _, _, rfl, rfl, wd r, _, rfl, g, _, _, 2, rfl, rfl, hg, rfl, ?_⟩
      refine ⟨_, rfl, .inl ⟨_, rfl, _, rfl, _, _, rfl, rfl, hm0, ?_⟩⟩
      refine q _ _ (nmod _) (lmod _) (Fm.upd _) ⟨c, cs, b, r / m, upd_same, ?_, ncg, by omega, Int.ediv_nonneg hr0 (by omega)⟩
      rw [upd_ne ncg]
      exact hc
    -- the next cell
    refine ⟨_, rfl, g, _, _, _, rfl, rfl, SqL.of hg, ix1 _ _, ?_⟩
    refine ⟨_, rfl, _, _, rfl, rfl, _, rfl, g, _, _, 1, rfl, rfl, hg, rfl, ?_⟩
    have hg1 : (upd H g (.lst [.ref c, .int ((b : Int) + 1), .int r])) g = some (.lst [.ref c, .int ((b : Int) + 1), .int r]) := upd_same
    have hc1 : (upd H g (.lst [.ref c, .int ((b : Int) + 1), .int r])) c = some (.lst (cs.map V.int)) := by
      rw [upd_ne ncg]
      exact hc
    have fm1 : Fm g H (upd H g (.lst [.ref c, .int ((b : Int) + 1), .int r])) := Fm.upd _
    show tSeq _ _ _ _ (upd H g (.lst [.ref c, .int ((b : Int) + 1), .int r]))
    generalize upd H g (.lst [.ref c, .int ((b : Int) + 1), .int r]) = H1 at hg1 hc1 fm1 ⊢
    -- the cell that the place alone tells
    refine ⟨_, rfl, _, _, rfl, rfl, .inl (by omega), _, _, rfl, rfl, ?_⟩
    -- where there are cells: that one
    refine ⟨_, rfl, g, _, _, _, rfl, rfl, SqL.of hg1, ix0 _ _, Nat.zero_le _, fun l nl => ?_⟩
    have hg2 : (upd H1 l (.lst [])) g = some (.lst [.ref c, .int ((b : Int) + 1), .int r]) := by
      rw [upd_ne (ne_of_none hg1 nl)]
      exact hg1
    have hc2 : (upd H1 l (.lst [])) c = some (.lst (cs.map V.int)) := by
      rw [upd_ne (ne_of_none hc1 nl)]
      exact hc1
    have hl2 : (upd H1 l (.lst [])) l = some (.lst []) := upd_same
    have fm2 : Fm g H (upd H1 l (.lst [])) := fm1.trans (Fm.new nl)
    generalize upd H1 l (.lst []) = H2 at hg2 hc2 hl2 fm2 ⊢
    refine ⟨.list (cs.map .int), .list [], .lst (SqL.of hc2) (dp_ints cs), .lst (SqL.of hl2) .nil, sh_ints cs, rfl, _, rfl, ?_⟩
    refine ite2 (fun e2 => ?_) (fun e2 => ?_)
    · have hcs : 0 < cs.length := by
        cases cs with
        | nil => exact absurd e2 (by decide)
        | cons x y => exact Nat.zero_lt_succ _
      have hbl : (b : Int) % ((cs.map V.int).length : Nat) = ((b % cs.length : Nat) : Int) := by
        rw [List.length_map]
        exact (Int.natCast_emod b cs.length).symm
      have hj : b % cs.length < cs.length := Nat.mod_lt _ hcs
      refine ⟨_, rfl, g, _, _, _, rfl, rfl, SqL.of hg2, ix0 _ _, _, rfl, .inl ⟨_, rfl, _, rfl, g, _, _, _, rfl, rfl, SqL.of hg2, ix0 _ _, c, _, rfl, .inl (SqL.of hc2), _, _, rfl, rfl, ?_, c, _, _, .int cs[b % cs.length], rfl, rfl, SqL.of hc2, ?_, ?_⟩⟩
      · rw [List.length_map]
        omega
      · rw [hbl]
        exact atI_nat (by rw [List.getElem?_map, List.getElem?_eq_getElem hj]; rfl)
      · generalize cs[b % cs.length] = cell
        refine ⟨_, rfl, _, rfl, g, _, _, _, rfl, rfl, SqL.of hg2, ix0 _ _, c, _, rfl, .inl (SqL.of hc2), _, _, rfl, rfl, _, rfl, ?_⟩
        refine ite2 (fun e3 => ?_) (fun e3 => iteF ?_)
        · refine ⟨_, rfl, _, rfl, _, _, rfl, rfl, ⟨by decide, by decide, by decide⟩, _, _, rfl, rfl, _, rfl, ?_⟩
          refine ite2 (fun e4 => ?_) (fun e4 => ?_)
          · have e5 := of_decide_eq_true e4
            first
              | refine ⟨_, rfl, _, rfl, _, _, rfl, rfl, ⟨by decide, by decide, by decide⟩, _, _, rfl, rfl, _, _, rfl, rfl, .inl ⟨by decide, by decide⟩, _, rfl, _, _, rfl, rfl, .inr ⟨_, rfl, _, _, rfl, rfl, ?_⟩⟩
              | refine ⟨_, rfl, .inl ⟨_, rfl, _, rfl, _, _, rfl, rfl, ⟨by decide, by decide, by decide⟩, _, _, rfl, rfl, _, _, rfl, rfl, .inl ⟨by decide, by decide⟩, _, rfl, _, _, rfl, rfl, .inr ⟨_, rfl, _, _, rfl, rfl, ?_⟩⟩⟩
            have r0 : 0 ≤ 2 * ((if cell < 0 then -cell else cell) - 10 ^ (18 : Int).toNat) + (if decide (cell < 0) = true then (1 : Int) else 0) := by
              have e6 : (10 : Int) ^ (18 : Int).toNat ≤ (if cell < 0 then -cell else cell) := e5
              split <;> omega
            dsimp only
            generalize 2 * ((if cell < 0 then -cell else cell) - 10 ^ (18 : Int).toNat) + (if decide (cell < 0) = true then (1 : Int) else 0) = r2 at r0 ⊢
            refine ⟨_, rfl, _, rfl, _, _, rfl, rfl, wd r2, _, rfl, g, _, _, 2, rfl, rfl, hg2, rfl, ?_⟩
            refine ⟨_, rfl, .inl ⟨_, rfl, _, rfl, _, _, rfl, rfl, hm0, ?_⟩⟩
            refine q _ _ (nmod _) (lmod _) (fm2.trans (Fm.upd _)) ⟨c, cs, b + 1, r2 / m, upd_same, ?_, ncg, by omega, Int.ediv_nonneg r0 (by omega)⟩
            rw [upd_ne ncg]
            exact hc2
          · refine ⟨_, rfl, .inl ⟨_, rfl, _, _, rfl, rfl, by show (0 : Int) < _; decide, _, rfl, _, _, rfl, rfl, .inl ⟨by decide, by decide⟩, _, _, rfl, rfl, _, _, rfl, rfl, _, _, rfl, rfl, ⟨by decide, by decide, by omega⟩, .inl ⟨_, rfl, _, _, rfl, rfl, by show (0 : Int) < _; decide, ?_⟩⟩⟩
            dsimp only
            have mx0 : 0 ≤ (cell % 2147483629 + 61157 * (b : Int) + 4085) ^ (5 : Int).toNat % 2147483587 := Int.emod_nonneg _ (by decide)
            have mx1 : (cell % 2147483629 + 61157 * (b : Int) + 4085) ^ (5 : Int).toNat % 2147483587 < 2147483587 := Int.emod_lt_of_pos _ (by decide)
            generalize (cell % 2147483629 + 61157 * (b : Int) + 4085) ^ (5 : Int).toNat % 2147483587 = mx at mx0 mx1 ⊢
            have t1 := tick_b1 (x := mx) (b := b) (C := 5209) mx0 (by omega) (by omega) (by omega) (by omega) (by omega)
            have t2 := tick_b2 (D := 90133) (b := b) (by omega) (by omega) (by omega) (by omega)
            refine ⟨_, rfl, _, rfl, _, _, rfl, rfl, .inl ⟨by decide, by decide⟩, _, _, rfl, rfl, _, _, rfl, rfl, .inl ⟨by omega, by omega⟩, _, rfl, _, _, rfl, rfl, .inl ⟨by decide, by decide⟩, _, rfl, _, _, rfl, rfl, .inr ⟨by omega, by omega⟩, _, _, rfl, rfl, _, _, rfl, rfl, _, _, rfl, rfl, ⟨by decide, by decide, by omega⟩, .inl ⟨_, rfl, _, _, rfl, rfl, by show (0 : Int) < _; decide, ?_⟩⟩
            refine ⟨_, rfl, _, _, rfl, rfl, ⟨by decide, by decide⟩, .inl ⟨_, rfl, _, rfl, _, _, rfl, rfl, hm0, ?_⟩⟩
            exact q _ _ (nmod _) (lmod _) fm2 ⟨c, cs, b + 1, r, hg2, hc2, ncg, by omega, hr0⟩
        · refine ⟨_, rfl, .inl ⟨_, rfl, _, _, rfl, rfl, by show (0 : Int) < _; decide, _, rfl, _, _, rfl, rfl, .inl ⟨by decide, by decide⟩, _, _, rfl, rfl, _, _, rfl, rfl, _, _, rfl, rfl, ⟨by decide, by decide, by omega⟩, .inl ⟨_, rfl, _, _, rfl, rfl, by show (0 : Int) < _; decide, ?_⟩⟩⟩
          dsimp only
          have mx0 : 0 ≤ (cell % 2147483629 + 61157 * (b : Int) + 4085) ^ (5 : Int).toNat % 2147483587 := Int.emod_nonneg _ (by decide)
          have mx1 : (cell % 2147483629 + 61157 * (b : Int) + 4085) ^ (5 : Int).toNat % 2147483587 < 2147483587 := Int.emod_lt_of_pos _ (by decide)
          generalize (cell % 2147483629 + 61157 * (b : Int) + 4085) ^ (5 : Int).toNat % 2147483587 = mx at mx0 mx1 ⊢
          have t1 := tick_b1 (x := mx) (b := b) (C := 5209) mx0 (by omega) (by omega) (by omega) (by omega) (by omega)
          have t2 := tick_b2 (D := 90133) (b := b) (by omega) (by omega) (by omega) (by omega)
          refine ⟨_, rfl, _, rfl, _, _, rfl, rfl, .inl ⟨by decide, by decide⟩, _, _, rfl, rfl, _, _, rfl, rfl, .inl ⟨by omega, by omega⟩, _, rfl, _, _, rfl, rfl, .inl ⟨by decide, by decide⟩, _, rfl, _, _, rfl, rfl, .inr ⟨by omega, by omega⟩, _, _, rfl, rfl, _, _, rfl, rfl, _, _, rfl, rfl, ⟨by decide, by decide, by omega⟩, .inl ⟨_, rfl, _, _, rfl, rfl, by show (0 : Int) < _; decide, ?_⟩⟩
          refine ⟨_, rfl, _, _, rfl, rfl, ⟨by decide, by decide⟩, .inl ⟨_, rfl, _, rfl, _, _, rfl, rfl, hm0, ?_⟩⟩
          exact q _ _ (nmod _) (lmod _) fm2 ⟨c, cs, b + 1, r, hg2, hc2, ncg, by omega, hr0⟩
    · dsimp only
      generalize 90133 * (b : Int) + 4085 = cell
      refine ⟨_, rfl, _, rfl, g, _, _, _, rfl, rfl, SqL.of hg2, ix0 _ _, c, _, rfl, .inl (SqL.of hc2), _, _, rfl, rfl, _, rfl, ?_⟩
      refine ite2 (fun e3 => ?_) (fun e3 => iteF ?_)
      · refine ⟨_, rfl, _, rfl, _, _, rfl, rfl, ⟨by decide, by decide, by decide⟩, _, _, rfl, rfl, _, rfl, ?_⟩
        refine ite2 (fun e4 => ?_) (fun e4 => ?_)
        · have e5 := of_decide_eq_true e4
          first
            | refine ⟨_, rfl, _, rfl, _, _, rfl, rfl, ⟨by decide, by decide, by decide⟩, _, _, rfl, rfl, _, _, rfl, rfl, .inl ⟨by decide, by decide⟩, _, rfl, _, _, rfl, rfl, .inr ⟨_, rfl, _, _, rfl, rfl, ?_⟩⟩
            | refine ⟨_, rfl, .inl ⟨_, rfl, _, rfl, _, _, rfl, rfl, ⟨by decide, by decide, by decide⟩, _, _, rfl, rfl, _, _, rfl, rfl, .inl ⟨by decide, by decide⟩, _, rfl, _, _, rfl, rfl, .inr ⟨_, rfl, _, _, rfl, rfl, ?_⟩⟩⟩
          have r0 : 0 ≤ 2 * ((if cell < 0 then -cell else cell) - 10 ^ (18 : Int).toNat) + (if decide (cell < 0) = true then (1 : Int) else 0) := by
            have e6 : (10 : Int) ^ (18 : Int).toNat ≤ (if cell < 0 then -cell else cell) := e5
            split <;> omega
          dsimp only
          generalize 2 * ((if cell < 0 then -cell else cell) - 10 ^ (18 : Int).toNat) + (if decide (cell < 0) = true then (1 : Int) else 0) = r2 at r0 ⊢
          refine ⟨_, rfl, _, rfl, _, _, rfl, rfl, wd r2, _, rfl, g, _, _, 2, rfl, rfl, hg2, rfl, ?_⟩
          refine ⟨_, rfl, .inl ⟨_, rfl, _, rfl, _, _, rfl, rfl, hm0, ?_⟩⟩
          refine q _ _ (nmod _) (lmod _) (fm2.trans (Fm.upd _)) ⟨c, cs, b + 1, r2 / m, upd_same, ?_, ncg, by omega, Int.ediv_nonneg r0 (by omega)⟩
          rw [upd_ne ncg]
          exact hc2
        · refine ⟨_, rfl, .inl ⟨_, rfl, _, _, rfl, rfl, by show (0 : Int) < _; decide, _, rfl, _, _, rfl, rfl, .inl ⟨by decide, by decide⟩, _, _, rfl, rfl, _, _, rfl, rfl, _, _, rfl, rfl, ⟨by decide, by decide, by omega⟩, .inl ⟨_, rfl, _, _, rfl, rfl, by show (0 : Int) < _; decide, ?_⟩⟩⟩
          dsimp only
          have mx0 : 0 ≤ (cell % 2147483629 + 61157 * (b : Int) + 4085) ^ (5 : Int).toNat % 2147483587 := Int.emod_nonneg _ (by decide)
          have mx1 : (cell % 2147483629 + 61157 * (b : Int) + 4085) ^ (5 : Int).toNat % 2147483587 < 2147483587 := Int.emod_lt_of_pos _ (by decide)
          generalize (cell % 2147483629 + 61157 * (b : Int) + 4085) ^ (5 : Int).toNat % 2147483587 = mx at mx0 mx1 ⊢
          have t1 := tick_b1 (x := mx) (b := b) (C := 5209) mx0 (by omega) (by omega) (by omega) (by omega) (by omega)
          have t2 := tick_b2 (D := 90133) (b := b) (by omega) (by omega) (by omega) (by omega)
          refine ⟨_, rfl, _, rfl, _, _, rfl, rfl, .inl ⟨by decide, by decide⟩, _, _, rfl, rfl, _, _, rfl, rfl, .inl ⟨by omega, by omega⟩, _, rfl, _, _, rfl, rfl, .inl ⟨by decide, by decide⟩, _, rfl, _, _, rfl, rfl, .inr ⟨by omega, by omega⟩, _, _, rfl, rfl, _, _, rfl, rfl, _, _, rfl, rfl, ⟨by decide, by decide, by omega⟩, .inl ⟨_, rfl, _, _, rfl, rfl, by show (0 : Int) < _; decide, ?_⟩⟩
          refine ⟨_, rfl, _, _, rfl, rfl, ⟨by decide, by decide⟩, .inl ⟨_, rfl, _, rfl, _, _, rfl, rfl, hm0, ?_⟩⟩
          exact q _ _ (nmod _) (lmod _) fm2 ⟨c, cs, b + 1, r, hg2, hc2, ncg, by omega, hr0⟩
      · refine ⟨_, rfl, .inl ⟨_, rfl, _, _, rfl, rfl, by show (0 : Int) < _; decide, _, rfl, _, _, rfl, rfl, .inl ⟨by decide, by decide⟩, _, _, rfl, rfl, _, _, rfl, rfl, _, _, rfl, rfl, ⟨by decide, by decide, by omega⟩, .inl ⟨_, rfl, _, _, rfl, rfl, by show (0 : Int) < _; decide, ?_⟩⟩⟩
        dsimp only
        have mx0 : 0 ≤ (cell % 2147483629 + 61157 * (b : Int) + 4085) ^ (5 : Int).toNat % 2147483587 := Int.emod_nonneg _ (by decide)
        have mx1 : (cell % 2147483629 + 61157 * (b : Int) + 4085) ^ (5 : Int).toNat % 2147483587 < 2147483587 := Int.emod_lt_of_pos _ (by decide)
        generalize (cell % 2147483629 + 61157 * (b : Int) + 4085) ^ (5 : Int).toNat % 2147483587 = mx at mx0 mx1 ⊢
        have t1 := tick_b1 (x := mx) (b := b) (C := 5209) mx0 (by omega) (by omega) (by omega) (by omega) (by omega)
        have t2 := tick_b2 (D := 90133) (b := b) (by omega) (by omega) (by omega) (by omega)
        refine ⟨_, rfl, _, rfl, _, _, rfl, rfl, .inl ⟨by decide, by decide⟩, _, _, rfl, rfl, _, _, rfl, rfl, .inl ⟨by omega, by omega⟩, _, rfl, _, _, rfl, rfl, .inl ⟨by decide, by decide⟩, _, rfl, _, _, rfl, rfl, .inr ⟨by omega, by omega⟩, _, _, rfl, rfl, _, _, rfl, rfl, _, _, rfl, rfl, ⟨by decide, by decide, by omega⟩, .inl ⟨_, rfl, _, _, rfl, rfl, by show (0 : Int) < _; decide, ?_⟩⟩
        refine ⟨_, rfl, _, _, rfl, rfl, ⟨by decide, by decide⟩, .inl ⟨_, rfl, _, rfl, _, _, rfl, rfl, hm0, ?_⟩⟩
        exact q _ _ (nmod _) (lmod _) fm2 ⟨c, cs, b + 1, r, hg2, hc2, ncg, by omega, hr0⟩

theorem ok__law_one_of {f : Addr} {fd : FuncData} (F : Fun K "_law_one_of" "_law_one_of" s__law_one_of f fd) (T : Txt K mg) (c__law_toll : Cl P w K mg base 1 "_law_toll" spTick) : FnOk P w K mg base CX0 2 f fd ["abbey", "some"] (spDial K) := by
  have nd := sc__law_one_of.nd
  refine F.ok sc__law_one_of (fun vs H Q E h => ?_) (fun cdv A outer s H vs Q E hr h => ?_)
  · obtain ⟨g, a, n, xs, rfl, _⟩ := h
    rfl
  · obtain ⟨g, a, n, xs, rfl, hG, hn, hS, nag, hl0, hl1, q⟩ := h
    refine ⟨_, (pss_one (ps_ret (pe_ix ix_list (pv 1) (pe_f c__law_toll hr (by decide) (by rfl) (pa_cons (pv 0) (pa_cons (pe_callB call_len_seq (by rfl) T.n_len (by decide +kernel) (pa_cons (pv 1) pa_nil)) pa_nil))) (fun _ _ => rfl)))), ?_⟩
    have p2 : 1000 < 2 ^ 2000 := Nat.lt_of_lt_of_le (by decide : 1000 < 2 ^ 10) (Nat.pow_le_pow_right (by decide) (by decide))
    refine ⟨_, rfl, _, rfl, _, rfl, a, xs, rfl, .inl hS, g, n, xs.length, rfl, hG, hn, by omega, ?_, fun H' v hv0 hv1 fm ga => ?_⟩
    · rw [Int.natAbs_natCast]
      exact Nat.lt_trans hl1 p2
    · obtain ⟨j, rfl⟩ : ∃ j : Nat, v = (j : Int) := ⟨v.toNat, by omega⟩
      have hj : j < xs.length := by omega
      exact ⟨a, xs, _, xs[j], rfl, rfl, fm.sq nag hS, atI_nat (List.getElem?_eq_getElem hj), q H' _ (List.getElem_mem hj) fm ga⟩
end

/-! ### checks of numbers -/
/-- a bound: none, or an integer -/
def Bd (x : V) : Prop := x = .non ∨ ∃ a, x = .int a
def isW (v lo hi : V) : Bool :=
  match v with
  | .int i => (match lo with | .int a => decide (a ≤ i) | _ => true) && (match hi with | .int b => decide (i ≤ b) | _ => true)
  | _ => false
def spIsInt (K : PySem.W.Frag) : Sp := fun vs H Q _ => ∃ (v : V) (t : String), vs = [v] ∧ TyB K H v t ∧ Q (.bl (t == "int")) H
def spWithin (K : PySem.W.Frag) : Sp := fun vs H Q _ => ∃ (v lo hi : V) (t : String), vs = [v, lo, hi] ∧ TyB K H v t ∧ Bd lo ∧ Bd hi ∧ Q (.bl (isW v lo hi)) H
def spCheck (K : PySem.W.Frag) : Sp := fun vs H Q _ => ∃ (v lo hi p : V) (t : String), vs = [v, lo, hi, p] ∧ TyB K H v t ∧ Bd lo ∧ Bd hi ∧ isW v lo hi = true ∧ Q .non H
theorem ty_only : ∀ t ∈ kinds, (if isSub t "int" = true then !isSub t "bool" else false) = (t == "int") := by decide
theorem tyb_int {K : PySem.W.Frag} {H : Hp} {v : V} {t : String} (h : TyB K H v t) (e : (t == "int") = true) : ∃ i, v = .int i := by
  cases h with
  | int i => exact ⟨i, rfl⟩
  | _ => exact absurd e (by decide)
theorem tyb_noint {K : PySem.W.Frag} {H : Hp} {v : V} {t : String} (h : TyB K H v t) (e : ¬ (t == "int") = true) (lo hi : V) : isW v lo hi = false := by
  cases h with
  | int i => exact absurd (by decide) e
  | _ => rfl
section
variable {P : Program} {w : World} {K : PySem.W.Frag} {mg : Str → Option Value} {base : Heap}
theorem ok_is_integer {f : Addr} {fd : FuncData} (F : Fun K "is_integer" "is_integer" s_is_integer f fd) (T : Txt K mg) : FnOk P w K mg base CX0 1 f fd ["value"] (spIsInt K) := by
  have nd := sc_is_integer.nd
  refine F.ok sc_is_integer (fun vs H Q E h => ?_) (fun cdv A outer s H vs Q E hr h => ?_)
  · obtain ⟨v, t, rfl, _⟩ := h
    rfl
  · obtain ⟨v, t, rfl, ht, q⟩ := h
    refine ⟨_, (pss_one (ps_ret (pe_and (pe_callB call_is (by rfl) T.n_isinstance (by decide +kernel) (pa_cons (pv 0) (pa_cons (pe_bltn (v := .ty "int") (by rfl) T.n_int (by decide +kernel) rfl) pa_nil))) (pe_one (pe_not (pe_callB call_is (by rfl) T.n_isinstance (by decide +kernel) (pa_cons (pv 0) (pa_cons (pe_bltn (v := .ty "bool") (by rfl) T.n_bool (by decide +kernel) rfl) pa_nil)))))))), ?_⟩
    rw [← ty_only t (tyb_kind ht)] at q
    refine ⟨_, rfl, v, t, "int", rfl, ht, by decide, _, rfl, ?_⟩
    refine ite2 (fun e => ?_) (fun e => ?_)
    · rw [if_pos e] at q
      exact ⟨_, rfl, v, t, "bool", rfl, ht, by decide, _, rfl, q⟩
    · rw [if_neg e] at q
      exact q
theorem ok_is_within {f : Addr} {fd : FuncData} (F : Fun K "is_within" "is_within" s_is_within f fd) (T : Txt K mg) (c_is_integer : Cl P w K mg base 1 "is_integer" (spIsInt K)) :
    FnOk P w K mg base CX0 2 f fd ["value", "least", "most"] (spWithin K) := by
  have nd := sc_is_within.nd
  refine F.ok sc_is_within (fun vs H Q E h => ?_) (fun cdv A outer s H vs Q E hr h => ?_)
  · obtain ⟨v, lo, hi, t, rfl, _⟩ := h
    rfl
  · obtain ⟨v, lo, hi, t, rfl, ht, hlo, hhi, q⟩ := h
    refine ⟨_, (pss_cons (ps_if (pt_not (pt_val (pe_f c_is_integer hr (by decide) (by rfl) (pa_cons (pv 0) pa_nil))))
 (pss_one (ps_ret pe_bl))
 pss_nil)
 (pss_cons (ps_if (PW.pt (pw_and (pt_cmpR op_notN (pv 1) pe_non (nomark _)) (pw_and1 (pt_cmpR op_lt (pv 0) (pv 1) (nomark _)))))
 (pss_one (ps_ret pe_bl))
 pss_nil)
 (pss_one (ps_ret (pe_or (pe_cmpR op_isN (pv 2) pe_non (nomark _)) (pe_one (pe_cmpR op_le (pv 0) (pv 2) (nomark _)))))))), ?_⟩
    refine ⟨_, rfl, v, t, rfl, ht, _, rfl, ?_⟩
    by_cases ei : (t == "int") = true
    · obtain ⟨i, rfl⟩ := tyb_int ht ei
      rw [ei]
      refine iteF ?_
      have up : ∀ lo', isW (.int i) lo' hi = isW (.int i) .non hi → Q (.bl (isW (.int i) lo' hi)) H → (tOrV (tOp (fun x y H Q => y = V.non ∧ Q (.bl (decide (x = .non))) H) (tVar 2) (tC .non)) (tOp (rI0 fun i j => .bl (decide (i ≤ j))) (tVar 0) (tVar 2))) [some (.int i), some lo', some hi] H Q := by
        intro lo' e1 q
        rw [e1] at q
        refine ⟨hi, rfl, rfl, _, rfl, ?_⟩
        rcases hhi with rfl | ⟨b, rfl⟩
        · exact q
        · refine (if_neg (by simp)).mpr ?_
          exact ⟨_, rfl, _, rfl, _, _, rfl, rfl, by simpa [isW] using q⟩
      refine ⟨lo, rfl, rfl, _, rfl, ?_⟩
      rcases hlo with rfl | ⟨a, rfl⟩
      · refine (if_neg (by decide)).mpr ?_
        refine iteF ?_
        exact up _ rfl q
      · refine (if_pos (by simp)).mpr ?_
        refine ⟨_, rfl, _, rfl, _, _, rfl, rfl, _, rfl, ?_⟩
        refine ite2 (fun e => ?_) (fun e => ?_)
        · have e2 : i < a := of_decide_eq_true e
          have e3 : isW (.int i) (.int a) hi = false := by
            show (decide (a ≤ i) && _) = false
            rw [decide_eq_false (by omega), Bool.false_and]
          rw [e3] at q
          exact q
        · have e2 : ¬ i < a := fun z => e (decide_eq_true z)
          refine up _ ?_ q
          show (decide (a ≤ i) && _) = (true && _)
          rw [decide_eq_true (by omega)]
          rfl
    · rw [Bool.eq_false_iff.mpr ei]
      refine iteT ?_
      rw [tyb_noint ht ei] at q
      exact q
theorem ok_check_number {f : Addr} {fd : FuncData} (F : Fun K "check_number" "check_number" s_check_number f fd) (T : Txt K mg) (c_is_within : Cl P w K mg base 2 "is_within" (spWithin K)) :
    FnOk P w K mg base CX0 3 f fd ["value", "least", "most", "part"] (spCheck K) := by
  have nd := sc_check_number.nd
  refine F.ok sc_check_number (fun vs H Q E h => ?_) (fun cdv A outer s H vs Q E hr h => ?_)
  · obtain ⟨v, lo, hi, p, t, rfl, _⟩ := h
    rfl
  · obtain ⟨v, lo, hi, p, t, rfl, ht, hlo, hhi, e, q⟩ := h
    refine ⟨_, (pss_one (ps_if (pt_not (pt_val (pe_f c_is_within hr (by decide) (by rfl) (pa_cons (pv 0) (pa_cons (pv 1) (pa_cons (pv 2) pa_nil))))))
 (pss_one ps_never)
 pss_nil)), ?_⟩
    refine ⟨_, rfl, _, rfl, _, rfl, v, lo, hi, t, rfl, ht, hlo, hhi, _, rfl, ?_⟩
    rw [e]
    exact iteF q
end

def spPairs : Sp := fun vs H Q _ => ∃ n : Nat, vs = [.int n] ∧ 1 ≤ n ∧ n ≤ 200 ∧ Q .non H
/-- in how many ways a word goes on -/
def wayI (o : Nat) (z : Int) : Int := if o = 0 then 1 else (chs (o + z.toNat) o : Int) - (chs (o + z.toNat) (o - 1) : Int)
def catI (n : Nat) : Int := (chs (n + n) n : Int) - (chs (n + n) (n - 1) : Int)
def spWays : Sp := fun vs H Q _ => ∃ (o : Nat) (z : Int), vs = [.int o, .int z] ∧ (o = 0 ∨ (0 ≤ z ∧ z ≤ 1000 ∧ o ≤ 1000)) ∧ Q (.int (wayI o z)) H
def spWords : Sp := fun vs H Q _ => ∃ n : Nat, vs = [.int n] ∧ 1 ≤ n ∧ n ≤ 200 ∧ Q (.int (catI n)) H
section
variable {P : Program} {w : World} {K : PySem.W.Frag} {mg : Str → Option Value} {base : Heap}
theorem ok_check_pairs {f : Addr} {fd : FuncData} (F : Fun K "check_pairs" "check_pairs" s_check_pairs f fd) (T : Txt K mg) (c_check_number : Cl P w K mg base 3 "check_number" (spCheck K)) :
    FnOk P w K mg base CX0 4 f fd ["pairs"] spPairs := by
  have nd := sc_check_pairs.nd
  refine F.ok sc_check_pairs (fun vs H Q E h => ?_) (fun cdv A outer s H vs Q E hr h => ?_)
  · obtain ⟨n, rfl, _⟩ := h
    rfl
  · obtain ⟨n, rfl, h1, h2, q⟩ := h
    refine ⟨_, (pss_one (ps_expr (pe_f c_check_number hr (by decide) (by rfl) (pa_cons (pv 0) (pa_cons pe_int (pa_cons (pe_cst T.c_MOST_PAIRS (by rfl)) (pa_cons pe_str pa_nil))))))), ?_⟩
    refine ⟨_, rfl, _, _, _, _, "int", rfl, .int _, .inr ⟨_, rfl⟩, .inr ⟨_, rfl⟩, ?_, q⟩
    show (decide ((1 : Int) ≤ n) && decide ((n : Int) ≤ 200)) = true
    rw [decide_eq_true (by omega), decide_eq_true (by omega)]
    rfl
theorem ok__ways_on {f : Addr} {fd : FuncData} (F : Fun K "_ways_on" "_ways_on" s__ways_on f fd) (T : Txt K mg) : FnOk P w K mg base CX0 1 f fd ["ones", "zeros"] spWays := by
  have nd := sc__ways_on.nd
  refine F.ok sc__ways_on (fun vs H Q E h => ?_) (fun cdv A outer s H vs Q E hr h => ?_)
  · obtain ⟨o, z, rfl, _⟩ := h
    rfl
  · obtain ⟨o, z, rfl, hb, q⟩ := h
    refine ⟨_, (pss_cons (ps_if (pt_cmpR op_eq (pv 0) pe_int (nomark _))
 (pss_one (ps_ret pe_int))
 pss_nil)
 (pss_one (ps_ret (pe_op op_sub (pe_callBfun cr_comb (by rfl) T.m_comb (pa_cons (pe_op op_add (pv 0) (pv 1)) (pa_cons (pv 0) pa_nil))) (pe_callBfun cr_comb (by rfl) T.m_comb (pa_cons (pe_op op_add (pv 0) (pv 1)) (pa_cons (pe_op op_sub (pv 0) pe_int) pa_nil))))))), ?_⟩
    refine ⟨_, rfl, rfl, _, rfl, ?_⟩
    by_cases e : o = 0
    · subst e
      refine (if_pos (by rfl)).mpr ?_
      exact q
    · refine (if_neg (by simpa using e)).mpr ?_
      obtain ⟨h0, h1, h2⟩ := hb.resolve_left e
      obtain ⟨zn, rfl⟩ : ∃ zn : Nat, z = (zn : Int) := ⟨z.toNat, by omega⟩
      refine ⟨_, rfl, _, rfl, _, _, rfl, rfl, _, rfl, o + zn, o, ?_, by omega, ?_⟩
      · show [V.int ((o : Int) + (zn : Int)), V.int o] = _
        rw [Int.natCast_add]
      · refine ⟨_, rfl, _, rfl, _, _, rfl, rfl, _, rfl, _, _, rfl, rfl, o + zn, o - 1, ?_, by omega, _, _, rfl, rfl, ?_⟩
        · show [V.int ((o : Int) + (zn : Int)), V.int ((o : Int) - 1)] = _
          rw [Int.natCast_add, Int.natCast_sub (by omega)]
          rfl
        · unfold wayI at q
          rw [if_neg e, Int.toNat_natCast] at q
          exact q
theorem ok_how_many_words {f : Addr} {fd : FuncData} (F : Fun K "how_many_words" "how_many_words" s_how_many_words f fd) (T : Txt K mg) (c_check_pairs : Cl P w K mg base 4 "check_pairs" spPairs)
    (c__ways_on : Cl P w K mg base 1 "_ways_on" spWays) : FnOk P w K mg base CX0 5 f fd ["pairs"] spWords := by
  have nd := sc_how_many_words.nd
  refine F.ok sc_how_many_words (fun vs H Q E h => ?_) (fun cdv A outer s H vs Q E hr h => ?_)
  · obtain ⟨n, rfl, _⟩ := h
    rfl
  · obtain ⟨n, rfl, h1, h2, q⟩ := h
    refine ⟨_, (pss_cons (ps_expr (pe_f c_check_pairs hr (by decide) (by rfl) (pa_cons (pv 0) pa_nil)))
 (pss_one (ps_ret (pe_f c__ways_on hr (by decide) (by rfl) (pa_cons (pv 0) (pa_cons (pv 0) pa_nil)))))), ?_⟩
    refine ⟨_, rfl, n, rfl, h1, h2, ?_⟩
    refine ⟨_, rfl, _, rfl, n, n, rfl, .inr ⟨by omega, by omega, by omega⟩, ?_⟩
    have e : wayI n n = catI n := by
      unfold wayI catI
      rw [if_neg (by omega), Int.toNat_natCast]
    rw [e]
    exact q
end

/-! ### how many trees -/
def copN (n : Nat) : Nat := ((List.range n).filter fun i => Nat.gcd (i + 1) n == 1).length
def divN (n : Nat) : List Nat := ((List.range n).map (· + 1)).filter fun m => n % m == 0
def placeN (n : Nat) : Nat := ((divN n).map fun m => copN (n / m) * chs (2 * m) m).sum / (2 * n)
def tieI (n : Nat) : Int := (catI n + (if n = 1 then 1 else if n % 2 = 1 then catI (n / 2) else 0)) / 2
def treesI (n : Nat) : Int := (placeN n : Int) + tieI n - catI n
def spCop : Sp := fun vs H Q _ => ∃ n : Nat, vs = [.int n] ∧ n ≤ 1000 ∧ ∀ H', Same H H' → Q (.int (copN n : Nat)) H'
def spPlace : Sp := fun vs H Q _ => ∃ n : Nat, vs = [.int n] ∧ 1 ≤ n ∧ n ≤ 200 ∧ ∀ H', Same H H' → Q (.int (placeN n : Nat)) H'
def spTie : Sp := fun vs H Q _ => ∃ n : Nat, vs = [.int n] ∧ 1 ≤ n ∧ n ≤ 200 ∧ Q (.int (tieI n)) H
def spTrees : Sp := fun vs H Q _ => ∃ n : Nat, vs = [.int n] ∧ 1 ≤ n ∧ n ≤ 200 ∧ ∀ H', Same H H' → Q (.int (treesI n)) H'
theorem filter_take_succ {α : Type} (p : α → Bool) (xs : List α) (i : Nat) (h : i < xs.length) : (xs.take (i + 1)).filter p = (xs.take i).filter p ++ (if p xs[i] = true then [xs[i]] else []) := by
  rw [List.take_add_one, List.getElem?_eq_getElem h, List.filter_append]
  congr 1
  by_cases e : p xs[i] = true
  · rw [if_pos e]
    exact List.filter_cons_of_pos e
  · rw [if_neg e]
    exact List.filter_cons_of_neg e
theorem copN_le (n : Nat) : copN n ≤ n := by
  unfold copN
  exact Nat.le_trans (List.length_filter_le ..) (by rw [List.length_range]; exact Nat.le_refl _)
theorem mem_divN {n m : Nat} (h : m ∈ divN n) : 1 ≤ m ∧ m ≤ n := by
  unfold divN at h
  obtain ⟨h1, _⟩ := List.mem_filter.mp h
  obtain ⟨i, hi, rfl⟩ := List.mem_map.mp h1
  have := List.mem_range.mp hi
  omega
theorem divN_len (n : Nat) : (divN n).length ≤ n := by
  unfold divN
  exact Nat.le_trans (List.length_filter_le ..) (by rw [List.length_map, List.length_range]; exact Nat.le_refl _)
section
variable {P : Program} {w : World} {K : PySem.W.Frag} {mg : Str → Option Value} {base : Heap}
theorem ok__coprime {f : Addr} {fd : FuncData} (F : Fun K "_coprime" "_coprime" s__coprime f fd) (T : Txt K mg) : FnOk P w K mg base CX0 1 f fd ["number"] spCop := by
  have nd := sc__coprime.nd
  refine F.ok sc__coprime (fun vs H Q E h => ?_) (fun cdv A outer s H vs Q E hr h => ?_)
  · obtain ⟨n, rfl, _⟩ := h
    rfl
  · obtain ⟨n, rfl, hn, q⟩ := h
    refine ⟨_, (pss_one (ps_ret (pe_callB call_len_seq (by rfl) T.n_len (by decide +kernel) (pa_cons (pe_lc (own := [("each", 1)]) rfl nd (pi_range2 (by rfl) T.n_range (pa_cons pe_int (pa_cons (pe_op op_add (pv 0) pe_int) pa_nil))) (blkOk_by (N := N__coprime) (sc := defScope s__coprime) (by decide +kernel)) (fun _ _ _ _ _ => (pg_name (i := 1) nd rfl (by first | exact Or.inl rfl | exact Or.inr rfl))) (fun _ _ _ _ _ => (pts_one (pt_cmpR op_eq (pe_callBfun cr_gcd (by rfl) T.m_gcd (pa_cons (pv 1) (pa_cons (pv 0) pa_nil))) pe_int (nomark _)))) (fun _ _ _ _ _ => (pv 1))) pa_nil)))), ?_⟩
    refine ⟨_, rfl, _, _, rfl, rfl, 1, (n : Int) + 1, rfl, ⟨by omega, by omega, by omega, by omega⟩, fun D nD => ?_⟩
    have en : ((n : Int) + 1 - 1).toNat = n := by omega
    rw [en]
    refine lc_range (lo := 1) (n := n) (fun i H' => Same H H' ∧ H' D = some (.lst ((((List.range n).take i).filter fun i => Nat.gcd (i + 1) n == 1).map fun i : Nat => V.int (1 + (i : Int))))) ⟨same_new nD, upd_same⟩ ?_ ?_
    · rintro i H' hi ⟨sm, hD⟩
      have hl : i < (List.range n).length := by
        rw [List.length_range]
        exact hi
      have fs := filter_take_succ (fun i => Nat.gcd (i + 1) n == 1) (List.range n) i hl
      rw [List.getElem_range] at fs
      refine ⟨rfl, ?_⟩
      refine ⟨_, rfl, _, rfl, _, _, rfl, rfl, _, rfl, ?_⟩
      have eg : Nat.gcd ((1 : Int) + (i : Int)).natAbs ((n : Nat) : Int).natAbs = Nat.gcd (i + 1) n := by
        rw [Int.natAbs_natCast]
        congr 1
        omega
      by_cases e : Nat.gcd (i + 1) n = 1
      · refine (if_pos (decide_eq_true (by rw [eg, e]; rfl))).mpr ?_
        rw [if_pos (by simpa using e)] at fs
        refine ⟨_, rfl, _, hD, ?_, same_put sm nD, ?_⟩
        · rw [List.length_map]
          refine Nat.lt_of_le_of_lt (Nat.le_trans (List.length_filter_le ..) (List.length_take_le ..)) (small1000 (by omega))
        · rw [upd_same, fs, List.map_append]
          rfl
      · refine (if_neg (fun z => e (by have z2 := V.int.inj (of_decide_eq_true z); rw [eg] at z2; omega))).mpr ?_
        rw [if_neg (by simpa using e), List.append_nil] at fs
        exact ⟨sm, by rw [fs]; exact hD⟩
    · rintro H' ⟨sm, hD⟩
      refine ⟨D, _, rfl, .inl (SqL.of hD), ?_⟩
      have el : (((((List.range n).take n).filter fun i => Nat.gcd (i + 1) n == 1).map fun i : Nat => V.int (1 + (i : Int))).length : Nat) = copN n := by
        rw [List.length_map, List.take_of_length_le (by rw [List.length_range]; exact Nat.le_refl _)]
        rfl
      rw [el]
      exact q _ sm
theorem ok__with_place {f : Addr} {fd : FuncData} (F : Fun K "_with_place" "_with_place" s__with_place f fd) (T : Txt K mg) (c__coprime : Cl P w K mg base 1 "_coprime" spCop) : FnOk P w K mg base CX0 2 f fd ["pairs"] spPlace := by
  have nd := sc__with_place.nd
  refine F.ok sc__with_place (fun vs H Q E h => ?_) (fun cdv A outer s H vs Q E hr h => ?_)
  · obtain ⟨n, rfl, _⟩ := h
    rfl
  · obtain ⟨n, rfl, h1, h2, q⟩ := h
    refine ⟨_, (pss_cons (ps_setLc (i := 2) (own := [("many", 1)]) rfl nd rfl rfl (sw_true rfl rfl rfl (by decide +kernel)) (pi_range2 (by rfl) T.n_range (pa_cons pe_int (pa_cons (pe_op op_add (pv 0) pe_int) pa_nil))) (blkOk_by (N := N__with_place) (sc := defScope s__with_place) (by decide +kernel)) (fun _ _ _ _ _ => (pg_name (i := 1) nd rfl (by first | exact Or.inl rfl | exact Or.inr rfl))) (fun _ _ _ _ _ => (pts_one (pt_cmpR op_eq (pe_op op_mod (pv 0) (pv 1)) pe_int (nomark _)))) (fun _ _ _ _ _ => (pv 1)))
 (pss_one (ps_ret (pe_op op_fdiv (pe_callB (cr_sum rfl) (by rfl) T.n_sum (by decide +kernel) (pa_cons (pe_lc (own := [("many", 1)]) rfl nd (pi_list (pv 2)) (blkOk_by (N := N__with_place) (sc := defScope s__with_place) (by decide +kernel)) (fun _ _ _ _ _ => (pg_name (i := 1) nd rfl (by first | exact Or.inl rfl | exact Or.inr rfl))) (fun _ _ _ _ _ => pts_nil) (fun _ _ _ _ _ => (pe_op op_mul (pe_f c__coprime hr (by decide) (by rfl) (pa_cons (pe_op op_fdiv (pv 0) (pv 1)) pa_nil)) (pe_callBfun cr_comb (by rfl) T.m_comb (pa_cons (pe_op op_mul pe_int (pv 1)) (pa_cons (pv 1) pa_nil)))))) pa_nil)) (pe_op op_mul pe_int (pv 0)))))), ?_⟩
    refine ⟨_, rfl, _, _, rfl, rfl, 1, (n : Int) + 1, rfl, ⟨by omega, by omega, by omega, by omega⟩, fun D nD => ?_⟩
    have en : ((n : Int) + 1 - 1).toNat = n := by omega
    rw [en]
    refine lc_range (lo := 1) (n := n) (fun i H' => Same H H' ∧ H' D = some (.lst (((((List.range n).map (· + 1)).take i).filter fun m => n % m == 0).map fun m : Nat => V.int (m : Int)))) ⟨same_new nD, upd_same⟩ ?_ ?_
    · rintro i H' hi ⟨sm, hD⟩
      have hl : i < ((List.range n).map (· + 1)).length := by
        rw [List.length_map, List.length_range]
        exact hi
      have fs := filter_take_succ (fun m => n % m == 0) ((List.range n).map (· + 1)) i hl
      rw [List.getElem_map, List.getElem_range] at fs
      refine ⟨rfl, ?_⟩
      refine ⟨_, rfl, _, rfl, _, _, rfl, rfl, by show (0 : Int) < 1 + (i : Int); omega, rfl, _, rfl, ?_⟩
      have eg : (n : Int) % (1 + (i : Int)) = ((n % (i + 1) : Nat) : Int) := by
        rw [Int.natCast_emod]
        congr 1
        omega
      by_cases e : n % (i + 1) = 0
      · refine (if_pos (decide_eq_true (by dsimp only; rw [eg, e]; rfl))).mpr ?_
        rw [if_pos (by simpa using e)] at fs
        refine ⟨_, rfl, _, hD, ?_, same_put sm nD, ?_⟩
        · rw [List.length_map]
          refine Nat.lt_of_le_of_lt (Nat.le_trans (List.length_filter_le ..) (List.length_take_le ..)) (small1000 (by omega))
        · rw [upd_same, fs, List.map_append]
          have e1 : V.int (1 + (i : Int)) = V.int ((i + 1 : Nat) : Int) := by congr 1; omega
          show some (HO.lst (_ ++ [V.int (1 + (i : Int))])) = _
          rw [e1]
          rfl
      · refine (if_neg (fun z => e (by have z2 := V.int.inj (of_decide_eq_true z); rw [eg] at z2; omega))).mpr ?_
        rw [if_neg (by simpa using e), List.append_nil] at fs
        exact ⟨sm, by rw [fs]; exact hD⟩
    · rintro H1 ⟨sm, hD⟩
      have eD : ((((List.range n).map (· + 1)).take n).filter fun m => n % m == 0) = divN n := by
        rw [List.take_of_length_le (by rw [List.length_map, List.length_range]; exact Nat.le_refl _)]
        rfl
      rw [eD] at hD
      -- the sum
      refine ⟨_, rfl, D, rfl, ⟨_, SqL.of hD⟩, fun L nL => ?_⟩
      have nLD : D ≠ L := ne_of_none hD nL
      refine lc_list (K := K) (a := D) (xs := (divN n).map fun m : Nat => V.int (m : Int)) (fun i H' => Same H1 H' ∧ H' L = some (.lst (((divN n).take i).map fun m => V.int ((copN (n / m) * chs (2 * m) m : Nat) : Int))))
        ⟨same_new nL, upd_same⟩ (fun i H' _ h => SqL.of (h.1 _ _ hD)) ?_ ?_
      · rintro i x H' hx ⟨sm1, hL⟩
        have hi : i < (divN n).length := by
          have := (List.getElem?_eq_some_iff.mp hx).1
          rw [List.length_map] at this
          exact this
        have ex : x = .int ((divN n)[i] : Nat) := by
          rw [List.getElem?_map, List.getElem?_eq_getElem hi] at hx
          exact (Option.some.inj hx).symm
        obtain ⟨m1, m2⟩ := mem_divN (List.getElem_mem hi)
        have eT : (divN n).take (i + 1) = (divN n).take i ++ [(divN n)[i]] := by rw [List.take_add_one, List.getElem?_eq_getElem hi]; rfl
        subst ex
        generalize (divN n)[i] = m at m1 m2 eT
        refine ⟨rfl, ?_⟩
        dsimp only [tYes]
        rw [if_pos rfl]
        refine ⟨_, rfl, _, rfl, _, _, rfl, rfl, ⟨by omega, by omega⟩, n / m, ?_, ?_, fun H2 s2 => ?_⟩
        · show [V.int ((n : Int) / (m : Int))] = _
          rw [Int.natCast_ediv]
        · exact Nat.le_trans (Nat.div_le_self _ _) (by omega)
        · have hc : copN (n / m) ≤ 200 := Nat.le_trans (copN_le _) (Nat.le_trans (Nat.div_le_self _ _) h2)
          refine ⟨_, rfl, _, _, rfl, rfl, .inl ⟨by decide, by decide⟩, _, rfl, 2 * m, m, ?_, by omega, _, _, rfl, rfl, .inl ⟨by omega, by omega⟩, _, s2 _ _ hL, ?_, same_put (sm1.trans s2) nL, ?_⟩
          · show [V.int (2 * (m : Int)), V.int (m : Int)] = _
            rw [Int.natCast_mul]
            rfl
          · rw [List.length_map, List.length_take]
            have := divN_len n
            exact small1000 (by omega)
          · rw [upd_same, eT, List.map_append]
            show some (HO.lst (_ ++ [V.int ((copN (n / m) : Int) * (chs (2 * m) m : Int))])) = _
            rw [← Int.natCast_mul]
            rfl
      · rintro H2 ⟨sm1, hL⟩
        have eL : (((divN n).take ((divN n).map fun m : Nat => V.int (m : Int)).length).map fun m => V.int ((copN (n / m) * chs (2 * m) m : Nat) : Int)) = ((divN n).map fun m => ((copN (n / m) * chs (2 * m) m : Nat) : Int)).map V.int := by
          rw [List.length_map, List.take_length, List.map_map]
          rfl
        rw [eL] at hL
        refine ⟨L, _, rfl, SqL.of hL, _, rfl, _, _, rfl, rfl, .inl ⟨by decide, by decide⟩, _, _, rfl, rfl, ⟨by omega, by omega⟩, ?_⟩
        have es : ∀ l : List Nat, ((l.map fun m => ((copN (n / m) * chs (2 * m) m : Nat) : Int)).sum : Int) = ((l.map fun m => copN (n / m) * chs (2 * m) m).sum : Nat) := by
          intro l
          induction l with
          | nil => rfl
          | cons a l ih => rw [List.map_cons, List.sum_cons, ih, List.map_cons, List.sum_cons, Int.natCast_add]
        have ef : (((divN n).map fun m => ((copN (n / m) * chs (2 * m) m : Nat) : Int)).sum : Int) / (2 * (n : Int)) = ((placeN n : Nat) : Int) := by
          rw [es]
          unfold placeN
          rw [Int.natCast_ediv, Int.natCast_mul]
          rfl
        show Q (.int ((((divN n).map fun m => ((copN (n / m) * chs (2 * m) m : Nat) : Int)).sum : Int) / (2 * (n : Int)))) H2
        rw [ef]
        exact q _ (sm.trans sm1)
theorem ok__with_tie {f : Addr} {fd : FuncData} (F : Fun K "_with_tie" "_with_tie" s__with_tie f fd) (T : Txt K mg) (c_how_many_words : Cl P w K mg base 5 "how_many_words" spWords) : FnOk P w K mg base CX0 6 f fd ["pairs"] spTie := by
  have nd := sc__with_tie.nd
  refine F.ok sc__with_tie (fun vs H Q E h => ?_) (fun cdv A outer s H vs Q E hr h => ?_)
  · obtain ⟨n, rfl, _⟩ := h
    rfl
  · obtain ⟨n, rfl, h1, h2, q⟩ := h
    refine ⟨_, (pss_cons (ps_set (i := 1) nd rfl (by first | exact Or.inl rfl | exact Or.inr rfl) pe_int)
 (pss_cons (ps_if (pt_cmpR op_eq (pv 0) pe_int (nomark _))
 (pss_one (ps_set (i := 1) nd rfl (by first | exact Or.inl rfl | exact Or.inr rfl) pe_int))
 (pss_one (ps_if (pt_cmpR op_eq (pe_op op_mod (pv 0) pe_int) pe_int (nomark _))
 (pss_one (ps_set (i := 1) nd rfl (by first | exact Or.inl rfl | exact Or.inr rfl) (pe_f c_how_many_words hr (by decide) (by rfl) (pa_cons (pe_op op_fdiv (pv 0) pe_int) pa_nil))))
 pss_nil)))
 (pss_one (ps_ret (pe_op op_fdiv (pe_op op_add (pe_f c_how_many_words hr (by decide) (by rfl) (pa_cons (pv 0) pa_nil)) (pv 1)) pe_int))))), ?_⟩
    unfold tieI at q
    refine ⟨_, rfl, rfl, _, rfl, ?_⟩
    by_cases e1 : n = 1
    · subst e1
      refine (if_pos (by decide)).mpr ?_
      exact ⟨_, rfl, 1, rfl, by decide, by decide, _, rfl, _, _, rfl, rfl, _, _, rfl, rfl, ⟨by decide, by decide⟩, q⟩
    · refine (if_neg (by simp; omega)).mpr ?_
      rw [if_neg e1] at q
      have em : (n : Int) % 2 = ((n % 2 : Nat) : Int) := by rw [Int.natCast_emod]; rfl
      refine ⟨_, rfl, _, _, rfl, rfl, by show (0 : Int) < 2; decide, rfl, _, rfl, ?_⟩
      by_cases e2 : n % 2 = 1
      · rw [if_pos e2] at q
        refine (if_pos (decide_eq_true (by show V.int ((n : Int) % 2) = V.int 1; rw [em, e2]; rfl))).mpr ?_
        refine ⟨_, rfl, _, _, rfl, rfl, ⟨by decide, by decide⟩, n / 2, ?_, by omega, by omega, ?_⟩
        · show [V.int ((n : Int) / 2)] = _
          rw [Int.natCast_ediv]
          rfl
        · exact ⟨_, rfl, n, rfl, h1, h2, _, rfl, _, _, rfl, rfl, _, _, rfl, rfl, ⟨by decide, by decide⟩, q⟩
      · rw [if_neg e2] at q
        refine (if_neg (fun z => e2 (by have z2 : (n : Int) % 2 = 1 := V.int.inj (of_decide_eq_true z); rw [em] at z2; omega))).mpr ?_
        exact ⟨_, rfl, n, rfl, h1, h2, _, rfl, _, _, rfl, rfl, _, _, rfl, rfl, ⟨by decide, by decide⟩, q⟩
theorem ok_how_many_trees {f : Addr} {fd : FuncData} (F : Fun K "how_many_trees" "how_many_trees" s_how_many_trees f fd) (T : Txt K mg) (c_check_pairs : Cl P w K mg base 4 "check_pairs" spPairs)
    (c__with_place : Cl P w K mg base 2 "_with_place" spPlace) (c__with_tie : Cl P w K mg base 6 "_with_tie" spTie) (c_how_many_words : Cl P w K mg base 5 "how_many_words" spWords) : FnOk P w K mg base CX0 7 f fd ["pairs"] spTrees := by
  have nd := sc_how_many_trees.nd
  refine F.ok sc_how_many_trees (fun vs H Q E h => ?_) (fun cdv A outer s H vs Q E hr h => ?_)
  · obtain ⟨n, rfl, _⟩ := h
    rfl
  · obtain ⟨n, rfl, h1, h2, q⟩ := h
    refine ⟨_, (pss_cons (ps_expr (pe_f c_check_pairs hr (by decide) (by rfl) (pa_cons (pv 0) pa_nil)))
 (pss_one (ps_ret (pe_op op_sub (pe_op op_add (pe_f c__with_place hr (by decide) (by rfl) (pa_cons (pv 0) pa_nil)) (pe_f c__with_tie hr (by decide) (by rfl) (pa_cons (pv 0) pa_nil))) (pe_f c_how_many_words hr (by decide) (by rfl) (pa_cons (pv 0) pa_nil)))))), ?_⟩
    refine ⟨_, rfl, n, rfl, h1, h2, ?_⟩
    refine ⟨_, rfl, n, rfl, h1, h2, fun H1 s1 => ?_⟩
    refine ⟨_, rfl, n, rfl, h1, h2, _, _, rfl, rfl, _, rfl, n, rfl, h1, h2, _, _, rfl, rfl, ?_⟩
    exact q _ s1
end

/-! ### the law's own numbers -/
theorem chs_two : ∀ n k : Nat, chs n k ≤ 2 ^ n
  | _, 0 => by rw [chs_zero]; exact Nat.one_le_two_pow
  | 0, k + 1 => Nat.zero_le _
  | n + 1, k + 1 => by
    have h1 := chs_two n k
    have h2 := chs_two n (k + 1)
    show chs n k + chs n (k + 1) ≤ 2 ^ (n + 1)
    rw [Nat.pow_succ]
    omega
def lwN (n : Nat) : Nat := chs (2 * n) n / (n + 1)
def leftN (n t : Nat) : Nat :=
  if 2 * n / Nat.gcd (2 * n) t = 1 then lwN n
  else if n % (2 * n / Nat.gcd (2 * n) t) = 0 then lwN (n / (2 * n / Nat.gcd (2 * n) t)) * (n / (2 * n / Nat.gcd (2 * n) t) + 1)
  else if 2 * n / Nat.gcd (2 * n) t = 2 then lwN (n / 2) * n else 0
def wholeN (n : Nat) : Nat := ((List.range (2 * n)).map (leftN n)).sum
def spLots : Sp := fun vs H Q _ => ∃ m k : Nat, vs = [.int m, .int k] ∧ m ≤ 400 ∧ k ≤ m ∧ Q (.int (chs m k : Nat)) H
def spLw : Sp := fun vs H Q _ => ∃ n : Nat, vs = [.int n] ∧ n ≤ 200 ∧ Q (.int (lwN n : Nat)) H
def spGcd : Sp := fun vs H Q _ => ∃ m k : Nat, vs = [.int m, .int k] ∧ Q (.int (Nat.gcd m k : Nat)) H
def spLeft : Sp := fun vs H Q _ => ∃ n t : Nat, vs = [.int n, .int t] ∧ 1 ≤ n ∧ n ≤ 200 ∧ Q (.int (leftN n t : Nat)) H
def spLaw (K : PySem.W.Frag) : Sp := fun vs H Q _ => ∃ (a : Addr) (ns : List Int), vs = [.ref a] ∧ SqL K H a (ns.map V.int) ∧ ns.length ≤ 63 ∧ ∀ H', Q (.bl true) H'
theorem law_end : ∀ (K : PySem.W.Frag) (H : Hp) (a : Addr) (ns : List Int), ns.length ≤ 63 → SqL K H a (ns.map V.int) → spLaw K [.ref a] H (fun v _ => v = .bl true) fun _ _ _ => False :=
  fun _ _ a ns hl hS => ⟨a, ns, rfl, hS, hl, fun _ => rfl⟩
section
variable {P : Program} {w : World} {K : PySem.W.Frag} {mg : Str → Option Value} {base : Heap}
theorem ok__law_lots {f : Addr} {fd : FuncData} (F : Fun K "_law_lots" "_law_lots" s__law_lots f fd) (T : Txt K mg) : FnOk P w K mg base CX0 1 f fd ["many", "some"] spLots := by
  have nd := sc__law_lots.nd
  refine F.ok sc__law_lots (fun vs H Q E h => ?_) (fun cdv A outer s H vs Q E hr h => ?_)
  · obtain ⟨m, k, rfl, _⟩ := h
    rfl
  · obtain ⟨m, k, rfl, hm, hk, q⟩ := h
    refine ⟨_, (pss_cons (ps_set (i := 2) nd rfl (by first | exact Or.inl rfl | exact Or.inr rfl) pe_int)
 (pss_cons (ps_for PassesOwn.never rfl (pi_range1 (by rfl) T.n_range (pa_cons (pv 1) pa_nil)) (pg_name (i := 3) nd rfl (by first | exact Or.inl rfl | exact Or.inr rfl))
 (pss_one (ps_set (i := 2) nd rfl (by first | exact Or.inl rfl | exact Or.inr rfl) (pe_op op_fdiv (pe_op op_mulW (pv 2) (pe_op op_sub (pv 0) (pv 3))) (pe_op op_add (pv 3) pe_int)))))
 (pss_one (ps_ret (pv 2))))), ?_⟩
    refine ⟨_, rfl, k, rfl, by omega, by omega, ?_⟩
    have ek : ((k : Nat) : Int).toNat = k := Int.toNat_natCast k
    rw [ek]
    refine for_range (lo := 0) (n := k) (fun i σ H' => ∃ v, σ = [some (.int m), some (.int k), some (.int (chs m i : Nat)), v] ∧ H' = H) ⟨none, by rw [chs_zero]; rfl, rfl⟩ ?_ ?_
    · rintro i σ H' hi ⟨v, rfl, rfl⟩
      have st := chs_step m i (by omega)
      have c2 : chs m i < 2 ^ 401 := Nat.lt_of_le_of_lt (chs_two m i) (Nat.pow_lt_pow_right (by decide) (by omega))
      refine ⟨_, rfl, _, rfl, _, rfl, _, _, rfl, rfl, _, _, rfl, rfl, ?_, _, rfl, _, _, rfl, rfl, _, _, rfl, rfl, ⟨by omega, by omega⟩, ?_⟩
      · refine wide_mul (a := 401) (b := 401) (by rw [Int.natAbs_natCast]; exact c2) ?_ (by decide) (by decide) (by decide)
        have h3 : ((m : Int) - (0 + (i : Int))).natAbs ≤ 400 := by omega
        exact Nat.lt_of_le_of_lt h3 (Nat.lt_of_lt_of_le (by decide : 400 < 2 ^ 9) (Nat.pow_le_pow_right (by decide) (by decide)))
      · refine ⟨some (.int (0 + (i : Int))), ?_, rfl⟩
        have e1 : ((chs m i : Nat) : Int) * ((m : Int) - (0 + (i : Int))) / (0 + (i : Int) + 1) = ((chs m (i + 1) : Nat) : Int) := by
          have e2 : (m : Int) - (0 + (i : Int)) = ((m - i : Nat) : Int) := by omega
          have e3 : 0 + (i : Int) + 1 = ((i + 1 : Nat) : Int) := by omega
          rw [e2, e3, ← Int.natCast_mul, ← st, ← Int.natCast_ediv, Nat.mul_div_cancel _ (Nat.succ_pos i)]
        show [some (V.int m), some (V.int k), some (V.int (((chs m i : Nat) : Int) * ((m : Int) - (0 + (i : Int))) / (0 + (i : Int) + 1))), some (V.int (0 + (i : Int)))] = _
        rw [e1]
    · rintro σ H' ⟨v, rfl, rfl⟩
      exact ⟨_, rfl, q⟩
theorem ok__law_words {f : Addr} {fd : FuncData} (F : Fun K "_law_words" "_law_words" s__law_words f fd) (T : Txt K mg) (c__law_lots : Cl P w K mg base 1 "_law_lots" spLots) : FnOk P w K mg base CX0 2 f fd ["pairs"] spLw := by
  have nd := sc__law_words.nd
  refine F.ok sc__law_words (fun vs H Q E h => ?_) (fun cdv A outer s H vs Q E hr h => ?_)
  · obtain ⟨n, rfl, _⟩ := h
    rfl
  · obtain ⟨n, rfl, hn, q⟩ := h
    refine ⟨_, (pss_one (ps_ret (pe_op op_fdiv (pe_f c__law_lots hr (by decide) (by rfl) (pa_cons (pe_op op_mul pe_int (pv 0)) (pa_cons (pv 0) pa_nil))) (pe_op op_add (pv 0) pe_int)))), ?_⟩
    refine ⟨_, rfl, _, _, rfl, rfl, .inl ⟨by decide, by decide⟩, _, rfl, 2 * n, n, ?_, by omega, by omega, ?_⟩
    · show [V.int (2 * (n : Int)), V.int n] = _
      rw [Int.natCast_mul]
      rfl
    · refine ⟨_, rfl, _, _, rfl, rfl, _, _, rfl, rfl, ⟨by omega, by omega⟩, ?_⟩
      have e : ((chs (2 * n) n : Nat) : Int) / ((n : Int) + 1) = ((lwN n : Nat) : Int) := by
        unfold lwN
        rw [Int.natCast_ediv]
        rfl
      show Q (.int (((chs (2 * n) n : Nat) : Int) / ((n : Int) + 1))) H
      rw [e]
      exact q
theorem ok__law_common {f : Addr} {fd : FuncData} (F : Fun K "_law_common" "_law_common" s__law_common f fd) (T : Txt K mg) : FnOk P w K mg base CX0 1 f fd ["one", "other"] spGcd := by
  have nd := sc__law_common.nd
  refine F.ok sc__law_common (fun vs H Q E h => ?_) (fun cdv A outer s H vs Q E hr h => ?_)
  · obtain ⟨m, k, rfl, _⟩ := h
    rfl
  · obtain ⟨m, k, rfl, q⟩ := h
    refine ⟨_, (pss_cons (ps_while PassesOwn.never (pt_cmpR op_gt (pv 1) pe_int (nomark _))
 (pss_one (ps_par (i := 0) (j := 1) rfl nd rfl rfl (by decide) rfl rfl (pa_cons (pv 1) (pa_cons (pe_op op_mod (pe_callTy call_int1 (by rfl) T.n_int (by decide +kernel) (pa_cons (pv 0) pa_nil)) (pv 1)) pa_nil)) (by rfl))))
 (pss_one (ps_ret (pv 0)))), ?_⟩
    refine while_by (fun σ H' => H' = H ∧ ∃ a b : Nat, σ = [some (.int a), some (.int b)] ∧ Nat.gcd a b = Nat.gcd m k) (fun σ _ => match σ with | [_, some (.int b)] => b.toNat | _ => 0) ⟨rfl, m, k, rfl, rfl⟩ ?_ ?_
    · rintro σ H' ⟨rfl, a, b, rfl, eg⟩
      refine ⟨_, rfl, _, _, rfl, rfl, _, rfl, ?_⟩
      refine ite2 (fun e => ?_) (fun e => ?_)
      · have hb : 0 < b := by
          have := of_decide_eq_true e
          omega
        refine ⟨_, rfl, _, rfl, .inl ⟨_, rfl, _, rfl, _, _, rfl, rfl, by show (0 : Int) < b; omega, _, _, rfl, ⟨rfl, b, a % b, ?_, ?_⟩, ?_⟩⟩
        · show [some (V.int b), some (V.int ((a : Int) % (b : Int)))] = _
          rw [Int.natCast_emod]
        · rw [← eg, Nat.gcd_comm a b, Nat.gcd_rec b a, Nat.gcd_comm]
        · show ((a : Int) % (b : Int)).toNat < ((b : Nat) : Int).toNat
          have := Nat.mod_lt a hb
          omega
      · have hb : b = 0 := by
          have : ¬ ((0 : Int) < b) := fun z => e (decide_eq_true z)
          omega
        subst hb
        rw [Nat.gcd_zero_right] at eg
        subst eg
        exact ⟨_, rfl, q⟩
    · intro σ H' Q1 Q2 hq h
      obtain ⟨x, e1, i, j, e2, e3, k', e4, q1⟩ := h
      exact ⟨x, e1, i, j, e2, e3, k', e4, hq _ _ q1⟩
theorem gcd_pos2 {n t : Nat} (h : 1 ≤ n) : 0 < Nat.gcd (2 * n) t := Nat.gcd_pos_of_pos_left _ (by omega)
theorem ok__law_left {f : Addr} {fd : FuncData} (F : Fun K "_law_left" "_law_left" s__law_left f fd) (T : Txt K mg) (c__law_common : Cl P w K mg base 1 "_law_common" spGcd) (c__law_words : Cl P w K mg base 2 "_law_words" spLw) :
    FnOk P w K mg base CX0 3 f fd ["pairs", "turns"] spLeft := by
  have nd := sc__law_left.nd
  refine F.ok sc__law_left (fun vs H Q E h => ?_) (fun cdv A outer s H vs Q E hr h => ?_)
  · obtain ⟨n, t, rfl, _⟩ := h
    rfl
  · obtain ⟨n, t, rfl, h1, h2, q⟩ := h
    refine ⟨_, (pss_cons (ps_set (i := 2) nd rfl (by first | exact Or.inl rfl | exact Or.inr rfl) (pe_op op_fdiv (pe_op op_mul pe_int (pv 0)) (pe_f c__law_common hr (by decide) (by rfl) (pa_cons (pe_op op_mul pe_int (pv 0)) (pa_cons (pv 1) pa_nil)))))
 (pss_cons (ps_if (pt_cmpR op_eq (pv 2) pe_int (nomark _))
 (pss_one (ps_ret (pe_f c__law_words hr (by decide) (by rfl) (pa_cons (pv 0) pa_nil))))
 pss_nil)
 (pss_cons (ps_if (pt_cmpR op_eq (pe_op op_mod (pe_callTy call_int1 (by rfl) T.n_int (by decide +kernel) (pa_cons (pv 0) pa_nil)) (pv 2)) pe_int (nomark _))
 (pss_cons (ps_set (i := 3) nd rfl (by first | exact Or.inl rfl | exact Or.inr rfl) (pe_op op_fdiv (pv 0) (pv 2)))
 (pss_one (ps_ret (pe_op op_mul (pe_f c__law_words hr (by decide) (by rfl) (pa_cons (pv 3) pa_nil)) (pe_op op_add (pv 3) pe_int)))))
 pss_nil)
 (pss_one (ps_ret (pe_ifExp (pt_cmpR op_eq (pv 2) pe_int (nomark _)) (pe_op op_mul (pe_f c__law_words hr (by decide) (by rfl) (pa_cons (pe_op op_fdiv (pv 0) pe_int) pa_nil)) (pv 0)) pe_int)))))), ?_⟩
    unfold leftN at q
    have gp : 0 < Nat.gcd (2 * n) t := gcd_pos2 h1
    have gl : Nat.gcd (2 * n) t ≤ 2 * n := Nat.le_of_dvd (by omega) (Nat.gcd_dvd_left _ _)
    refine ⟨_, rfl, _, _, rfl, rfl, .inl ⟨by decide, by decide⟩, _, rfl, _, _, rfl, rfl, .inl ⟨by decide, by decide⟩, _, rfl, 2 * n, t, ?_, _, _, rfl, rfl, ⟨by omega, by omega⟩, ?_⟩
    · show [V.int (2 * (n : Int)), V.int t] = _
      rw [Int.natCast_mul]
      rfl
    have et : 2 * (n : Int) / ((Nat.gcd (2 * n) t : Nat) : Int) = ((2 * n / Nat.gcd (2 * n) t : Nat) : Int) := by
      rw [Int.natCast_ediv, Int.natCast_mul]
      rfl
    dsimp only
    rw [et]
    have tp : 0 < 2 * n / Nat.gcd (2 * n) t := Nat.div_pos gl gp
    generalize 2 * n / Nat.gcd (2 * n) t = times at q tp ⊢
    refine ⟨_, rfl, rfl, _, rfl, ?_⟩
    by_cases e1 : times = 1
    · rw [if_pos e1] at q
      refine (if_pos (decide_eq_true (by rw [e1]; rfl))).mpr ?_
      exact ⟨_, rfl, n, rfl, h2, q⟩
    · rw [if_neg e1] at q
      refine (if_neg (fun z => e1 (by have := V.int.inj (of_decide_eq_true z); omega))).mpr ?_
      refine ⟨_, rfl, .inl ⟨_, rfl, _, rfl, _, _, rfl, rfl, by show (0 : Int) < times; omega, rfl, _, rfl, ?_⟩⟩
      have em : (n : Int) % (times : Int) = ((n % times : Nat) : Int) := by rw [Int.natCast_emod]
      by_cases e2 : n % times = 0
      · rw [if_pos e2] at q
        refine (if_pos (decide_eq_true (by show V.int ((n : Int) % (times : Int)) = V.int 0; rw [em, e2]; rfl))).mpr ?_
        have ed : (n : Int) / (times : Int) = ((n / times : Nat) : Int) := by rw [Int.natCast_ediv]
        have dl : n / times ≤ 200 := Nat.le_trans (Nat.div_le_self _ _) h2
        have tl : times < 1073741824 := by
          by_cases hz : times ≤ n
          · omega
          · exfalso
            rw [Nat.mod_eq_of_lt (by omega)] at e2
            omega
        have d2 : 0 ≤ (n : Int) / (times : Int) ∧ (n : Int) / (times : Int) ≤ 200 := by rw [ed]; exact ⟨Int.natCast_nonneg _, Int.ofNat_le.mpr dl⟩
        refine ⟨_, rfl, _, rfl, _, _, rfl, rfl, ⟨by omega, by omega⟩, ?_⟩
        dsimp only
        rw [ed]
        refine ⟨_, rfl, n / times, rfl, dl, _, rfl, _, _, rfl, rfl, _, _, rfl, rfl, .inr ⟨by omega, by omega⟩, ?_⟩
        have e3 : ((lwN (n / times) : Nat) : Int) * (((n / times : Nat) : Int) + 1) = ((lwN (n / times) * (n / times + 1) : Nat) : Int) := by
          rw [Int.natCast_mul]
          rfl
        show Q (.int (((lwN (n / times) : Nat) : Int) * (((n / times : Nat) : Int) + 1))) H
        rw [e3]
        exact q
      · rw [if_neg e2] at q
        refine (if_neg (fun z => e2 (by have z2 : (n : Int) % (times : Int) = 0 := V.int.inj (of_decide_eq_true z); rw [em] at z2; omega))).mpr ?_
        refine ⟨_, rfl, rfl, _, rfl, ?_⟩
        by_cases e3 : times = 2
        · rw [if_pos e3] at q
          refine (if_pos (decide_eq_true (by rw [e3]; rfl))).mpr ?_
          refine ⟨_, rfl, _, _, rfl, rfl, ⟨by decide, by decide⟩, n / 2, ?_, by omega, _, rfl, _, _, rfl, rfl, .inr ⟨by omega, by omega⟩, ?_⟩
          · show [V.int ((n : Int) / 2)] = _
            rw [Int.natCast_ediv]
            rfl
          · show Q (.int (((lwN (n / 2) : Nat) : Int) * (n : Int))) H
            rw [← Int.natCast_mul]
            exact q
        · rw [if_neg e3] at q
          refine (if_neg (fun z => e3 (by have := V.int.inj (of_decide_eq_true z); omega))).mpr ?_
          exact q
end

/-! ### all numbers of pairs, reckoned -/
def chF (n k : Nat) : Nat := fll n k / fct k
theorem chF_eq {n k : Nat} (h : k ≤ n) : chF n k = chs n k := chs_div h
def catF (n : Nat) : Int := (chF (n + n) n : Int) - (chF (n + n) (n - 1) : Int)
theorem catF_eq (n : Nat) : catF n = catI n := by
  unfold catF catI
  rw [chF_eq (by omega), chF_eq (by omega)]
def placeF (n : Nat) : Nat := ((divN n).map fun m => copN (n / m) * chF (2 * m) m).sum / (2 * n)
theorem placeF_eq (n : Nat) : placeF n = placeN n := by
  unfold placeF placeN
  congr 2
  exact List.map_congr_left fun m _ => by rw [chF_eq (by omega)]
def treesF (n : Nat) : Int := (placeF n : Int) + (catF n + (if n = 1 then 1 else if n % 2 = 1 then catF (n / 2) else 0)) / 2 - catF n
theorem treesF_eq (n : Nat) : treesF n = treesI n := by
  unfold treesF treesI tieI
  rw [placeF_eq, catF_eq, catF_eq]
def lwF (n : Nat) : Nat := chF (2 * n) n / (n + 1)
theorem lwF_eq (n : Nat) : lwF n = lwN n := by
  unfold lwF lwN
  rw [chF_eq (by omega)]
def leftF (n t : Nat) : Nat :=
  if 2 * n / Nat.gcd (2 * n) t = 1 then lwF n
  else if n % (2 * n / Nat.gcd (2 * n) t) = 0 then lwF (n / (2 * n / Nat.gcd (2 * n) t)) * (n / (2 * n / Nat.gcd (2 * n) t) + 1)
  else if 2 * n / Nat.gcd (2 * n) t = 2 then lwF (n / 2) * n else 0
def wholeF (n : Nat) : Nat := ((List.range (2 * n)).map (leftF n)).sum
theorem wholeF_eq (n : Nat) : wholeF n = wholeN n := by
  unfold wholeF wholeN
  congr 1
  refine List.map_congr_left fun t _ => ?_
  unfold leftF leftN
  simp only [lwF_eq]
def chkF (n : Nat) : Bool := wholeF n % (2 * n) == 0 && decide (treesF n = ((wholeF n / (2 * n) : Nat) : Int)) && decide (wholeF n < 2 ^ 800)
theorem chk_all : (List.range 200).all (fun i => chkF (i + 1)) = true := by decide +kernel
theorem chk {n : Nat} (h1 : 1 ≤ n) (h2 : n ≤ 200) : wholeN n % (2 * n) = 0 ∧ treesI n = ((wholeN n / (2 * n) : Nat) : Int) ∧ wholeN n < 2 ^ 800 := by
  have a := List.all_eq_true.mp chk_all (n - 1) (List.mem_range.mpr (by omega))
  have e : n - 1 + 1 = n := by omega
  rw [e] at a
  unfold chkF at a
  simp only [Bool.and_eq_true, decide_eq_true_eq, beq_iff_eq] at a
  rw [wholeF_eq, treesF_eq] at a
  exact ⟨a.1.1, a.1.2, a.2⟩
section
variable {P : Program} {w : World} {K : PySem.W.Frag} {mg : Str → Option Value} {base : Heap}
theorem ok_law {f : Addr} {fd : FuncData} (F : Fun K "law" "law" s_law f fd) (T : Txt K mg) (c__law_abbey : Cl P w K mg base 1 "_law_abbey" (spGauge K)) (c__law_toll : Cl P w K mg base 1 "_law_toll" spTick)
    (c__law_one_of : Cl P w K mg base 2 "_law_one_of" (spDial K)) (c__law_left : Cl P w K mg base 3 "_law_left" spLeft) (c_how_many_trees : Cl P w K mg base 7 "how_many_trees" spTrees)
    (ck_how_many_trees_pairs : ClK P w K mg base 7 "how_many_trees" ["pairs"] (pick [0]) spTrees) : FnG P w K mg base CX0 8 f fd ["script"] (spLaw K) := by
  have nd := sc_law.nd
  refine okG F sc_law (fun vs H Q E h => ?_) (fun cdv A outer s H vs Q E gd hr h => ?_)
  · obtain ⟨a, ns, rfl, _⟩ := h
    rfl
  · obtain ⟨a, ns, rfl, hS, hl, q⟩ := h
    have hu64 := hr.units
    refine ⟨_, (pss_cons (ps_set (i := 1) nd rfl (by first | exact Or.inl rfl | exact Or.inr rfl) (pe_f c__law_abbey hr (by decide) (by rfl) (pa_cons (pv 0) pa_nil)))
 (pss_cons (ps_for PassesOwn.never rfl (pi_range1 (by rfl) T.n_range (pa_cons pe_int pa_nil)) (pg_name (i := 2) nd rfl (by first | exact Or.inl rfl | exact Or.inr rfl))
 (pss_cons (ps_set (i := 3) nd rfl (by first | exact Or.inl rfl | exact Or.inr rfl) (pe_f c__law_one_of hr (by decide) (by rfl) (pa_cons (pv 1) (pa_cons (pe_lst (pa_cons (pe_op op_add pe_int (pe_f c__law_toll hr (by decide) (by rfl) (pa_cons (pv 1) (pa_cons pe_int pa_nil)))) (pa_cons (pe_op op_add pe_int (pe_f c__law_toll hr (by decide) (by rfl) (pa_cons (pv 1) (pa_cons pe_int pa_nil)))) (pa_cons (pe_op op_shl pe_int (pe_f c__law_toll hr (by decide) (by rfl) (pa_cons (pv 1) (pa_cons pe_int pa_nil)))) (pa_cons (pe_f c__law_one_of hr (by decide) (by rfl) (pa_cons (pv 1) (pa_cons (pe_lst (pa_cons pe_int (pa_cons pe_int (pa_cons pe_int (pa_cons pe_int (pa_cons pe_int (pa_cons pe_int (pa_cons pe_int (pa_cons pe_int pa_nil))))))))) pa_nil))) pa_nil))))) pa_nil))))
 (pss_cons (ps_set (i := 5) nd rfl (by first | exact Or.inl rfl | exact Or.inr rfl) (pe_callB (cr_sum rfl) (by rfl) T.n_sum (by decide +kernel) (pa_cons (pe_lc (own := [("turns", 4)]) rfl nd (pi_range1 (by rfl) T.n_range (pa_cons (pe_op op_mul pe_int (pv 3)) pa_nil)) (blkOk_by (N := N_law) (sc := defScope s_law) (by decide +kernel)) (fun _ _ _ _ _ => (pg_name (i := 4) nd rfl (by first | exact Or.inl rfl | exact Or.inr rfl))) (fun _ _ _ _ _ => pts_nil) (fun _ _ _ _ _ => (pe_f c__law_left hr (by decide) (by rfl) (pa_cons (pv 3) (pa_cons (pv 4) pa_nil))))) pa_nil)))
 (pss_cons (ps_set (i := 6) nd rfl (by first | exact Or.inl rfl | exact Or.inr rfl) (pe_op op_fdiv (pv 5) (pe_op op_mul pe_int (pv 3))))
 (pss_one (ps_if (PW.pt (pw_or (pt_cmpR op_ne (pe_op op_mul (pe_op op_mul (pv 6) pe_int) (pv 3)) (pv 5) (nomark _)) (pw_or1 (pt_cmpR op_ne (pe_callB (cr_show gd hu64) (by rfl) T.n_repr (by decide +kernel) (pa_cons (pe_lst (pa_cons (pe_f c_how_many_trees hr (by decide) (by rfl) (pa_cons (pv 3) pa_nil)) (pa_cons (pe_fk ck_how_many_trees_pairs hr (by decide) (by rfl) (pk_cons (pv 3) pk_nil)) pa_nil))) pa_nil)) (pe_callB (cr_show gd hu64) (by rfl) T.n_repr (by decide +kernel) (pa_cons (pe_lst (pa_cons (pv 6) (pa_cons (pv 6) pa_nil))) pa_nil)) (nomark _)))))
 (pss_one (ps_ret pe_bl))
 pss_nil))))))
 (pss_one (ps_ret pe_bl)))), ?_⟩
    refine ⟨_, rfl, a, ns, rfl, hS, hl, fun g H1 s1 ng hG => ?_⟩
    refine ⟨3, rfl, by decide, by decide, for_range (lo := 0) (n := 3) (fun i σ H' => ∃ v2 v3 v4 v5 v6, σ = [some (.ref a), some (.ref g), v2, v3, v4, v5, v6] ∧ GA H' g (100 * i))
      ⟨none, none, none, none, none, rfl, hG⟩ ?_ ?_⟩
    · rintro i σ H2 hi ⟨v2, v3, v4, v5, v6, rfl, hG⟩
      -- the pairs
      refine ⟨_, rfl, _, rfl, g, _, 200, rfl, hG, by omega, by decide, pow_ok (by decide) (by decide), fun H3 t1 a1 b1 f1 G1 => ?_⟩
      refine ⟨_, _, rfl, rfl, _, rfl, g, _, 24, rfl, G1, by omega, by decide, pow_ok (by decide) (by decide), fun H4 t2 a2 b2 f2 G2 => ?_⟩
      refine ⟨_, _, rfl, rfl, _, rfl, g, _, 8, rfl, G2, by omega, by decide, pow_ok (by decide) (by decide), fun H5 t3 a3 b3 f3 G3 => ?_⟩
      refine ⟨_, _, rfl, rfl, ⟨a3, by omega, by decide⟩, _, rfl, by decide, fun l nl => ?_⟩
      have nlg : l ≠ g := fun e => by
        subst e
        exact G3.some nl
      refine ⟨g, l, _, _, rfl, G3.new nl, by omega, SqL.of upd_same, nlg, by decide, by decide, fun H6 u hu f4 G4 => ?_⟩
      refine ⟨by show 4 ≤ sizeLine; decide, fun L nL => ?_⟩
      have nLg : L ≠ g := fun e => by
        subst e
        exact G4.some nL
      refine ⟨g, L, _, _, rfl, G4.new nL, by omega, SqL.of upd_same, nLg, by show 0 < 4; decide, by show 4 < 1000; decide, fun H7 v hv f5 G5 => ?_⟩
      obtain ⟨n, rfl, n1, n2⟩ : ∃ n : Nat, v = .int n ∧ 1 ≤ n ∧ n ≤ 200 := by
        have hu' : ∃ n : Nat, u = .int n ∧ 1 ≤ n ∧ n ≤ 200 := by
          simp only [List.mem_cons, List.not_mem_nil, or_false] at hu
          rcases hu with h | h | h | h | h | h | h | h <;> subst h
          · exact ⟨1, rfl, by decide, by decide⟩
          · exact ⟨2, rfl, by decide, by decide⟩
          · exact ⟨3, rfl, by decide, by decide⟩
          · exact ⟨199, rfl, by decide, by decide⟩
          · exact ⟨200, rfl, by decide, by decide⟩
          · exact ⟨180, rfl, by decide, by decide⟩
          · exact ⟨105, rfl, by decide, by decide⟩
          · exact ⟨197, rfl, by decide, by decide⟩
        simp only [List.mem_cons, List.not_mem_nil, or_false] at hv
        rcases hv with h | h | h | h
        · exact ⟨(1 + t1).toNat, by rw [h]; congr 1; omega, by omega, by omega⟩
        · exact ⟨(1 + t2).toNat, by rw [h]; congr 1; omega, by omega, by omega⟩
        · have e3 : t3 = 0 ∨ t3 = 1 ∨ t3 = 2 ∨ t3 = 3 ∨ t3 = 4 ∨ t3 = 5 ∨ t3 = 6 ∨ t3 = 7 := by omega
          rcases e3 with e | e | e | e | e | e | e | e <;> subst e
          · exact ⟨1, h, by decide, by decide⟩
          · exact ⟨2, h, by decide, by decide⟩
          · exact ⟨4, h, by decide, by decide⟩
          · exact ⟨8, h, by decide, by decide⟩
          · exact ⟨16, h, by decide, by decide⟩
          · exact ⟨32, h, by decide, by decide⟩
          · exact ⟨64, h, by decide, by decide⟩
          · exact ⟨128, h, by decide, by decide⟩
        · rw [h]
          exact hu'
      -- the whole
      refine ⟨_, rfl, _, _, rfl, rfl, .inl ⟨by decide, by decide⟩, 2 * (n : Int), rfl, by omega, by omega, fun D nD => ?_⟩
      have e2n : (2 * (n : Int)).toNat = 2 * n := by omega
      rw [e2n]
      have nDg : D ≠ g := fun e => by
        subst e
        exact G5.some nD
      refine lc_range (lo := 0) (n := 2 * n) (fun j H' => Same H7 H' ∧ H' D = some (.lst (((List.range j).map fun t => V.int (leftN n t : Nat))))) ⟨same_new nD, upd_same⟩ ?_ ?_
      · rintro j H' hj ⟨sm, hD⟩
        refine ⟨rfl, ?_⟩
        dsimp only [tYes]
        rw [if_pos rfl]
        have ej : (0 : Int) + (j : Int) = (j : Int) := by omega
        refine ⟨_, rfl, _, rfl, n, j, by rw [ej], n1, n2, _, hD, ?_, same_put sm nD, ?_⟩
        · rw [List.length_map, List.length_range]
          exact small1000 (by omega)
        · rw [upd_same, List.range_succ, List.map_append]
          rfl
      · rintro H8 ⟨sm, hD⟩
        have eS : ((List.range (2 * n)).map fun t => V.int (leftN n t : Nat)) = ((List.range (2 * n)).map fun t => ((leftN n t : Nat) : Int)).map V.int := by
          rw [List.map_map]
          rfl
        rw [eS] at hD
        have es : ∀ l : List Nat, ((l.map fun t => ((leftN n t : Nat) : Int)).sum : Int) = ((l.map (leftN n)).sum : Nat) := by
          intro l
          induction l with
          | nil => rfl
          | cons a l ih => rw [List.map_cons, List.sum_cons, ih, List.map_cons, List.sum_cons, Int.natCast_add]
        refine ⟨D, _, rfl, SqL.of hD, ?_⟩
        rw [es]
        obtain ⟨k1, k2, k3⟩ := chk n1 n2
        have G8 : GA H8 g (100 * i + 5) := (G5.same sm).mono (by omega)
        show tSeq _ _ _ _ _
        change tSeq _ _ _ [some (.ref a), some (.ref g), _, some (.int n), _, some (.int (wholeN n : Nat)), v6] H8
        generalize wholeN n = W at k1 k2 k3 ⊢
        -- due
        refine ⟨_, rfl, _, rfl, _, _, rfl, rfl, .inl ⟨by decide, by decide⟩, _, _, rfl, rfl, ⟨by omega, by omega⟩, ?_⟩
        have ed : (W : Int) / (2 * (n : Int)) = ((W / (2 * n) : Nat) : Int) := by
          rw [Int.natCast_ediv, Int.natCast_mul]
          rfl
        dsimp only
        rw [ed]
        have dl : W / (2 * n) < 2 ^ 800 := Nat.lt_of_le_of_lt (Nat.div_le_self _ _) k3
        have back : W / (2 * n) * 2 * n = W := by
          rw [Nat.mul_assoc]
          exact Nat.div_mul_cancel (Nat.dvd_of_mod_eq_zero k1)
        generalize W / (2 * n) = d at k2 dl back ⊢
        refine ⟨_, rfl, _, _, rfl, rfl, .inr ⟨by decide, by decide⟩, _, rfl, _, _, rfl, rfl, .inr ⟨by omega, by omega⟩, _, rfl, rfl, _, rfl, ?_⟩
        have eb : (!decide (V.int ((d : Int) * 2 * (n : Int)) = V.int (W : Int))) = false := by
          have e1 : (d : Int) * 2 * (n : Int) = (W : Int) := by rw [← back, Int.natCast_mul, Int.natCast_mul]; rfl
          rw [e1, decide_eq_true rfl]
          rfl
        dsimp only
        rw [eb]
        refine iteF ?_
        -- how many trees are told
        refine ⟨_, rfl, n, rfl, n1, n2, fun H9 s9 => ?_⟩
        refine ⟨_, rfl, rfl, n, rfl, n1, n2, fun H10 s10 => ?_⟩
        rw [k2]
        have ok1 : okDs [.int (d : Int), .int (d : Int)] = true := by
          have h1 : decide (((d : Nat) : Int).natAbs.log2 < 900) = true := decide_eq_true (by rw [Int.natAbs_natCast]; exact Nat.lt_trans (log2_of_lt (by decide) dl) (by decide))
          simp only [okDs, okD, h1, Bool.and_self]
        have bk1 : PyData.bulkAll [.int (d : Int), .int (d : Int)] ≤ 10000 := by simp only [PyData.bulkAll, PyData.bulk]; decide
        have dp1 : PyData.depthAll [.int (d : Int), .int (d : Int)] ≤ 59 := by simp only [PyData.depthAll, PyData.depth]; decide
        refine ⟨by show 2 ≤ sizeLine; decide, fun p1 np1 => ?_⟩
        have g1 : GD K (upd H10 p1 (.lst [.int d, .int d])) (.ref p1) (.list [.int d, .int d]) := GD.of (SqL.of upd_same) (.cons (.int _) (.cons (.int _) .nil)) ok1 bk1 dp1
        refine ⟨_, _, rfl, g1, _, rfl, _, rfl, by show 2 ≤ sizeLine; decide, fun p2 np2 => ?_⟩
        have g2 : GD K (upd (upd H10 p1 (.lst [.int d, .int d])) p2 (.lst [.int d, .int d])) (.ref p2) (.list [.int d, .int d]) := GD.of (SqL.of upd_same) (.cons (.int _) (.cons (.int _) .nil)) ok1 bk1 dp1
        refine ⟨_, _, rfl, g2, rfl, _, rfl, ?_⟩
        rw [decide_eq_true rfl]
        refine iteF ?_
        exact ⟨_, _, _, _, _, rfl, ((((G8.same s9).same s10).new np1).new np2).mono (by omega)⟩
    · rintro σ H' ⟨v2, v3, v4, v5, v6, rfl, hG⟩
      exact q _
end

/-! ### what the top has written, the end -/
theorem all_mk {l : PySem.W.OpenLaw} {w : World} {K : PySem.W.Frag} {h : Heap} {mg : Str → Option Value} {fa f0 f1 f2 f3 f4 f5 f6 f7 f8 f9 f10 f11 f12 f13 f14 f15 f16 f17 : Addr} (X : K.In h) (G : h.Ns mainGlobals mg) (hfa : mg "law" = some (.ref fa))
    {od0 an0 od1 an1 od2 an2 od3 an3 od4 an4 od5 an5 od6 an6 od7 an7 od8 an8 od9 an9 od10 an10 od11 an11 od12 an12 od13 an13 od14 an14 od15 an15 od16 an16 od17 an17 : Option Addr} {sl0 sl1 sl2 sl3 sl4 sl5 sl6 sl7 sl8 sl9 sl10 sl11 sl12 sl13 sl14 sl15 sl16 sl17 : Array (Option Value)} {oc0 kV0 dc0 pm0 cd0 ct0 oc1 kV1 dc1 pm1 cd1 ct1 oc2 kV2 dc2 pm2 cd2 ct2 oc3 kV3 dc3 pm3 cd3 ct3 oc4 kV4 dc4 pm4 cd4 ct4 oc5 kV5 dc5 pm5 cd5 ct5 oc6 kV6 dc6 pm6 cd6 ct6 oc7 kV7 dc7 pm7 cd7 ct7 oc8 kV8 dc8 pm8 cd8 ct8 oc9 kV9 dc9 pm9 cd9 ct9 oc10 kV10 dc10 pm10 cd10 ct10 oc11 kV11 dc11 pm11 cd11 ct11 oc12 kV12 dc12 pm12 cd12 ct12 oc13 kV13 dc13 pm13 cd13 ct13 oc14 kV14 dc14 pm14 cd14 ct14 oc15 kV15 dc15 pm15 cd15 ct15 oc16 kV16 dc16 pm16 cd16 ct16 oc17 kV17 dc17 pm17 cd17 ct17 : Value}
    (a0 : PySem.W.nsIn K mainGlobals "is_integer" = some (some (.ref f0)))
    (l0 : K.lookup f0 = some ⟨oc0, od0, .func (PySem.W.fnOf "is_integer" "is_integer" (defArgs s_is_integer) (defBody s_is_integer) (defScope s_is_integer) .none kV0 dc0 pm0 an0 cd0 ct0), sl0⟩)
    (c0 : PySem.W.codeIn K cd0 "is_integer" = true) (k0 : PySem.W.keepIn K (.ref f0) = true)
    (a1 : PySem.W.nsIn K mainGlobals "is_within" = some (some (.ref f1)))
    (l1 : K.lookup f1 = some ⟨oc1, od1, .func (PySem.W.fnOf "is_within" "is_within" (defArgs s_is_within) (defBody s_is_within) (defScope s_is_within) .none kV1 dc1 pm1 an1 cd1 ct1), sl1⟩)
    (c1 : PySem.W.codeIn K cd1 "is_within" = true) (k1 : PySem.W.keepIn K (.ref f1) = true)
    (a2 : PySem.W.nsIn K mainGlobals "check_number" = some (some (.ref f2)))
    (l2 : K.lookup f2 = some ⟨oc2, od2, .func (PySem.W.fnOf "check_number" "check_number" (defArgs s_check_number) (defBody s_check_number) (defScope s_check_number) .none kV2 dc2 pm2 an2 cd2 ct2), sl2⟩)
    (c2 : PySem.W.codeIn K cd2 "check_number" = true) (k2 : PySem.W.keepIn K (.ref f2) = true)
    (a3 : PySem.W.nsIn K mainGlobals "check_pairs" = some (some (.ref f3)))
    (l3 : K.lookup f3 = some ⟨oc3, od3, .func (PySem.W.fnOf "check_pairs" "check_pairs" (defArgs s_check_pairs) (defBody s_check_pairs) (defScope s_check_pairs) .none kV3 dc3 pm3 an3 cd3 ct3), sl3⟩)
    (c3 : PySem.W.codeIn K cd3 "check_pairs" = true) (k3 : PySem.W.keepIn K (.ref f3) = true)
    (a4 : PySem.W.nsIn K mainGlobals "_ways_on" = some (some (.ref f4)))
    (l4 : K.lookup f4 = some ⟨oc4, od4, .func (PySem.W.fnOf "_ways_on" "_ways_on" (defArgs s__ways_on) (defBody s__ways_on) (defScope s__ways_on) .none kV4 dc4 pm4 an4 cd4 ct4), sl4⟩)
    (c4 : PySem.W.codeIn K cd4 "_ways_on" = true) (k4 : PySem.W.keepIn K (.ref f4) = true)
    (a5 : PySem.W.nsIn K mainGlobals "how_many_words" = some (some (.ref f5)))
    (l5 : K.lookup f5 = some ⟨oc5, od5, .func (PySem.W.fnOf "how_many_words" "how_many_words" (defArgs s_how_many_words) (defBody s_how_many_words) (defScope s_how_many_words) .none kV5 dc5 pm5 an5 cd5 ct5), sl5⟩)
    (c5 : PySem.W.codeIn K cd5 "how_many_words" = true) (k5 : PySem.W.keepIn K (.ref f5) = true)
    (a6 : PySem.W.nsIn K mainGlobals "_coprime" = some (some (.ref f6)))
    (l6 : K.lookup f6 = some ⟨oc6, od6, .func (PySem.W.fnOf "_coprime" "_coprime" (defArgs s__coprime) (defBody s__coprime) (defScope s__coprime) .none kV6 dc6 pm6 an6 cd6 ct6), sl6⟩)
    (c6 : PySem.W.codeIn K cd6 "_coprime" = true) (k6 : PySem.W.keepIn K (.ref f6) = true)
    (a7 : PySem.W.nsIn K mainGlobals "_with_place" = some (some (.ref f7)))
    (l7 : K.lookup f7 = some ⟨oc7, od7, .func (PySem.W.fnOf "_with_place" "_with_place" (defArgs s__with_place) (defBody s__with_place) (defScope s__with_place) .none kV7 dc7 pm7 an7 cd7 ct7), sl7⟩)
    (c7 : PySem.W.codeIn K cd7 "_with_place" = true) (k7 : PySem.W.keepIn K (.ref f7) = true)
    (a8 : PySem.W.nsIn K mainGlobals "_with_tie" = some (some (.ref f8)))
    (l8 : K.lookup f8 = some ⟨oc8, od8, .func (PySem.W.fnOf "_with_tie" "_with_tie" (defArgs s__with_tie) (defBody s__with_tie) (defScope s__with_tie) .none kV8 dc8 pm8 an8 cd8 ct8), sl8⟩)
    (c8 : PySem.W.codeIn K cd8 "_with_tie" = true) (k8 : PySem.W.keepIn K (.ref f8) = true)
    (a9 : PySem.W.nsIn K mainGlobals "how_many_trees" = some (some (.ref f9)))
    (l9 : K.lookup f9 = some ⟨oc9, od9, .func (PySem.W.fnOf "how_many_trees" "how_many_trees" (defArgs s_how_many_trees) (defBody s_how_many_trees) (defScope s_how_many_trees) .none kV9 dc9 pm9 an9 cd9 ct9), sl9⟩)
    (c9 : PySem.W.codeIn K cd9 "how_many_trees" = true) (k9 : PySem.W.keepIn K (.ref f9) = true)
    (a10 : PySem.W.nsIn K mainGlobals "_law_abbey" = some (some (.ref f10)))
    (l10 : K.lookup f10 = some ⟨oc10, od10, .func (PySem.W.fnOf "_law_abbey" "_law_abbey" (defArgs s__law_abbey) (defBody s__law_abbey) (defScope s__law_abbey) .none kV10 dc10 pm10 an10 cd10 ct10), sl10⟩)
    (c10 : PySem.W.codeIn K cd10 "_law_abbey" = true) (k10 : PySem.W.keepIn K (.ref f10) = true)
    (a11 : PySem.W.nsIn K mainGlobals "_law_toll" = some (some (.ref f11)))
    (l11 : K.lookup f11 = some ⟨oc11, od11, .func (PySem.W.fnOf "_law_toll" "_law_toll" (defArgs s__law_toll) (defBody s__law_toll) (defScope s__law_toll) .none kV11 dc11 pm11 an11 cd11 ct11), sl11⟩)
    (c11 : PySem.W.codeIn K cd11 "_law_toll" = true) (k11 : PySem.W.keepIn K (.ref f11) = true)
    (a12 : PySem.W.nsIn K mainGlobals "_law_one_of" = some (some (.ref f12)))
    (l12 : K.lookup f12 = some ⟨oc12, od12, .func (PySem.W.fnOf "_law_one_of" "_law_one_of" (defArgs s__law_one_of) (defBody s__law_one_of) (defScope s__law_one_of) .none kV12 dc12 pm12 an12 cd12 ct12), sl12⟩)
    (c12 : PySem.W.codeIn K cd12 "_law_one_of" = true) (k12 : PySem.W.keepIn K (.ref f12) = true)
    (a13 : PySem.W.nsIn K mainGlobals "_law_lots" = some (some (.ref f13)))
    (l13 : K.lookup f13 = some ⟨oc13, od13, .func (PySem.W.fnOf "_law_lots" "_law_lots" (defArgs s__law_lots) (defBody s__law_lots) (defScope s__law_lots) .none kV13 dc13 pm13 an13 cd13 ct13), sl13⟩)
    (c13 : PySem.W.codeIn K cd13 "_law_lots" = true) (k13 : PySem.W.keepIn K (.ref f13) = true)
    (a14 : PySem.W.nsIn K mainGlobals "_law_words" = some (some (.ref f14)))
    (l14 : K.lookup f14 = some ⟨oc14, od14, .func (PySem.W.fnOf "_law_words" "_law_words" (defArgs s__law_words) (defBody s__law_words) (defScope s__law_words) .none kV14 dc14 pm14 an14 cd14 ct14), sl14⟩)
    (c14 : PySem.W.codeIn K cd14 "_law_words" = true) (k14 : PySem.W.keepIn K (.ref f14) = true)
    (a15 : PySem.W.nsIn K mainGlobals "_law_common" = some (some (.ref f15)))
    (l15 : K.lookup f15 = some ⟨oc15, od15, .func (PySem.W.fnOf "_law_common" "_law_common" (defArgs s__law_common) (defBody s__law_common) (defScope s__law_common) .none kV15 dc15 pm15 an15 cd15 ct15), sl15⟩)
    (c15 : PySem.W.codeIn K cd15 "_law_common" = true) (k15 : PySem.W.keepIn K (.ref f15) = true)
    (a16 : PySem.W.nsIn K mainGlobals "_law_left" = some (some (.ref f16)))
    (l16 : K.lookup f16 = some ⟨oc16, od16, .func (PySem.W.fnOf "_law_left" "_law_left" (defArgs s__law_left) (defBody s__law_left) (defScope s__law_left) .none kV16 dc16 pm16 an16 cd16 ct16), sl16⟩)
    (c16 : PySem.W.codeIn K cd16 "_law_left" = true) (k16 : PySem.W.keepIn K (.ref f16) = true)
    (a17 : PySem.W.nsIn K mainGlobals "law" = some (some (.ref f17)))
    (l17 : K.lookup f17 = some ⟨oc17, od17, .func (PySem.W.fnOf "law" "law" (defArgs s_law) (defBody s_law) (defScope s_law) .none kV17 dc17 pm17 an17 cd17 ct17), sl17⟩)
    (c17 : PySem.W.codeIn K cd17 "law" = true) (k17 : PySem.W.keepIn K (.ref f17) = true)
    (z_int : PySem.W.nsIn K mainGlobals "int" = some none)
    (z_len : PySem.W.nsIn K mainGlobals "len" = some none)
    (z_abs : PySem.W.nsIn K mainGlobals "abs" = some none)
    (z_range : PySem.W.nsIn K mainGlobals "range" = some none)
    (z_isinstance : PySem.W.nsIn K mainGlobals "isinstance" = some none)
    (z_bool : PySem.W.nsIn K mainGlobals "bool" = some none)
    (z_sum : PySem.W.nsIn K mainGlobals "sum" = some none)
    (z_repr : PySem.W.nsIn K mainGlobals "repr" = some none)
    {u_MOST_PAIRS : Value} (w_MOST_PAIRS : PySem.W.nsIn K mainGlobals "MOST_PAIRS" = some (some u_MOST_PAIRS)) (r_MOST_PAIRS : RelV (.int 200) u_MOST_PAIRS)
    (b_comb : PySem.W.nsIn K mainGlobals "comb" = some (some (.builtin "math.comb")))
    (b_gcd : PySem.W.nsIn K mainGlobals "gcd" = some (some (.builtin "math.gcd")))
    : ∃ fd : FuncData, (∀ (s : Shared) (v : Value), BindsTo s fd ⟨[v], []⟩ [("script", v)]) ∧ ∀ base : Heap, K.In base → base.Ns mainGlobals mg → FnG l.prog w K mg base CX0 8 fa fd ["script"] (spLaw K) := by
  have e := hfa.symm.trans (PySem.W.mg_of X G a17)
  cases e
  have T : Txt K mg := ⟨PySem.W.mg_none_of X G z_int, PySem.W.mg_none_of X G z_len, PySem.W.mg_none_of X G z_abs, PySem.W.mg_none_of X G z_range, PySem.W.mg_none_of X G z_isinstance, PySem.W.mg_none_of X G z_bool, PySem.W.mg_none_of X G z_sum, PySem.W.mg_none_of X G z_repr, ⟨_, PySem.W.mg_of X G w_MOST_PAIRS, r_MOST_PAIRS⟩, PySem.W.mg_of X G b_comb, PySem.W.mg_of X G b_gcd⟩
  have F0 := fun_mk (st := s_is_integer) l0 c0 k0
  have b0 := F0.binds (ps := ["value"]) fun _ _ _ _ _ _ us hl => match us, hl with | [_], _ => rfl
  have F1 := fun_mk (st := s_is_within) l1 c1 k1
  have b1 := F1.binds (ps := ["value", "least", "most"]) fun _ _ _ _ _ _ us hl => match us, hl with | [_, _, _], _ => rfl
  have F2 := fun_mk (st := s_check_number) l2 c2 k2
  have b2 := F2.binds (ps := ["value", "least", "most", "part"]) fun _ _ _ _ _ _ us hl => match us, hl with | [_, _, _, _], _ => rfl
  have F3 := fun_mk (st := s_check_pairs) l3 c3 k3
  have b3 := F3.binds (ps := ["pairs"]) fun _ _ _ _ _ _ us hl => match us, hl with | [_], _ => rfl
  have F4 := fun_mk (st := s__ways_on) l4 c4 k4
  have b4 := F4.binds (ps := ["ones", "zeros"]) fun _ _ _ _ _ _ us hl => match us, hl with | [_, _], _ => rfl
  have F5 := fun_mk (st := s_how_many_words) l5 c5 k5
  have b5 := F5.binds (ps := ["pairs"]) fun _ _ _ _ _ _ us hl => match us, hl with | [_], _ => rfl
  have F6 := fun_mk (st := s__coprime) l6 c6 k6
  have b6 := F6.binds (ps := ["number"]) fun _ _ _ _ _ _ us hl => match us, hl with | [_], _ => rfl
  have F7 := fun_mk (st := s__with_place) l7 c7 k7
  have b7 := F7.binds (ps := ["pairs"]) fun _ _ _ _ _ _ us hl => match us, hl with | [_], _ => rfl
  have F8 := fun_mk (st := s__with_tie) l8 c8 k8
  have b8 := F8.binds (ps := ["pairs"]) fun _ _ _ _ _ _ us hl => match us, hl with | [_], _ => rfl
  have F9 := fun_mk (st := s_how_many_trees) l9 c9 k9
  have b9 := F9.binds (ps := ["pairs"]) fun _ _ _ _ _ _ us hl => match us, hl with | [_], _ => rfl
  have F10 := fun_mk (st := s__law_abbey) l10 c10 k10
  have b10 := F10.binds (ps := ["script"]) fun _ _ _ _ _ _ us hl => match us, hl with | [_], _ => rfl
  have F11 := fun_mk (st := s__law_toll) l11 c11 k11
  have b11 := F11.binds (ps := ["abbey", "many"]) fun _ _ _ _ _ _ us hl => match us, hl with | [_, _], _ => rfl
  have F12 := fun_mk (st := s__law_one_of) l12 c12 k12
  have b12 := F12.binds (ps := ["abbey", "some"]) fun _ _ _ _ _ _ us hl => match us, hl with | [_, _], _ => rfl
  have F13 := fun_mk (st := s__law_lots) l13 c13 k13
  have b13 := F13.binds (ps := ["many", "some"]) fun _ _ _ _ _ _ us hl => match us, hl with | [_, _], _ => rfl
  have F14 := fun_mk (st := s__law_words) l14 c14 k14
  have b14 := F14.binds (ps := ["pairs"]) fun _ _ _ _ _ _ us hl => match us, hl with | [_], _ => rfl
  have F15 := fun_mk (st := s__law_common) l15 c15 k15
  have b15 := F15.binds (ps := ["one", "other"]) fun _ _ _ _ _ _ us hl => match us, hl with | [_, _], _ => rfl
  have F16 := fun_mk (st := s__law_left) l16 c16 k16
  have b16 := F16.binds (ps := ["pairs", "turns"]) fun _ _ _ _ _ _ us hl => match us, hl with | [_, _], _ => rfl
  refine ⟨PySem.W.fnOf "law" "law" (defArgs s_law) (defBody s_law) (defScope s_law) .none kV17 dc17 pm17 an17 cd17 ct17, fun s v => .of_eq rfl, fun base _ _ => ?_⟩
  have o0 := ok_is_integer (P := l.prog) (w := w) (mg := mg) (base := base) F0 T 
  have c_is_integer : Cl l.prog w K mg base 1 "is_integer" (spIsInt K) := Cl.mk' F0 (PySem.W.mg_of X G a0) b0 o0
  have o1 := ok_is_within (P := l.prog) (w := w) (mg := mg) (base := base) F1 T c_is_integer
  have c_is_within : Cl l.prog w K mg base 2 "is_within" (spWithin K) := Cl.mk' F1 (PySem.W.mg_of X G a1) b1 o1
  have o2 := ok_check_number (P := l.prog) (w := w) (mg := mg) (base := base) F2 T c_is_within
  have c_check_number : Cl l.prog w K mg base 3 "check_number" (spCheck K) := Cl.mk' F2 (PySem.W.mg_of X G a2) b2 o2
  have o3 := ok_check_pairs (P := l.prog) (w := w) (mg := mg) (base := base) F3 T c_check_number
  have c_check_pairs : Cl l.prog w K mg base 4 "check_pairs" (spPairs) := Cl.mk' F3 (PySem.W.mg_of X G a3) b3 o3
  have o4 := ok__ways_on (P := l.prog) (w := w) (mg := mg) (base := base) F4 T 
  have c__ways_on : Cl l.prog w K mg base 1 "_ways_on" (spWays) := Cl.mk' F4 (PySem.W.mg_of X G a4) b4 o4
  have o5 := ok_how_many_words (P := l.prog) (w := w) (mg := mg) (base := base) F5 T c_check_pairs c__ways_on
  have c_how_many_words : Cl l.prog w K mg base 5 "how_many_words" (spWords) := Cl.mk' F5 (PySem.W.mg_of X G a5) b5 o5
  have o6 := ok__coprime (P := l.prog) (w := w) (mg := mg) (base := base) F6 T 
  have c__coprime : Cl l.prog w K mg base 1 "_coprime" (spCop) := Cl.mk' F6 (PySem.W.mg_of X G a6) b6 o6
  have o7 := ok__with_place (P := l.prog) (w := w) (mg := mg) (base := base) F7 T c__coprime
  have c__with_place : Cl l.prog w K mg base 2 "_with_place" (spPlace) := Cl.mk' F7 (PySem.W.mg_of X G a7) b7 o7
  have o8 := ok__with_tie (P := l.prog) (w := w) (mg := mg) (base := base) F8 T c_how_many_words
  have c__with_tie : Cl l.prog w K mg base 6 "_with_tie" (spTie) := Cl.mk' F8 (PySem.W.mg_of X G a8) b8 o8
  have o9 := ok_how_many_trees (P := l.prog) (w := w) (mg := mg) (base := base) F9 T c_check_pairs c__with_place c__with_tie c_how_many_words
  have c_how_many_trees : Cl l.prog w K mg base 7 "how_many_trees" (spTrees) := Cl.mk' F9 (PySem.W.mg_of X G a9) b9 o9
  have ck_how_many_trees_pairs : ClK l.prog w K mg base 7 "how_many_trees" ["pairs"] (pick [0]) (spTrees) :=
    ⟨_, _, _, pick [0], o9, PySem.W.mg_of X G a9, F9.kp, fun s ws hl => match ws, hl with | [_], _ => .of_eq rfl, fun zs ws r => pick_vals _ r⟩
  have o10 := ok__law_abbey (P := l.prog) (w := w) (mg := mg) (base := base) F10 T 
  have c__law_abbey : Cl l.prog w K mg base 1 "_law_abbey" (spGauge K) := Cl.mk' F10 (PySem.W.mg_of X G a10) b10 o10
  have o11 := ok__law_toll (P := l.prog) (w := w) (mg := mg) (base := base) F11 T 
  have c__law_toll : Cl l.prog w K mg base 1 "_law_toll" (spTick) := Cl.mk' F11 (PySem.W.mg_of X G a11) b11 o11
  have o12 := ok__law_one_of (P := l.prog) (w := w) (mg := mg) (base := base) F12 T c__law_toll
  have c__law_one_of : Cl l.prog w K mg base 2 "_law_one_of" (spDial K) := Cl.mk' F12 (PySem.W.mg_of X G a12) b12 o12
  have o13 := ok__law_lots (P := l.prog) (w := w) (mg := mg) (base := base) F13 T 
  have c__law_lots : Cl l.prog w K mg base 1 "_law_lots" (spLots) := Cl.mk' F13 (PySem.W.mg_of X G a13) b13 o13
  have o14 := ok__law_words (P := l.prog) (w := w) (mg := mg) (base := base) F14 T c__law_lots
  have c__law_words : Cl l.prog w K mg base 2 "_law_words" (spLw) := Cl.mk' F14 (PySem.W.mg_of X G a14) b14 o14
  have o15 := ok__law_common (P := l.prog) (w := w) (mg := mg) (base := base) F15 T 
  have c__law_common : Cl l.prog w K mg base 1 "_law_common" (spGcd) := Cl.mk' F15 (PySem.W.mg_of X G a15) b15 o15
  have o16 := ok__law_left (P := l.prog) (w := w) (mg := mg) (base := base) F16 T c__law_common c__law_words
  have c__law_left : Cl l.prog w K mg base 3 "_law_left" (spLeft) := Cl.mk' F16 (PySem.W.mg_of X G a16) b16 o16
  exact ok_law (fun_mk (st := s_law) l17 c17 k17) T c__law_abbey c__law_toll c__law_one_of c__law_left c_how_many_trees ck_how_many_trees_pairs
end EH

open PySem PySem.W PyProof.Rows in
set_option maxHeartbeats 0 in
theorem PySem.Challenge.cw_everyhalf_k16_whole_trees_counted_for_an_holds : PySem.Challenge.rw_everyhalf_k16_whole_trees_counted_for_an.Holds := by
  w_on; o_law; k_head; (case hw => w_witness2)
  k_fill
  refine EH.walk_ofG (l := PySem.Challenge.rw_everyhalf_k16_whole_trees_counted_for_an) (n := 63) (k := 8) (x := "script") (sp := fun K => EH.spLaw K) rfl (by decide) rfl ⟨rfl, by decide, by decide⟩ (fun w h Y => PySem.W.kIn_of Y) ?F EH.law_end
  case F =>
    intro w mg fa h KX G hmg
    refine' EH.all_mk KX G hmg ?a0 ?l0 ?c0 ?k0 ?a1 ?l1 ?c1 ?k1 ?a2 ?l2 ?c2 ?k2 ?a3 ?l3 ?c3 ?k3 ?a4 ?l4 ?c4 ?k4 ?a5 ?l5 ?c5 ?k5 ?a6 ?l6 ?c6 ?k6 ?a7 ?l7 ?c7 ?k7 ?a8 ?l8 ?c8 ?k8 ?a9 ?l9 ?c9 ?k9 ?a10 ?l10 ?c10 ?k10 ?a11 ?l11 ?c11 ?k11 ?a12 ?l12 ?c12 ?k12 ?a13 ?l13 ?c13 ?k13 ?a14 ?l14 ?c14 ?k14 ?a15 ?l15 ?c15 ?k15 ?a16 ?l16 ?c16 ?k16 ?a17 ?l17 ?c17 ?k17 ?z_int ?z_len ?z_abs ?z_range ?z_isinstance ?z_bool ?z_sum ?z_repr ?w_MOST_PAIRS ?r_MOST_PAIRS ?b_comb ?b_gcd
    (case a0 => k_is)
    (case l0 => k_is)
    (case c0 => k_is)
    (case k0 => k_is)
    (case a1 => k_is)
    (case l1 => k_is)
    (case c1 => k_is)
    (case k1 => k_is)
    (case a2 => k_is)
    (case l2 => k_is)
    (case c2 => k_is)
    (case k2 => k_is)
    (case a3 => k_is)
    (case l3 => k_is)
    (case c3 => k_is)
    (case k3 => k_is)
    (case a4 => k_is)
    (case l4 => k_is)
    (case c4 => k_is)
    (case k4 => k_is)
    (case a5 => k_is)
    (case l5 => k_is)
    (case c5 => k_is)
    (case k5 => k_is)
    (case a6 => k_is)
    (case l6 => k_is)
    (case c6 => k_is)
    (case k6 => k_is)
    (case a7 => k_is)
    (case l7 => k_is)
    (case c7 => k_is)
    (case k7 => k_is)
    (case a8 => k_is)
    (case l8 => k_is)
    (case c8 => k_is)
    (case k8 => k_is)
    (case a9 => k_is)
    (case l9 => k_is)
    (case c9 => k_is)
    (case k9 => k_is)
    (case a10 => k_is)
    (case l10 => k_is)
    (case c10 => k_is)
    (case k10 => k_is)
    (case a11 => k_is)
    (case l11 => k_is)
    (case c11 => k_is)
    (case k11 => k_is)
    (case a12 => k_is)
    (case l12 => k_is)
    (case c12 => k_is)
    (case k12 => k_is)
    (case a13 => k_is)
    (case l13 => k_is)
    (case c13 => k_is)
    (case k13 => k_is)
    (case a14 => k_is)
    (case l14 => k_is)
    (case c14 => k_is)
    (case k14 => k_is)
    (case a15 => k_is)
    (case l15 => k_is)
    (case c15 => k_is)
    (case k15 => k_is)
    (case a16 => k_is)
    (case l16 => k_is)
    (case c16 => k_is)
    (case k16 => k_is)
    (case a17 => k_is)
    (case l17 => k_is)
    (case c17 => k_is)
    (case k17 => k_is)
    (case z_int => k_is)
    (case z_len => k_is)
    (case z_abs => k_is)
    (case z_range => k_is)
    (case z_isinstance => k_is)
    (case z_bool => k_is)
    (case z_sum => k_is)
    (case z_repr => k_is)
    (case w_MOST_PAIRS => k_is)
    (case r_MOST_PAIRS => exact ⟨_, rfl⟩)
    (case b_comb => k_is)
    (case b_gcd => k_is)
#print axioms PySem.Challenge.cw_everyhalf_k16_whole_trees_counted_for_an_holds
