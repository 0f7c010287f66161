import PyProof.Rows.All
import Wide.All
import OpenK.AllK
import Wide.FinOn
import HandS.ForMost
import HandS.ForExc
import HandS.IsInst
import HandS.Zip
import HandS.Evl
import HandS.ExcIs
import HandS.SetFor
import PySem.Challenge.RW_crcgate_k07_rests_and_noughts
set_option Elab.async false
set_option linter.all false
set_option maxRecDepth 100000
set_option maxHeartbeats 4000000
/-! ## Pre: our own words over the hand layer: rows of iv, defs of the top -/
namespace Cg
open PySem PySem.Spec PyProof.Rows L2 Evl

abbrev iv (ns : List Int) : List V := ns.map V.int
theorem iv_len (ns : List Int) : (iv ns).length = ns.length := List.length_map ..
theorem iv_at {ns : List Int} {i : Nat} {x : V} (h : (iv ns)[i]? = some x) : ∃ n, ns[i]? = some n ∧ x = V.int n := by
  rw [List.getElem?_map] at h
  cases e : ns[i]? with
  | none => rw [e] at h; cases h
  | some n => rw [e] at h; exact ⟨n, rfl, (Option.some.inj h).symm⟩
theorem iv_get {ns : List Int} {i : Nat} {n : Int} (h : ns[i]? = some n) : (iv ns)[i]? = some (V.int n) := by
  rw [List.getElem?_map, h]; rfl
theorem iv_inj {xs ys : List Int} (h : iv xs = iv ys) : xs = ys := by
  induction xs generalizing ys with
  | nil => cases ys with
    | nil => rfl
    | cons y r => cases h
  | cons x r ih => cases ys with
    | nil => cases h
    | cons y s =>
      have e1 : V.int x = V.int y := (List.cons.inj h).1
      have e2 : iv r = iv s := (List.cons.inj h).2
      rw [V.int.inj e1, ih e2]

theorem b_list : bootBuiltins "list" = some (.type "list") := by decide +kernel
theorem b_int : bootBuiltins "int" = some (.type "int") := by decide +kernel
theorem b_bool : bootBuiltins "bool" = some (.type "bool") := by decide +kernel
theorem b_str : bootBuiltins "str" = some (.type "str") := by decide +kernel
theorem b_tuple : bootBuiltins "tuple" = some (.type "tuple") := by decide +kernel
theorem b_ValueError : bootBuiltins "ValueError" = some (.type "ValueError") := by decide +kernel
theorem b_len : bootBuiltins "len" = some (.builtin "len") := PySem.boot_len
theorem b_isinstance : bootBuiltins "isinstance" = some (.builtin "isinstance") := by decide +kernel
theorem b_max : bootBuiltins "max" = some (.builtin "max") := by decide +kernel
theorem b_min : bootBuiltins "min" = some (.builtin "min") := by decide +kernel
theorem b_all : bootBuiltins "all" = some (.builtin "all") := by decide +kernel
theorem b_sum : bootBuiltins "sum" = some (.builtin "sum") := by decide +kernel
theorem b_ord : bootBuiltins "ord" = some (.builtin "ord") := by decide +kernel
theorem b_chr : bootBuiltins "chr" = some (.builtin "chr") := by decide +kernel
def rInt1 : List V → Hp → VK → Prop := fun xs H Q => (∃ i, xs = [.int i] ∧ Q (.int i) H) ∨ ∃ k, xs = [.bl k] ∧ Q (.int (if k then 1 else 0)) H
def rMin2 : List V → Hp → VK → Prop := fun xs H Q => ∃ i j, xs = [.int i, .int j] ∧ Q (.int (if j < i then j else i)) H
/-! ### defs of the top -/
def Raw (K : PySem.W.Frag) (mg : Str → Option Value) (name qual : Str) (st : Stmt) (ps : List Str) : Prop := ∃ f fd, Fun K name qual st f fd ∧ Binds K fd ps [] ∧ mg name = some (.ref f)
def Has (P : Program) (w : World) (K : PySem.W.Frag) (mg : Str → Option Value) (base : Heap) (k : Nat) (name : Str) (ps : List Str) (sp : Sp) : Prop :=
  ∃ f fd, FnOk P w K mg base (L2.CX P w) k f fd ps sp ∧ mg name = some (.ref f) ∧ PySem.W.keepIn K (.ref f) = true ∧ Binds K fd ps []
section
variable {P : Program} {w : World} {K : PySem.W.Frag} {mg : Str → Option Value} {base : Heap}
theorem Raw.ok {x qual : Str} {st : Stmt} {N ps : List Str} {k : Nat} {sp : Sp} (R : Raw K mg x qual st ps) (S : FnScope N ps (defScope st)) (len : ∀ vs H Q E, sp vs H Q E → vs.length = ps.length)
    (hbody : ∀ (f : Addr) (cdv : Value) (A : Around) (outer : List Env) (s : Shared) (H : Hp) (vs : List V) (Q : VK) (E : XK), Room k (A.deeper (envOfC qual (defScope st) s.heap.objs.size f cdv)) → sp vs H Q E →
      ∃ t, PSs (cxOf (L2.CX P w) P w K mg base N qual (defScope st) f cdv A outer s H E) (defBody st) t ∧ t { nx := fun _ H' => Q .non H', rt := Q } (start N vs) H) : Has P w K mg base (k + 1) x ps sp := by
  obtain ⟨f, fd, F, b, g⟩ := R
  exact ⟨f, fd, F.okX S len fun cdv A outer s H vs Q E hr h => hbody f cdv A outer s H vs Q E hr h, g, F.kp, b⟩
end
section
variable {X : Cx} {k : Nat} {ps : List Str} {sp : Sp} {E : XK} {x : Str} {p pos : Pos} {e : Expr} {es : List Expr} {t : TA}
theorem pe_callH (F : Has X.prog X.w X.K X.mg X.base k x ps sp) (hr : Room k X.A) (hx : Passes (L2.CX X.prog X.w) X E) (ha : PA X (e :: es) t) (hg : Gl X x := by rfl) (hdb : (x == ("__debug__" : Str)) = false := by decide)
    (he : starEach (e :: es) X.env = (false, eval e X.env) :: starEach es X.env := by rfl) (hpl : (backTo pos (starEach es X.env)).any (·.1) = false := by rfl) : PE X (.Call (.Name x p) (e :: es) [] pos) (tCall sp [] E t) := by
  obtain ⟨f, fd, F, g, kp, b⟩ := F
  exact pe_call F hr hg g kp b .nil hx ha hdb he hpl
end

theorem op_eqII : OpR X (compareOp .Eq) (rI0 fun i j => .bl (decide (i = j))) := opB0 fun _ _ _ _ _ _ _ q => eq_int (by rw [Bool.beq_eq_decide_eq]; exact q)
theorem op_neII : OpR X (compareOp .NotEq) (rI0 fun i j => .bl (!decide (i = j))) := opB0 fun _ _ _ _ _ _ _ q => ne_int (by rw [bne, Bool.beq_eq_decide_eq]; exact q)

theorem kk_isi (K) (h : X.K = K := by rfl) : CallR X (.builtin "isinstance") (rIsi K) := h ▸ call_isi
theorem kk_len (K) (h : X.K = K := by rfl) : CallR X (.builtin "len") (rLenS K) := h ▸ call_len_seq
theorem kk_list (K) (h : X.K = K := by rfl) : CallR X (.type "list") (rListS K) := h ▸ call_list_of
theorem kk_all (K) (hc : X.calm = true) (h : X.K = K := by rfl) : CallR X (.builtin "all") (rAll K) := h ▸ cr_all hc
theorem kk_sum (K) (hc : X.calm = true) (h : X.K = K := by rfl) : CallR X (.builtin "sum") (rSum K) := h ▸ cr_sum hc
theorem kk_int : CallR X (.type "int") rInt1 := call_int1
theorem kk_max (hc : X.calm = true) : CallR X (.builtin "max") rMax2 := call_max2 hc
theorem kk_min (hc : X.calm = true) : CallR X (.builtin "min") rMin2 := call_min2 hc
theorem kk_ixl (K) (h : X.K = K := by rfl) : IxR X (rIxL K) := h ▸ ix_list
theorem kk_ixt (K) (h : X.K = K := by rfl) : IxR X (rIxT K) := h ▸ ix_tup
theorem kk_sl (K) (h : X.K = K := by rfl) : SlR X (rSlL K) := h ▸ sl_list
theorem kk_in (K) (h : X.K = K := by rfl) : OpR X (compareOp .In) (rIn K false) := h ▸ op_in_seq
theorem kk_ni (K) (h : X.K = K := by rfl) : OpR X (compareOp .NotIn) (rIn K true) := h ▸ op_notIn_seq
theorem kk_eqD (K) (hu : X.A.units + 64 < cLine) (h : X.K = K := by rfl) : OpR X (compareOp .Eq) (rEqD K) := h ▸ op_eqD hu
theorem kk_neD (K) (hu : X.A.units + 64 < cLine) (h : X.K = K := by rfl) : OpR X (compareOp .NotEq) (rNeD K) := h ▸ op_neD hu

theorem cx_none {P : Program} {w : World} {H : Hp} {s : Shared} {e : Value} {s' : Shared} (z : L2.CX P w [] H s (fun _ _ _ => False) e s') : False := by
  obtain ⟨_, _, _, _, _, _, _, _, _, _, _, _, q⟩ := z
  exact q.elim
theorem pe_globI {X : Cx} {x : Str} {n : Int} {pos : Pos} (h : ∃ t, X.mg x = some (.int n t)) (hg : Gl X x := by rfl) (hd : (x == ("__debug__" : Str)) = false := by decide) : PE X (.Name x pos) (tC (.int n)) := by
  obtain ⟨t, h⟩ := h
  exact pe_glob hg h ⟨t, rfl⟩ hd
/-! ### errors of the program -/
abbrev veBase : List Value := [.type "ValueError", .type "Exception", .type "BaseException", .type "object"]
structure ExcT (K : PySem.W.Frag) (mg : Str → Option Value) (x : Str) (C : Addr) : Prop where
  g : mg x = some (.ref C)
  x : PySem.W.excIn K C veBase "ValueError.__new__" = true
  k : PySem.W.keepIn K (.ref C) = true
  b : PySem.W.subIn K (.ref C) (.type "BaseException") = some true
  t : PySem.W.typeIn K (.ref C) = some (.type "type")
  i : PySem.W.isClsIn K C = true
  c : ExcC K C
  v : PySem.W.subIn K (.ref C) (.type "ValueError") = some true
theorem ExcT.r {X : Cx} {x : Str} {C : Addr} (E : ExcT X.K X.mg x C) : Raises X (.ref C) := raises_own E.b E.t
theorem ExcT.exm {K : PySem.W.Frag} {mg : Str → Option Value} {x : Str} {C : Addr} {cls : Value} {b : Bool} (E : ExcT K mg x C) (h : PySem.W.subIn K cls (.ref C) = some b) : PySem.W.exmOne K cls (.ref C) = some b := PySem.W.exm_ref E.b E.c.hd E.t h
theorem ExcT.kitV {K : PySem.W.Frag} {mg : Str → Option Value} {x : Str} {C : Addr} (E : ExcT K mg x C) : PySem.W.kitOne K (.ref C) (.type "ValueError") = some true := by
  have m : PySem.W.kitMeta "ValueError" = true := by decide +kernel
  have n : ((Value.ref C : Value) == .type "ValueError") = false := rfl
  unfold PySem.W.kitOne
  rw [n]
  unfold PySem.W.kitCls
  rw [if_neg Bool.false_ne_true]
  show (if PySem.W.kitMeta "ValueError" = true then PySem.W.subIn K (.ref C) (.type "ValueError") else none) = some true
  rw [if_pos m]
  exact E.v
theorem ExcT.kit {K : PySem.W.Frag} {mg : Str → Option Value} {x : Str} {C D : Addr} {b : Bool} (E : ExcT K mg x C) (h : PySem.W.subIn K (.ref D) (.ref C) = some b) (ne : b = false → C ≠ D) : PySem.W.kitOne K (.ref D) (.ref C) = some b := by
  unfold PySem.W.kitOne
  by_cases e : D = C
  · subst e
    have z : ((Value.ref D : Value) == .ref D) = true := by simp
    rw [z, if_pos rfl]
    cases b with
    | true => rfl
    | false => exact absurd rfl (ne rfl)
  · have z : ((Value.ref D : Value) == .ref C) = false := by simpa using e
    rw [z, if_neg Bool.false_ne_true]
    unfold PySem.W.kitCls
    have e2 : ((PySem.W.clsIn K C).isSome && PySem.W.typeIn K (.ref C) == some (.type "type")) = true := by
      have h2' : (PySem.W.clsIn K C).isSome = true := E.i
      rw [h2', E.t] <;> rfl
    show (if ((PySem.W.clsIn K C).isSome && PySem.W.typeIn K (.ref C) == some (.type "type")) = true then PySem.W.subIn K (.ref D) (.ref C) else none) = some b
    rw [if_pos e2]
    exact h
/-- isinstance(e, c) in an except suite -/
def rIsX (K : PySem.W.Frag) (a : Addr) (cls : Value) (d : Option Addr) : List V → Hp → VK → Prop := fun xs H Q => ∃ D, cls = .ref D ∧ d = none ∧ ExcC K D ∧ rIsE K D a xs H Q
theorem call_isX {X : Cx} {a : Addr} {cls : Value} {d : Option Addr} {oe : Obj} {pn : List (Addr × Obj)} (hz : Zc cls d oe) (hf : ∃ vs, oe.data = .fields vs) : CallR (X.suite a ((a, oe) :: pn)) (.builtin "isinstance") (rIsX X.K a cls d) := by
  intro pins s σ H xs us Q I r h
  obtain ⟨D, rfl, rfl, C, h⟩ := h
  exact call_isE C hz hf pins s σ H xs us Q I r h
section
variable {X : Cx} {k : Nat} {ps : List Str} {sp : Sp} {E : L2.St → XK} {x : Str} {p pos : Pos} {e : Expr} {es : List Expr} {t : TA}
theorem pe_callHS (F : Has X.prog X.w X.K X.mg X.base k x ps sp) (hr : Room k X.A) (hx : ∀ σ, PassesAt (L2.CX X.prog X.w) X σ (E σ)) (ha : PA X (e :: es) t) (hg : Gl X x := by rfl) (hdb : (x == ("__debug__" : Str)) = false := by decide)
    (he : starEach (e :: es) X.env = (false, eval e X.env) :: starEach es X.env := by rfl) (hpl : (backTo pos (starEach es X.env)).any (·.1) = false := by rfl) : PE X (.Call (.Name x p) (e :: es) [] pos) (tCallS sp E t) := by
  obtain ⟨f, fd, F, g, kp, b⟩ := F
  exact pe_callS F hr hg g kp b hx ha hdb he hpl
end
/-! ### what evaluates to what: a list, new or old -/
def EvR (te : TE) (σ : L2.St) (H : Hp) (xs : List V) : Prop := ∀ H1, Ex H H1 → ∀ Q : VK, (∀ p H2, Ex H1 H2 → H2 p = some (.lst xs) → Q (.ref p) H2) → te σ H1 Q
section
variable {K : PySem.W.Frag} {σ : L2.St} {H H' : Hp} {ta tb te tx : TE} {t u : TT} {x y z v : V} {r : R2} {xs ys : List V}
theorem Ex.at {a : Addr} {o : HO} (e : Ex H H') (h : H a = some o) : H' a = some o := e a o h
theorem er_var {i : Nat} {a : Addr} (h : σ[i]? = some (some (.ref a))) (hl : H a = some (.lst xs)) : EvR (tVar i) σ H xs := fun H1 e _ q => ⟨_, h, q a H1 (Ex.refl H1) (e _ _ hl)⟩
theorem er_ev {a : Addr} (h : Ev te σ H (.ref a)) (hl : H a = some (.lst xs)) : EvR te σ H xs := fun H1 e Q q => h H1 e Q fun H2 e2 => q a H2 e2 (e2 _ _ (e _ _ hl))
theorem er_L (h : EvL te σ H xs) : EvR te σ H xs := fun H1 e Q q => h H1 e Q fun p H2 _ e2 h2 => q p H2 e2 h2
theorem EvR.is (h : EvR te σ H xs) (e : xs = ys) : EvR te σ H ys := e ▸ h
theorem el_is (h : EvL te σ H xs) (e : xs = ys) : EvL te σ H ys := e ▸ h
theorem el_cat (ha : EvR ta σ H xs) (hb : EvR tb σ H ys) (hz : xs.length + ys.length ≤ 10000000) : EvL (tOp rCat ta tb) σ H (xs ++ ys) := fun H1 e Q q =>
  ha H1 e _ fun a H2 e2 h2 => hb H2 (e.trans e2) _ fun b H3 e3 h3 => ⟨a, b, xs, ys, rfl, rfl, e3 _ _ h2, h3, Nat.le_trans hz (by decide), fun p hp => q p _ (fresh_back (e2.trans e3) hp) ((e2.trans e3).trans (Ex.new hp)) upd_same⟩
theorem el_rep {k : Int} {x : V} (ha : EvR ta σ H [x]) (hb : Ev tb σ H (.int k)) (hk : k ≤ 10000000 ∧ -10000000 ≤ k) : EvL (tOp rRep ta tb) σ H (List.replicate k.toNat x) := fun H1 e Q q =>
  ha H1 e _ fun a H2 e2 h2 => hb H2 (e.trans e2) _ fun H3 e3 => ⟨a, k, [x], rfl, rfl, e3 _ _ h2, by omega, by omega, by
    show [x].length * k.toNat ≤ 2 ^ 24
    rw [List.length_singleton]; omega, fun p hp => by
    have z : (List.replicate k.toNat [x]).flatten = List.replicate k.toNat x := by
      generalize k.toNat = n
      induction n with
      | zero => rfl
      | succ n ih => rw [List.replicate_succ, List.replicate_succ, List.flatten_cons, ih]; rfl
    refine q p _ (fresh_back (e2.trans e3) hp) ((e2.trans e3).trans (Ex.new hp)) ?_
    rw [z]
    exact upd_same⟩
theorem ev_lenR (ha : EvR ta σ H xs) : Ev (tCB (rLenS K) (tCons ta tNil)) σ H (.int (xs.length : Int)) := fun H1 e Q q =>
  ha H1 e _ fun p H2 e2 h2 => ⟨p, xs, rfl, Or.inl (sq_of h2), q H2 e2⟩
theorem el_listR (ha : EvR ta σ H xs) : EvL (tCB (rListS K) (tCons ta tNil)) σ H xs := fun H1 e Q q =>
  ha H1 e _ fun p H2 e2 h2 => ⟨p, xs, rfl, Or.inl (sq_of h2), fun l hl => q l _ (fresh_back e2 hl) (e2.trans (Ex.new hl)) upd_same⟩
theorem ev_ixR {i : Int} (ha : EvR ta σ H xs) (hb : Ev tb σ H (.int i)) (hv : atI xs i = some v) : Ev (tOp (rIxL K) ta tb) σ H v := fun H1 e Q q =>
  ha H1 e _ fun p H2 e2 h2 => hb H2 (e.trans e2) _ fun H3 e3 => ⟨p, xs, i, v, rfl, rfl, sq_of (e3 _ _ h2), hv, q H3 (e2.trans e3)⟩
theorem el_slR {tl th : TO} {lo hi : Option Int} (h : EvR te σ H xs) (h1 : EvO tl σ H lo) (h2 : EvO th σ H hi) : EvL (tSl (rSlL K) te tl th) σ H (cutV xs lo hi) := fun H1 e _ q =>
  h H1 e _ fun a H2 e2 hs => h1 H2 (e.trans e2) _ fun H3 e3 => h2 H3 ((e.trans e2).trans e3) _ fun H4 e4 =>
    ⟨a, xs, rfl, sq_of ((e3.trans e4) _ _ hs), fun p hp => q p _ (fresh_back ((e2.trans e3).trans e4) hp) (((e2.trans e3).trans e4).trans (Ex.new hp)) upd_same⟩
theorem ev_sumR {ns : List Int} (ha : EvR ta σ H (iv ns)) : Ev (tCB (rSum K) (tCons ta tNil)) σ H (.int ns.sum) := fun H1 e Q q =>
  ha H1 e _ fun p H2 e2 h2 => ⟨p, ns, rfl, sq_of h2, q H2 e2⟩
theorem ev_allR {bs : List Bool} (ha : EvR ta σ H (bs.map V.bl)) : Ev (tCB (rAll K) (tCons ta tNil)) σ H (.bl (bs.all id)) := fun H1 e Q q =>
  ha H1 e _ fun p H2 e2 h2 => ⟨p, bs, rfl, sq_of h2, q H2 e2⟩
theorem dpAll_iv : ∀ (ns : List Int), DpAll K H (iv ns) (ns.map PyData.int)
  | [] => .nil
  | n :: r => .cons (.int n) (dpAll_iv r)
theorem dp_row {a : Addr} {ns : List Int} (h : H a = some (.lst (iv ns))) : Dp K H (.ref a) (.list (ns.map PyData.int)) := .lst (sq_of h) (dpAll_iv ns)
theorem shaped_row (ns : List Int) : SeqAt.shaped (.list (ns.map PyData.int)) = true := by
  induction ns with
  | nil => rfl
  | cons n r ih => exact ih
theorem eqv_rows (xs ys : List Int) : PyData.eqv (.list (xs.map PyData.int)) (.list (ys.map PyData.int)) = decide (xs = ys) := by
  rw [PyData.eqv]
  induction xs generalizing ys with
  | nil => cases ys with
    | nil => rfl
    | cons y r => rfl
  | cons x r ih => cases ys with
    | nil => rfl
    | cons y t =>
      rw [List.map_cons, List.map_cons, PyData.eqvAll, ih, PyData.eqv]
      by_cases h1 : x = y
      · subst h1
        by_cases h2 : r = t
        · subst h2; simp
        · simp [h2]
      · simp [h1]
theorem ev_eqR {xs ys : List Int} (ha : EvR ta σ H (iv xs)) (hb : EvR tb σ H (iv ys)) : Ev (tOp (rEqD K) ta tb) σ H (.bl (decide (xs = ys))) := fun H1 e Q q =>
  ha H1 e _ fun p H2 e2 h2 => hb H2 (e.trans e2) _ fun p' H3 e3 h3 => ⟨_, _, dp_row (e3 _ _ h2), dp_row h3, shaped_row _, shaped_row _, by
    rw [eqv_rows]
    exact q H3 (e2.trans e3)⟩
theorem ev_neR {xs ys : List Int} (ha : EvR ta σ H (iv xs)) (hb : EvR tb σ H (iv ys)) : Ev (tOp (rNeD K) ta tb) σ H (.bl (!decide (xs = ys))) := fun H1 e Q q =>
  ha H1 e _ fun p H2 e2 h2 => hb H2 (e.trans e2) _ fun p' H3 e3 h3 => ⟨_, _, dp_row (e3 _ _ h2), dp_row h3, shaped_row _, shaped_row _, by
    rw [eqv_rows]
    exact q H3 (e2.trans e3)⟩
theorem inV_iv (x : Int) (ns : List Int) : inV (.int x) (iv ns) = decide (x ∈ ns) := by
  induction ns with
  | nil => rfl
  | cons n r ih =>
    show (eqV (V.int n) (V.int x) || inV (.int x) (iv r)) = _
    rw [ih]
    show (n == x || decide (x ∈ r)) = _
    by_cases h : n = x
    · subst h; simp
    · have h' : ¬ x = n := fun e => h e.symm
      simp [h, h']
theorem flat_iv (ns : List Int) : (iv ns).all flatV = true := by
  induction ns with
  | nil => rfl
  | cons n r ih => exact ih
theorem ev_inR {i : Int} {ns : List Int} (ha : Ev ta σ H (.int i)) (hb : EvR tb σ H (iv ns)) : Ev (tOp (rIn K false) ta tb) σ H (.bl (decide (i ∈ ns))) := fun H1 e Q q =>
  ha H1 e _ fun H2 e2 => hb H2 (e.trans e2) _ fun p H3 e3 h3 => ⟨p, _, rfl, Or.inl (sq_of h3), rfl, flat_iv ns, by
    rw [if_neg (by decide), inV_iv]
    exact q H3 (e2.trans e3)⟩
theorem ev_niR {i : Int} {ns : List Int} (ha : Ev ta σ H (.int i)) (hb : EvR tb σ H (iv ns)) : Ev (tOp (rIn K true) ta tb) σ H (.bl (!decide (i ∈ ns))) := fun H1 e Q q =>
  ha H1 e _ fun H2 e2 => hb H2 (e.trans e2) _ fun p H3 e3 h3 => ⟨p, _, rfl, Or.inl (sq_of h3), rfl, flat_iv ns, by
    rw [if_pos rfl, inV_iv]
    exact q H3 (e2.trans e3)⟩
theorem ev_isi {n : String} {tv : Value} {b : Bool} (ha : Ev ta σ H x) (ht : TyX K H x tv) (hm : ∀ H1, Ex H H1 → TyX K H1 x tv) (hb : PySem.W.kitOne K tv (.type n) = some b) : Ev (tCB (rIsi K) (tCons ta (tCons (tC (.ty n)) tNil))) σ H (.bl b) := fun H1 e Q q =>
  ha H1 e _ fun H2 e2 => ⟨x, .ty n, tv, .type n, b, rfl, .ty n, hm H2 (e.trans e2), hb, q H2 e2⟩
def tyName : V → Option String
  | .non => some "NoneType" | .bl _ => some "bool" | .int _ => some "int" | .str _ => some "str" | _ => none
theorem tyx_flat {s : String} (h : tyName x = some s) : TyX K H x (.type s) := by
  cases x with
  | non => cases h; exact .base .non
  | bl b => cases h; exact .base (.bl b)
  | int i => cases h; exact .base (.int i)
  | str z => cases h; exact .base (.str z)
  | byt _ => cases h
  | flt _ => cases h
  | ref _ => cases h
  | ty _ => cases h
theorem kit_list_list : kitB "list" "list" = some true := by decide +kernel
theorem kit_int_int : kitB "int" "int" = some true := by decide +kernel
theorem kit_int_bool : kitB "int" "bool" = some false := by decide +kernel
theorem kit_bool_int : kitB "bool" "int" = some true := by decide +kernel
theorem kit_bool_bool : kitB "bool" "bool" = some true := by decide +kernel
theorem kit_str_str : kitB "str" "str" = some true := by decide +kernel
theorem kit_list_int : kitB "list" "int" = some false := by decide +kernel
theorem kit_list_bool : kitB "list" "bool" = some false := by decide +kernel
theorem kit_list_str : kitB "list" "str" = some false := by decide +kernel
theorem kit_tuple_tuple : kitB "tuple" "tuple" = some true := by decide +kernel
theorem kit_tuple_list : kitB "tuple" "list" = some false := by decide +kernel
theorem kit_int_list : kitB "int" "list" = some false := by decide +kernel
theorem kit_str_list : kitB "str" "list" = some false := by decide +kernel
theorem kit_NoneType_list : kitB "NoneType" "list" = some false := by decide +kernel
theorem kit_bool_list : kitB "bool" "list" = some false := by decide +kernel
theorem kit_dict_list : kitB "dict" "list" = some false := by decide +kernel
theorem kit_NoneType_int : kitB "NoneType" "int" = some false := by decide +kernel
theorem kit_str_int : kitB "str" "int" = some false := by decide +kernel
theorem kit_tuple_int : kitB "tuple" "int" = some false := by decide +kernel
theorem kit_dict_int : kitB "dict" "int" = some false := by decide +kernel
theorem kit_int_str : kitB "int" "str" = some false := by decide +kernel
theorem kit_bool_str : kitB "bool" "str" = some false := by decide +kernel
theorem kit_NoneType_str : kitB "NoneType" "str" = some false := by decide +kernel
theorem kit_tuple_str : kitB "tuple" "str" = some false := by decide +kernel
theorem ev_isiF {n s : String} {b : Bool} (ha : Ev ta σ H x) (ht : tyName x = some s) (hb : kitB s n = some b) : Ev (tCB (rIsi K) (tCons ta (tCons (tC (.ty n)) tNil))) σ H (.bl b) :=
  ev_isi ha (tyx_flat ht) (fun _ _ => tyx_flat ht) (kit_ty hb)
theorem ev_isiR {n : String} {b : Bool} (ha : EvR ta σ H xs) (hb : kitB "list" n = some b) : Ev (tCB (rIsi K) (tCons ta (tCons (tC (.ty n)) tNil))) σ H (.bl b) := fun H1 e Q q =>
  ha H1 e _ fun p H2 e2 h2 => ⟨.ref p, .ty n, .type "list", .type n, b, rfl, .ty n, .base (.lst h2), kit_ty hb, q H2 e2⟩
theorem ev_intB {b : Bool} (ha : Ev ta σ H (.bl b)) : Ev (tCB rInt1 (tCons ta tNil)) σ H (.int (if b then 1 else 0)) := fun H1 e Q q =>
  ha H1 e _ fun H2 e2 => Or.inr ⟨b, rfl, q H2 e2⟩
theorem ev_min2 {i j : Int} (ha : Ev ta σ H (.int i)) (hb : Ev tb σ H (.int j)) : Ev (tCB rMin2 (tCons ta (tCons tb tNil))) σ H (.int (if j < i then j else i)) := fun H1 e Q q =>
  ha H1 e _ fun H2 e2 => hb H2 (e.trans e2) _ fun H3 e3 => ⟨i, j, rfl, q H3 (e2.trans e3)⟩
theorem ev_cmp {p : Int → Int → Bool} {i j : Int} (ha : Ev ta σ H (.int i)) (hb : Ev tb σ H (.int j)) : Ev (tCmp p ta tb) σ H (.bl (p i j)) := fun H1 e Q q =>
  ha H1 e _ fun H2 e2 => hb H2 (e.trans e2) _ fun H3 e3 => ⟨i, j, rfl, rfl, q H3 (e2.trans e3)⟩
/-! rows of ints -/
theorem el_catI {xs ys : List Int} (ha : EvR ta σ H (iv xs)) (hb : EvR tb σ H (iv ys)) (hz : xs.length + ys.length ≤ 10000000) : EvL (tOp rCat ta tb) σ H (iv (xs ++ ys)) :=
  el_is (el_cat ha hb (by rw [iv_len, iv_len]; exact hz)) (List.map_append ..).symm
theorem el_oneI {n : Int} (h : Ev te σ H (.int n)) : EvL (tLst (tCons te tNil)) σ H (iv [n]) := el_lst (ea_cons h ea_nil) (by show 1 ≤ _; decide)
theorem el_nilI : EvL (tLst tNil) σ H (iv []) := el_lst ea_nil (Nat.zero_le _)
theorem el_repI {k n : Int} (ha : Ev ta σ H (.int n)) (hb : Ev tb σ H (.int k)) (hk : k ≤ 10000000 ∧ -10000000 ≤ k) : EvL (tOp rRep (tLst (tCons ta tNil)) tb) σ H (iv (List.replicate k.toNat n)) :=
  el_is (el_rep (x := .int n) (er_L (el_oneI ha)) hb hk) (List.map_replicate ..).symm
theorem el_repN {k : Nat} {n : Int} (ha : Ev ta σ H (.int n)) (hb : Ev tb σ H (.int (k : Int))) (hk : k ≤ 10000000) : EvL (tOp rRep (tLst (tCons ta tNil)) tb) σ H (iv (List.replicate k n)) :=
  el_is (el_repI ha hb (by omega)) (by rw [Int.toNat_natCast])
theorem cutV_iv (xs : List Int) (lo hi : Option Int) : cutV (iv xs) lo hi = iv ((xs.drop (HT.sIx xs.length 0 lo)).take (HT.sIx xs.length xs.length hi - HT.sIx xs.length 0 lo)) := by
  unfold cutV
  rw [iv_len]
  unfold iv
  rw [List.map_take, List.map_drop]
theorem el_slFromI {xs : List Int} {n : Int} (h : EvR te σ H (iv xs)) (h1 : Ev tx σ H (.int n)) (h0 : 0 ≤ n) : EvL (tSl (rSlL K) te (tPart tx) tNoPart) σ H (iv (xs.drop n.toNat)) :=
  el_is (el_slR h (eo_some h1) eo_none) (by
    rw [cutV_iv, show n = ((n.toNat : Nat) : Int) by omega, HT.sIx_nat, HT.sIx_none, Int.toNat_natCast]
    congr 1
    rw [List.take_of_length_le (by rw [List.length_drop]; omega)]
    by_cases hc : n.toNat ≤ xs.length
    · rw [Nat.min_eq_left hc]
    · rw [Nat.min_eq_right (by omega), List.drop_of_length_le (Nat.le_refl _), List.drop_of_length_le (by omega)])
theorem el_slToI {xs : List Int} {n : Int} (h : EvR te σ H (iv xs)) (h1 : Ev tx σ H (.int n)) (h0 : 0 ≤ n) : EvL (tSl (rSlL K) te tNoPart (tPart tx)) σ H (iv (xs.take n.toNat)) :=
  el_is (el_slR h eo_none (eo_some h1)) (by
    rw [cutV_iv, show n = ((n.toNat : Nat) : Int) by omega, HT.sIx_nat, HT.sIx_none, Int.toNat_natCast, List.drop_zero, Nat.sub_zero]
    congr 1
    by_cases hc : n.toNat ≤ xs.length
    · rw [Nat.min_eq_left hc]
    · rw [Nat.min_eq_right (by omega), List.take_of_length_le (Nat.le_refl _), List.take_of_length_le (by omega)])
theorem ev_lenI {xs : List Int} (ha : EvR ta σ H (iv xs)) : Ev (tCB (rLenS K) (tCons ta tNil)) σ H (.int (xs.length : Int)) := ev_is (ev_lenR ha) (by rw [iv_len])
theorem at_iv {xs : List Int} {i n : Int} (h : atI xs i = some n) : atI (iv xs) i = some (.int n) := by
  unfold atI at h ⊢
  rw [iv_len]
  cases e : ixN xs.length i with
  | none => rw [e] at h; cases h
  | some j =>
    rw [e] at h
    exact iv_get h
theorem ev_ixI {xs : List Int} {i n : Int} (ha : EvR ta σ H (iv xs)) (hb : Ev tb σ H (.int i)) (hv : atI xs i = some n) : Ev (tOp (rIxL K) ta tb) σ H (.int n) := ev_ixR ha hb (at_iv hv)
theorem ev_mod {g : Int → Int → V} {C : Int → Int → Prop} {i j : Int} (ha : Ev ta σ H (.int i)) (hb : Ev tb σ H (.int j)) (hc : C i j) : Ev (tOp (rI C g) ta tb) σ H (g i j) := ev_op ha hb (rv_I hc)
theorem ev_i0 {g : Int → Int → V} {i j : Int} (ha : Ev ta σ H (.int i)) (hb : Ev tb σ H (.int j)) : Ev (tOp (rI0 g) ta tb) σ H (g i j) := ev_op ha hb rv_I0
theorem ev_eqS (ha : Ev ta σ H x) (hb : Ev tb σ H y) (h : scal x y = true) : Ev (tOp rEq ta tb) σ H (.bl (decide (x = y))) := ev_op ha hb (rv_eq h)
theorem ev_neS (ha : Ev ta σ H x) (hb : Ev tb σ H y) (h : scal x y = true) : Ev (tOp rNe ta tb) σ H (.bl (!decide (x = y))) := ev_op ha hb (rv_ne h)
theorem ev_one (h : Ev te σ H x) : Ev te σ H x := h
theorem ev_chain {g g' : Int → Int → Bool} {tc : TE} {i j k : Int} (ha : Ev ta σ H (.int i)) (hb : Ev tb σ H (.int j)) (hc : Ev tc σ H (.int k)) :
    Ev (tChain (rI0 fun i j => .bl (g i j)) (rI0 fun i j => .bl (g' i j)) ta tb tc) σ H (.bl (g i j && g' j k)) := fun H1 e Q q =>
  ha H1 e _ fun H2 e2 => hb H2 (e.trans e2) _ fun H3 e3 => ⟨i, j, rfl, rfl, g i j, rfl, by
    cases hg : g i j with
    | true =>
      rw [hg] at q
      refine iteT ?_
      exact hc H3 ((e.trans e2).trans e3) _ fun H4 e4 => ⟨j, k, rfl, rfl, q H4 ((e2.trans e3).trans e4)⟩
    | false =>
      rw [hg] at q
      refine iteF ?_
      exact q H3 (e2.trans e3)⟩
/-! arguments of which some are lists -/
def EvAP (t : TA) (σ : L2.St) (H : Hp) (P : List V → Hp → Prop) : Prop := ∀ H1, Ex H H1 → ∀ Q : List V → Hp → Prop, (∀ vs H2, Ex H1 H2 → P vs H2 → Q vs H2) → t σ H1 Q
theorem eap_nil : EvAP tNil σ H (fun vs _ => vs = []) := fun H1 _ _ q => q [] H1 (Ex.refl H1) rfl
theorem eap_ev {tr : TA} {P : List V → Hp → Prop} (h : Ev te σ H v) (hr : EvAP tr σ H P) : EvAP (tCons te tr) σ H (fun vs H' => ∃ r, vs = v :: r ∧ P r H') := fun H1 e Q q =>
  h H1 e _ fun H2 e2 => hr H2 (e.trans e2) _ fun vs H3 e3 h3 => q _ H3 (e2.trans e3) ⟨vs, rfl, h3⟩
theorem eap_er {tr : TA} {P : List V → Hp → Prop} (h : EvR te σ H xs) (hr : EvAP tr σ H P) : EvAP (tCons te tr) σ H (fun vs H' => ∃ p r, vs = .ref p :: r ∧ H' p = some (.lst xs) ∧ P r H') := fun H1 e Q q =>
  h H1 e _ fun p H2 e2 h2 => hr H2 (e.trans e2) _ fun vs H3 e3 h3 => q _ H3 (e2.trans e3) ⟨p, vs, rfl, e3 _ _ h2, h3⟩
/-- a written list of lists, and one of them -/
def EvLs (t : TA) (σ : L2.St) (H : Hp) (xss : List (List V)) : Prop := EvAP t σ H (fun vs H' => ∃ ps : List Addr, vs = ps.map V.ref ∧ ps.length = xss.length ∧ ∀ (i : Nat) (p : Addr) (xs : List V), ps[i]? = some p → xss[i]? = some xs → H' p = some (.lst xs))
theorem els_nil : EvLs tNil σ H [] := fun H1 _ _ q => q [] H1 (Ex.refl H1) ⟨[], rfl, rfl, fun i p xs h => by simp at h⟩
theorem els_cons {tr : TA} {xss : List (List V)} (h : EvR te σ H xs) (hr : EvLs tr σ H xss) : EvLs (tCons te tr) σ H (xs :: xss) := fun H1 e Q q =>
  h H1 e _ fun p H2 e2 h2 => hr H2 (e.trans e2) _ fun vs H3 e3 ⟨ps, ev, el, hp⟩ => q _ H3 (e2.trans e3) ⟨p :: ps, by rw [ev]; rfl, by rw [List.length_cons, el]; rfl, fun i p' xs' h1 h3 => by
    cases i with
    | zero =>
      have a1 : p = p' := Option.some.inj h1
      have a2 : xs = xs' := Option.some.inj h3
      subst a1 a2
      exact e3 _ _ h2
    | succ i => exact hp i p' xs' h1 h3⟩
theorem er_pick {t : TA} {xss : List (List V)} {i : Int} {j : Nat} (h : EvLs t σ H xss) (hb : Ev tb σ H (.int i)) (ei : i = (j : Int)) (hj : xss[j]? = some xs) (hz : xss.length ≤ 1000) : EvR (tOp (rIxL K) (tLst t) tb) σ H xs := fun H1 e Q q =>
  h H1 e _ fun vs H2 e2 ⟨ps, ev, el, hp⟩ => by
    subst ev
    have hjl : j < xss.length := (List.getElem?_eq_some_iff.mp hj).1
    have hjp : j < ps.length := by omega
    refine ⟨by rw [List.length_map, el]; exact Nat.le_trans hz (by decide), fun p hpn => hb _ ((e.trans e2).trans (Ex.new hpn)) _ fun H3 e3 => ⟨p, ps.map V.ref, i, .ref ps[j], rfl, rfl, sq_of (e3 _ _ upd_same), ?_, ?_⟩⟩
    · rw [ei]
      exact atI_nat (by rw [List.getElem?_map, List.getElem?_eq_getElem hjp]; rfl)
    · exact q ps[j] H3 ((e2.trans (Ex.new hpn)).trans e3) (e3 _ _ (Ex.new hpn _ _ (hp j ps[j] xs (List.getElem?_eq_getElem hjp) hj)))
/-- a call that gives a new list -/
theorem el_callP {sp : Sp} {dvs : List V} {E : XK} {targs : TA} {P : List V → Hp → Prop} (h : EvAP targs σ H P) (k : ∀ vs H1, Ex H H1 → P vs H1 → ∀ Q : VK, RetL xs H1 Q → sp (vs ++ dvs) H1 Q E) : EvL (tCall sp dvs E targs) σ H xs := fun H1 e Q q =>
  h H1 e _ fun vs H2 e2 p => k vs H2 (e.trans e2) p Q fun a H3 n3 e3 h3 => q a H3 (fresh_back e2 n3) (e2.trans e3) h3
theorem ev_isiTup {n : String} {b : Bool} {a : Addr} (ha : Ev ta σ H (.ref a)) (h : H a = some (.tup xs)) (hb : kitB "tuple" n = some b) : Ev (tCB (rIsi K) (tCons ta (tCons (tC (.ty n)) tNil))) σ H (.bl b) := fun H1 e Q q =>
  ha H1 e _ fun H2 e2 => ⟨.ref a, .ty n, .type "tuple", .type n, b, rfl, .ty n, .base (.tup (e2 _ _ (e _ _ h))), kit_ty hb, q H2 e2⟩
theorem ev_lenTup {a : Addr} (ha : Ev ta σ H (.ref a)) (h : H a = some (.tup xs)) : Ev (tCB (rLenS K) (tCons ta tNil)) σ H (.int (xs.length : Int)) := fun H1 e Q q =>
  ha H1 e _ fun H2 e2 => ⟨a, xs, rfl, Or.inr (st_of (e2 _ _ (e _ _ h))), q H2 e2⟩
theorem ev_ixTup {a : Addr} {i : Int} {j : Nat} (ha : Ev ta σ H (.ref a)) (h : H a = some (.tup xs)) (hb : Ev tb σ H (.int i)) (ei : i = (j : Int)) (hv : xs[j]? = some v) : Ev (tOp (rIxT K) ta tb) σ H v := fun H1 e Q q =>
  ha H1 e _ fun H2 e2 => hb H2 (e.trans e2) _ fun H3 e3 => ⟨a, xs, i, v, rfl, rfl, st_of (e3 _ _ (e2 _ _ (e _ _ h))), by rw [ei]; exact atI_nat hv, q H3 (e2.trans e3)⟩
/-! a call with arguments of which some are lists -/
theorem q_asgP {i : Nat} {sp : Sp} {dvs : List V} {E : XK} {targs : TA} {tz : TS} {D : Ends} {P : List V → Hp → Prop} (h : EvAP targs σ H P) (k : ∀ vs H1, Ex H H1 → P vs H1 → sp (vs ++ dvs) H1 (fun v H2 => tz D (σ.set i (some v)) H2) E) : tSeq (tAsg (tCall sp dvs E targs) (gName i)) tz D σ H :=
  h H (Ex.refl H) _ fun vs H1 e p => k vs H1 e p
theorem s_retP {sp : Sp} {dvs : List V} {E : XK} {targs : TA} {D : Ends} {P : List V → Hp → Prop} (h : EvAP targs σ H P) (k : ∀ vs H1, Ex H H1 → P vs H1 → sp (vs ++ dvs) H1 (fun v H2 => D.rt v H2) E) : tRet (tCall sp dvs E targs) D σ H :=
  h H (Ex.refl H) _ fun vs H1 e p => k vs H1 e p
/-! a call within a try -/
theorem s_dropS {sp : Sp} {vs : List V} {E : L2.St → XK} {targs : TA} {D : Ends} (h : EvA targs σ H vs) (k : ∀ H1, Ex H H1 → sp vs H1 (fun _ H2 => D.nx σ H2) (E σ)) : tDrop (tCallS sp E targs) D σ H :=
  h H (Ex.refl H) _ fun H1 e => k H1 e
/-! a call: the callee's promise in the reader's hand -/
theorem q_asgC {i : Nat} {sp : Sp} {dvs vs : List V} {E : XK} {targs : TA} {tz : TS} {D : Ends} (h : EvA targs σ H vs) (k : ∀ H1, Ex H H1 → sp (vs ++ dvs) H1 (fun v H2 => tz D (σ.set i (some v)) H2) E) : tSeq (tAsg (tCall sp dvs E targs) (gName i)) tz D σ H :=
  h H (Ex.refl H) _ fun H1 e => k H1 e
/-! the reading itself, step by step -/
theorem q_asgW {i : Nat} {tz : TS} {D : Ends} (h : te σ H (fun v H2 => tz D (σ.set i (some v)) H2)) : tSeq (tAsg te (gName i)) tz D σ H := h
theorem s_asgW {i : Nat} {D : Ends} (h : te σ H (fun v H2 => D.nx (σ.set i (some v)) H2)) : tAsg te (gName i) D σ H := h
theorem tup2_go {i j : Nat} {a : Addr} {x y : V} {D : L2.St → Hp → Prop} (hs : SqT K H a [x, y]) (k : D ((σ.set i (some x)).set j (some y)) H) : gTup K 2 (gCons (gName i) (gCons (gName j) gNil)) (.ref a) σ H D :=
  ⟨a, [x, y], rfl, hs, rfl, x, [y], rfl, y, [], rfl, rfl, k⟩
theorem q_asgG {g : TG} {tz : TS} {D : Ends} (h : te σ H (fun v H1 => g v σ H1 (tz D))) : tSeq (tAsg te g) tz D σ H := h
theorem op_go {Q : VK} (h : ta σ H (fun x H1 => tb σ H1 fun y H2 => r x y H2 Q)) : tOp r ta tb σ H Q := h
theorem call_go {sp : Sp} {dvs : List V} {E : XK} {t : TA} {Q : VK} (h : t σ H (fun vs H1 => sp (vs ++ dvs) H1 Q E)) : tCall sp dvs E t σ H Q := h
theorem ev_go {Q : VK} (h : Ev te σ H v) (k : ∀ H2, Ex H H2 → Q v H2) : te σ H Q := h H (Ex.refl H) Q k
theorem er_go {Q : VK} (h : EvR te σ H xs) (k : ∀ p H2, Ex H H2 → H2 p = some (.lst xs) → Q (.ref p) H2) : te σ H Q := h H (Ex.refl H) Q k
theorem el_go {Q : VK} (h : EvL te σ H xs) (k : ∀ p H2, H p = none → Ex H H2 → H2 p = some (.lst xs) → Q (.ref p) H2) : te σ H Q := h H (Ex.refl H) Q k
theorem ea_go {t : TA} {vs : List V} {Q : List V → Hp → Prop} (h : EvA t σ H vs) (k : ∀ H2, Ex H H2 → Q vs H2) : t σ H Q := h H (Ex.refl H) Q k
theorem s_asgC {i : Nat} {sp : Sp} {dvs vs : List V} {E : XK} {targs : TA} {D : Ends} (h : EvA targs σ H vs) (k : ∀ H1, Ex H H1 → sp (vs ++ dvs) H1 (fun v H2 => D.nx (σ.set i (some v)) H2) E) : tAsg (tCall sp dvs E targs) (gName i) D σ H :=
  h H (Ex.refl H) _ fun H1 e => k H1 e
theorem q_dropC {sp : Sp} {dvs vs : List V} {E : XK} {targs : TA} {tz : TS} {D : Ends} (h : EvA targs σ H vs) (k : ∀ H1, Ex H H1 → sp (vs ++ dvs) H1 (fun _ H2 => tz D σ H2) E) : tSeq (tDrop (tCall sp dvs E targs)) tz D σ H :=
  h H (Ex.refl H) _ fun H1 e => k H1 e
theorem s_retC {sp : Sp} {dvs vs : List V} {E : XK} {targs : TA} {D : Ends} (h : EvA targs σ H vs) (k : ∀ H1, Ex H H1 → sp (vs ++ dvs) H1 (fun v H2 => D.rt v H2) E) : tRet (tCall sp dvs E targs) D σ H :=
  h H (Ex.refl H) _ fun H1 e => k H1 e
theorem ea_one (h : Ev te σ H x) : EvA (tCons te tNil) σ H [x] := ea_cons h ea_nil
theorem ea_two (h : Ev ta σ H x) (h2 : Ev tb σ H y) : EvA (tCons ta (tCons tb tNil)) σ H [x, y] := ea_cons h (ea_cons h2 ea_nil)
/-- what is put together of an old heap and one list of one's own -/
theorem q_app1 {tz : TS} {D : Ends} {B : Hp} {l : Addr} {ws : List V} (hb : B l = none) (eb : Ex B H) (hl : H l = some (.lst ws)) (ha : Ev ta σ H (.ref l)) (h : Ev te σ H v) (hz : ws.length < 10000000)
    (k : ∀ H1, Ex B H1 → (∀ a o, a ≠ l → H a = some o → H1 a = some o) → H1 l = some (.lst (ws ++ [v])) → tz D σ H1) : tSeq (tDrop (tBM K "list" rAppend ta (tCons te tNil))) tz D σ H :=
  ha H (Ex.refl H) _ fun H1 e1 => ⟨Or.inl ⟨rfl, ws, sq_of (e1 l _ hl)⟩, h H1 e1 _ fun H2 e2 => ⟨l, ws, v, rfl, rfl, e2 l _ (e1 l _ hl), Nat.lt_of_lt_of_le hz (by decide),
    k _ (Ex.mut (eb.trans (e1.trans e2)) hb) (fun a o n ho => by rw [upd_ne n]; exact (e1.trans e2) _ _ ho) upd_same⟩⟩
theorem s_app1 {D : Ends} {B : Hp} {l : Addr} {ws : List V} (hb : B l = none) (eb : Ex B H) (hl : H l = some (.lst ws)) (ha : Ev ta σ H (.ref l)) (h : Ev te σ H v) (hz : ws.length < 10000000)
    (k : ∀ H1, Ex B H1 → (∀ a o, a ≠ l → H a = some o → H1 a = some o) → H1 l = some (.lst (ws ++ [v])) → D.nx σ H1) : tDrop (tBM K "list" rAppend ta (tCons te tNil)) D σ H :=
  ha H (Ex.refl H) _ fun H1 e1 => ⟨Or.inl ⟨rfl, ws, sq_of (e1 l _ hl)⟩, h H1 e1 _ fun H2 e2 => ⟨l, ws, v, rfl, rfl, e2 l _ (e1 l _ hl), Nat.lt_of_lt_of_le hz (by decide),
    k _ (Ex.mut (eb.trans (e1.trans e2)) hb) (fun a o n ho => by rw [upd_ne n]; exact (e1.trans e2) _ _ ho) upd_same⟩⟩
theorem iv_snoc (ws : List Int) (n : Int) : iv ws ++ [V.int n] = iv (ws ++ [n]) := (List.map_append (l₁ := ws) (l₂ := [n]) (f := V.int)).symm
theorem q_appI {tz : TS} {D : Ends} {B : Hp} {l : Addr} {ws : List Int} {n : Int} (hb : B l = none) (eb : Ex B H) (hl : H l = some (.lst (iv ws))) (ha : Ev ta σ H (.ref l)) (h : Ev te σ H (.int n)) (hz : ws.length < 10000000)
    (k : ∀ H1, Ex B H1 → (∀ a o, a ≠ l → H a = some o → H1 a = some o) → H1 l = some (.lst (iv (ws ++ [n]))) → tz D σ H1) : tSeq (tDrop (tBM K "list" rAppend ta (tCons te tNil))) tz D σ H :=
  q_app1 hb eb hl ha h (by rw [iv_len]; exact hz) fun H1 e1 e2 h1 => k H1 e1 e2 (by rw [h1, iv_snoc])
theorem s_appI {D : Ends} {B : Hp} {l : Addr} {ws : List Int} {n : Int} (hb : B l = none) (eb : Ex B H) (hl : H l = some (.lst (iv ws))) (ha : Ev ta σ H (.ref l)) (h : Ev te σ H (.int n)) (hz : ws.length < 10000000)
    (k : ∀ H1, Ex B H1 → (∀ a o, a ≠ l → H a = some o → H1 a = some o) → H1 l = some (.lst (iv (ws ++ [n]))) → D.nx σ H1) : tDrop (tBM K "list" rAppend ta (tCons te tNil)) D σ H :=
  s_app1 hb eb hl ha h (by rw [iv_len]; exact hz) fun H1 e1 e2 h1 => k H1 e1 e2 (by rw [h1, iv_snoc])
/-- xs[j] = e, in a list of one's own -/
theorem q_setI {tz : TS} {D : Ends} {B : Hp} {l : Addr} {ws : List Int} {n i : Int} {j : Nat} (hb : B l = none) (eb : Ex B H) (hl : H l = some (.lst (iv ws))) (h : Ev te σ H (.int n)) (ha : Ev ta σ H (.ref l)) (hi : Ev tb σ H (.int i)) (ei : i = (j : Int)) (hj : j < ws.length)
    (k : ∀ H1, Ex B H1 → (∀ a o, a ≠ l → H a = some o → H1 a = some o) → H1 l = some (.lst (iv (ws.set j n))) → tz D σ H1) : tSeq (tAsg te (gSub ta tb rSetL)) tz D σ H :=
  h H (Ex.refl H) _ fun H1 e1 => ha H1 e1 _ fun H2 e2 => hi H2 (e1.trans e2) _ fun H3 e3 => ⟨l, iv ws, i, j, rfl, rfl, ((e1.trans e2).trans e3) l _ hl, by rw [ei, iv_len]; exact ixN_nat hj, by
    refine k _ (Ex.mut (eb.trans ((e1.trans e2).trans e3)) hb) (fun a o n ho => by rw [upd_ne n]; exact ((e1.trans e2).trans e3) _ _ ho) ?_
    rw [upd_same]
    unfold iv
    rw [List.map_set]⟩
theorem s_setI {D : Ends} {B : Hp} {l : Addr} {ws : List Int} {n i : Int} {j : Nat} (hb : B l = none) (eb : Ex B H) (hl : H l = some (.lst (iv ws))) (h : Ev te σ H (.int n)) (ha : Ev ta σ H (.ref l)) (hi : Ev tb σ H (.int i)) (ei : i = (j : Int)) (hj : j < ws.length)
    (k : ∀ H1, Ex B H1 → (∀ a o, a ≠ l → H a = some o → H1 a = some o) → H1 l = some (.lst (iv (ws.set j n))) → D.nx σ H1) : tAsg te (gSub ta tb rSetL) D σ H :=
  h H (Ex.refl H) _ fun H1 e1 => ha H1 e1 _ fun H2 e2 => hi H2 (e1.trans e2) _ fun H3 e3 => ⟨l, iv ws, i, j, rfl, rfl, ((e1.trans e2).trans e3) l _ hl, by rw [ei, iv_len]; exact ixN_nat hj, by
    refine k _ (Ex.mut (eb.trans ((e1.trans e2).trans e3)) hb) (fun a o n ho => by rw [upd_ne n]; exact ((e1.trans e2).trans e3) _ _ ho) ?_
    rw [upd_same]
    unfold iv
    rw [List.map_set]⟩
/-- for i, x in enumerate(xs) -/
theorem s_forEn {D : Ends} {tu : TS} {a : Addr} {j1 j2 : Nat} {xs : List V} (h : Ev ta σ H (.ref a)) (hx : H a = some (.lst xs)) (Pv : Nat → L2.St → Hp → Prop) (h0 : ∀ H1, Ex H H1 → Pv 0 σ H1) (hl : ∀ i σ' H', i ≤ xs.length → Pv i σ' H' → SqL K H' a xs)
    (hs : ∀ i x σ' H', xs[i]? = some x → Pv i σ' H' → ∀ H2, Ex H' H2 → tu { D with nx := Pv (i + 1), ct := Pv (i + 1), bk := D.nx } ((σ'.set j1 (some (.int (i : Int)))).set j2 (some x)) H2) (hd : ∀ σ' H', Pv xs.length σ' H' → D.nx σ' H') :
    tFor (iEnum K (tCons ta tNil)) (gTup K 2 (gCons (gName j1) (gCons (gName j2) gNil))) tu D σ H := h H (Ex.refl H) _ fun H1 e1 => ⟨a, xs, rfl, sq_of (e1 _ _ hx), by
  refine ⟨fun i m σ' H' => i + m = xs.length ∧ Pv i σ' H', ⟨xs.length, Nat.zero_add _, h0 H1 e1⟩, ?_⟩
  rintro i m σ' H' ⟨em, p⟩
  have q := hl i σ' H' (by omega) p
  by_cases hi : i < xs.length
  · refine .inr ⟨⟨xs, xs[i], q, List.getElem?_eq_getElem hi⟩, Pv (i + 1), fun σ2 H2 hN => ⟨m - 1, by omega, by omega, hN⟩, fun x H2 hy => ?_⟩
    obtain ⟨T, x1, rfl, nT, rfl, f1⟩ := hy
    have ex1 : x1 = xs[i] := Option.some.inj ((f1 _ q).symm.trans (List.getElem?_eq_getElem hi))
    subst ex1
    exact ⟨T, [.int (i : Int), xs[i]], rfl, .inl (.inl upd_same), rfl, .int (i : Int), [xs[i]], rfl, xs[i], [], rfl, rfl, hs i _ σ' H' (List.getElem?_eq_getElem hi) p _ (Ex.new nT)⟩
  · have e : i = xs.length := by omega
    subst e
    exact .inl ⟨⟨xs, q, Nat.le_refl _⟩, hd σ' H' p⟩⟩
theorem q_forEn {D : Ends} {tu tz : TS} {a : Addr} {j1 j2 : Nat} {xs : List V} (h : Ev ta σ H (.ref a)) (hx : H a = some (.lst xs)) (Pv : Nat → L2.St → Hp → Prop) (h0 : ∀ H1, Ex H H1 → Pv 0 σ H1) (hl : ∀ i σ' H', i ≤ xs.length → Pv i σ' H' → SqL K H' a xs)
    (hs : ∀ i x σ' H', xs[i]? = some x → Pv i σ' H' → ∀ H2, Ex H' H2 → tu { D with nx := Pv (i + 1), ct := Pv (i + 1), bk := tz D } ((σ'.set j1 (some (.int (i : Int)))).set j2 (some x)) H2) (hd : ∀ σ' H', Pv xs.length σ' H' → tz D σ' H') :
    tSeq (tFor (iEnum K (tCons ta tNil)) (gTup K 2 (gCons (gName j1) (gCons (gName j2) gNil))) tu) tz D σ H := s_forEn (D := { D with nx := tz D }) h hx Pv h0 hl hs hd
/-! comprehensions over rows -/
theorem yes_go {A B : Hp → Prop} (h : A H) : tYes σ H (fun b H3 => if b = true then A H3 else B H3) := by
  show (if true = true then A H else B H)
  rw [if_pos rfl]
  exact h
theorem el_lcMap {tl : TE} {j : Nat} {vs : List Nat} (g : V → V) (h : EvR tl σ H xs) (hz : xs.length ≤ 1000000) (hw : ∀ x, wipe ((wipe σ vs).set j (some x)) vs = wipe σ vs)
    (he : ∀ (i : Nat) (x : V) H1, Ex H H1 → xs[i]? = some x → Ev te ((wipe σ vs).set j (some x)) H1 (g x)) :
    EvL (tLc (iList K tl) (gName j) tYes te vs) σ H (xs.map g) := fun H0 e Q q => h H0 e _ fun a H1 e1 hx => ⟨a, rfl, ⟨xs, sq_of hx⟩, fun Dl hD =>
  lc_list (xs := xs) (fun i H' => Ex H1 H' ∧ H' Dl = some (.lst ((xs.map g).take i))) ⟨Ex.new hD, by rw [List.take_zero]; exact upd_same⟩ (fun i H' _ p => sq_of (p.1 a _ hx)) (fun i x H' hi p => ⟨hw x, by
    refine yes_go ?_
    refine he i x H1 (e.trans e1) hi H' p.1 _ fun H4 e4 => ⟨_, e4 Dl _ p.2, ?_, Ex.mut (p.1.trans e4) hD, ?_⟩
    · have z := (List.getElem?_eq_some_iff.mp hi).1
      rw [List.length_take, List.length_map]
      show _ < 2 ^ 24
      omega
    · have z : (xs.map g)[i]? = some (g x) := by rw [List.getElem?_map, hi]; rfl
      rw [List.take_add_one, z]
      exact upd_same⟩)
    (fun H' p => q Dl H' (fresh_back e1 hD) (e1.trans p.1) (by
      have z := p.2
      rw [List.take_of_length_le (by rw [List.length_map]; exact Nat.le_refl _)] at z
      exact z))⟩
theorem el_lcRg {ta : TA} {j : Nat} {vs : List Nat} {n : Int} (g : Nat → V) (h : EvA ta σ H [.int n]) (hn : 0 ≤ n ∧ n ≤ 1000000) (hw : ∀ x, wipe ((wipe σ vs).set j (some x)) vs = wipe σ vs)
    (he : ∀ (i : Nat) H1, Ex H H1 → (i : Int) < n → Ev te ((wipe σ vs).set j (some (.int (i : Int)))) H1 (g i)) :
    EvL (tLc (iRng1 ta) (gName j) tYes te vs) σ H ((List.range n.toNat).map g) := fun H0 e Q q => h H0 e _ fun H1 e1 => ⟨n, rfl, by omega, by omega, fun Dl hD =>
  lc_range (lo := 0) (n := n.toNat) (fun i H' => Ex H1 H' ∧ H' Dl = some (.lst (((List.range n.toNat).map g).take i))) ⟨Ex.new hD, by rw [List.take_zero]; exact upd_same⟩ (fun i H' hi p => by
    have e0 : (0 : Int) + (i : Int) = (i : Int) := Int.zero_add _
    refine ⟨hw _, ?_⟩
    refine yes_go ?_
    rw [e0]
    refine he i H1 (e.trans e1) (by omega) H' p.1 _ fun H4 e4 => ⟨_, e4 Dl _ p.2, ?_, Ex.mut (p.1.trans e4) hD, ?_⟩
    · rw [List.length_take, List.length_map, List.length_range]
      show _ < 2 ^ 24
      omega
    · have z : ((List.range n.toNat).map g)[i]? = some (g i) := by rw [List.getElem?_map, List.getElem?_range hi]; rfl
      rw [List.take_add_one, z]
      exact upd_same) (fun H' p => q Dl H' (fresh_back e1 hD) (e1.trans p.1) (by
      have z := p.2
      rw [List.take_of_length_le (by rw [List.length_map, List.length_range]; exact Nat.le_refl _)] at z
      exact z))⟩
/-- [e for a, b in zip(xs, ys)] -/
theorem el_lcZip {i j : Nat} {vs : List Nat} {xs ys : List V} (g : V → V → V) (ha : EvR ta σ H xs) (hb : EvR tb σ H ys) (hz : xs.length ≤ 1000000) (hw : ∀ x y, wipe (((wipe σ vs).set i (some x)).set j (some y)) vs = wipe σ vs)
    (he : ∀ (k : Nat) (x y : V) H1, Ex H H1 → xs[k]? = some x → ys[k]? = some y → Ev te (((wipe σ vs).set i (some x)).set j (some y)) H1 (g x y)) :
    EvL (tLc (iZip K (tCons ta (tCons tb tNil))) (gTup K 2 (gCons (gName i) (gCons (gName j) gNil))) tYes te vs) σ H (List.zipWith g xs ys) := fun H0 e Q q =>
  ha H0 e _ fun a H1 e1 h1 => hb H1 (e.trans e1) _ fun b H2 e2 h2 => ⟨a, b, xs, ys, rfl, sq_of (e2 _ _ h1), sq_of h2, fun Dl hD => by
    have e02 : Ex H H2 := (e.trans e1).trans e2
    have hA : H2 a = some (.lst xs) := e2 _ _ h1
    refine ⟨fun k m H' => k + m = (List.zipWith g xs ys).length ∧ Ex H2 H' ∧ H' Dl = some (.lst ((List.zipWith g xs ys).take k)), ⟨(List.zipWith g xs ys).length, Nat.zero_add _, Ex.new hD, by rw [List.take_zero]; exact upd_same⟩, ?_⟩
    rintro k m H' ⟨em, p1, p2⟩
    have hl : (List.zipWith g xs ys).length = min xs.length ys.length := List.length_zipWith
    by_cases hk : k < (List.zipWith g xs ys).length
    · have kx : k < xs.length := by omega
      have ky : k < ys.length := by omega
      refine .inr ⟨⟨xs, ys, xs[k], ys[k], sq_of (p1 _ _ hA), sq_of (p1 _ _ h2), List.getElem?_eq_getElem kx, List.getElem?_eq_getElem ky⟩, fun H4 => Ex H2 H4 ∧ H4 Dl = some (.lst ((List.zipWith g xs ys).take (k + 1))), fun H4 hN => ⟨m - 1, by omega, by omega, hN.1, hN.2⟩, fun x H4 hy => ?_⟩
      obtain ⟨T, x1, x2, rfl, nT, rfl, f1, f2⟩ := hy
      have ex1 : x1 = xs[k] := Option.some.inj ((f1 _ (sq_of (p1 _ _ hA))).symm.trans (List.getElem?_eq_getElem kx))
      have ex2 : x2 = ys[k] := Option.some.inj ((f2 _ (sq_of (p1 _ _ h2))).symm.trans (List.getElem?_eq_getElem ky))
      subst ex1 ex2
      refine ⟨T, [xs[k], ys[k]], rfl, .inl (.inl upd_same), rfl, xs[k], [ys[k]], rfl, ys[k], [], rfl, rfl, hw _ _, ?_⟩
      refine yes_go ?_
      refine he k xs[k] ys[k] H2 e02 (List.getElem?_eq_getElem kx) (List.getElem?_eq_getElem ky) _ (p1.trans (Ex.new nT)) _ fun H5 e5 => ⟨_, e5 Dl _ (Ex.new nT _ _ p2), ?_, Ex.mut ((p1.trans (Ex.new nT)).trans e5) hD, ?_⟩
      · rw [List.length_take]
        show _ < 2 ^ 24
        omega
      · have z : (List.zipWith g xs ys)[k]? = some (g xs[k] ys[k]) := by
          rw [List.getElem?_zipWith, List.getElem?_eq_getElem kx, List.getElem?_eq_getElem ky]
        rw [List.take_add_one, z]
        exact upd_same
    · refine .inl ⟨⟨xs, ys, sq_of (p1 _ _ hA), sq_of (p1 _ _ h2), by omega⟩, ?_⟩
      have z := p2
      rw [List.take_of_length_le (by omega)] at z
      exact q Dl H' (fresh_back (e1.trans e2) hD) ((e1.trans e2).trans p1) z⟩
end
end Cg

set_option Elab.async false
set_option linter.all false
set_option maxRecDepth 100000
set_option maxHeartbeats 4000000
/-! ## Pre 2: classes of the program, their methods, what stands at an address and changes -/
namespace Cg
open PySem PySem.Spec PyProof.Rows L2 Evl
structure ClsT (K : PySem.W.Frag) (mg : Str → Option Value) (x : Str) (C : Addr) : Prop where
  cl : Cls K C
  g : mg x = some (.ref C)
def RawM (K : PySem.W.Frag) (C : Addr) (m qual : Str) (st : Stmt) (ps : List Str) : Prop := ∃ f fd, Fun K m qual st f fd ∧ Binds K fd ps [] ∧ Meth K C m f
def RawI (K : PySem.W.Frag) (C : Addr) (qual : Str) (st : Stmt) (ps : List Str) : Prop := ∃ f fd, Fun K "__init__" qual st f fd ∧ Binds K fd ps [] ∧ Mk K C f
def HasM (P : Program) (w : World) (K : PySem.W.Frag) (mg : Str → Option Value) (base : Heap) (k : Nat) (C : Addr) (m : Str) (ps : List Str) (sp : Sp) : Prop :=
  ∃ f fd, FnOk P w K mg base (L2.CX P w) k f fd ps sp ∧ Meth K C m f ∧ Binds K fd ps []
def HasI (P : Program) (w : World) (K : PySem.W.Frag) (mg : Str → Option Value) (base : Heap) (k : Nat) (C : Addr) (ps : List Str) (sp : Sp) : Prop :=
  ∃ f fd, FnOk P w K mg base (L2.CX P w) k f fd ps sp ∧ Mk K C f ∧ Binds K fd ps []
section
variable {P : Program} {w : World} {K : PySem.W.Frag} {mg : Str → Option Value} {base : Heap}
theorem RawM.ok {C : Addr} {m qual : Str} {st : Stmt} {N ps : List Str} {k : Nat} {sp : Sp} (R : RawM K C m qual st ps) (S : FnScope N ps (defScope st)) (len : ∀ vs H Q E, sp vs H Q E → vs.length = ps.length)
    (hbody : ∀ (f : Addr) (cdv : Value) (A : Around) (outer : List Env) (s : Shared) (H : Hp) (vs : List V) (Q : VK) (E : XK), Room k (A.deeper (envOfC qual (defScope st) s.heap.objs.size f cdv)) → sp vs H Q E →
      ∃ t, PSs (cxOf (L2.CX P w) P w K mg base N qual (defScope st) f cdv A outer s H E) (defBody st) t ∧ t { nx := fun _ H' => Q .non H', rt := Q } (start N vs) H) : HasM P w K mg base (k + 1) C m ps sp := by
  obtain ⟨f, fd, F, b, g⟩ := R
  exact ⟨f, fd, F.okX S len fun cdv A outer s H vs Q E hr h => hbody f cdv A outer s H vs Q E hr h, g, b⟩
theorem RawI.ok {C : Addr} {qual : Str} {st : Stmt} {N ps : List Str} {k : Nat} {sp : Sp} (R : RawI K C qual st ps) (S : FnScope N ps (defScope st)) (len : ∀ vs H Q E, sp vs H Q E → vs.length = ps.length)
    (hbody : ∀ (f : Addr) (cdv : Value) (A : Around) (outer : List Env) (s : Shared) (H : Hp) (vs : List V) (Q : VK) (E : XK), Room k (A.deeper (envOfC qual (defScope st) s.heap.objs.size f cdv)) → sp vs H Q E →
      ∃ t, PSs (cxOf (L2.CX P w) P w K mg base N qual (defScope st) f cdv A outer s H E) (defBody st) t ∧ t { nx := fun _ H' => Q .non H', rt := Q } (start N vs) H) : HasI P w K mg base (k + 1) C ps sp := by
  obtain ⟨f, fd, F, b, g⟩ := R
  exact ⟨f, fd, F.okX S len fun cdv A outer s H vs Q E hr h => hbody f cdv A outer s H vs Q E hr h, g, b⟩
end
/-! ### a method's call, an object's making: outside a try, and within one (Z) -/
section
variable {X : Cx} {k : Nat} {C : Addr} {ps : List Str} {sp : Sp} {E : XK} {G : L2.St → XK} {x m : Str} {p pos apos : Pos} {o e : Expr} {es : List Expr} {ta : TE} {t : TA}
theorem pe_methH {pl : Sem Bool} (he : PE X o ta) (c : Cls X.K C) (F : HasM X.prog X.w X.K X.mg X.base k C m ps sp) (hr : Room k X.A) (hx : Passes (L2.CX X.prog X.w) X E) (ha : PA X (e :: es) t)
    (h1 : starEach (e :: es) X.env = (false, eval e X.env) :: starEach es X.env := by rfl) (h2 : (backTo pos (starEach es X.env)).any (·.1) = false := by rfl)
    (h3 : eval (.Call (.Attribute o m apos) (e :: es) [] pos) X.env = (do let ov ← eval o X.env; standAt apos.atName; let (f, first) ← holding [ov] (getMethod ov m pl); callWith pos f first (backTo pos (starEach (e :: es) X.env)) (backToKw pos (keywordEach [] X.env))) := by rfl) :
    PE X (.Call (.Attribute o m apos) (e :: es) [] pos) (tMeth C m sp [] E ta t) := by
  obtain ⟨f, fd, F, hm, b⟩ := F
  exact pe_meth he c hm F hr b .nil hx ha h1 h2 h3
theorem pe_methH0 {pl : Sem Bool} (he : PE X o ta) (c : Cls X.K C) (F : HasM X.prog X.w X.K X.mg X.base k C m ps sp) (hr : Room k X.A) (hx : Passes (L2.CX X.prog X.w) X E)
    (h3 : eval (.Call (.Attribute o m apos) [] [] pos) X.env = (do let ov ← eval o X.env; standAt apos.atName; let (f, first) ← holding [ov] (getMethod ov m pl); callWith pos f first (backTo pos (starEach [] X.env)) (backToKw pos (keywordEach [] X.env))) := by rfl) :
    PE X (.Call (.Attribute o m apos) [] [] pos) (tMeth C m sp [] E ta tNil) := by
  obtain ⟨f, fd, F, hm, b⟩ := F
  exact pe_meth0 he c hm F hr b .nil hx h3
theorem pe_makeH (F : HasI X.prog X.w X.K X.mg X.base k C ps sp) (hr : Room (k + 1) X.A) (g : X.mg x = some (.ref C)) (hx : Passes (L2.CX X.prog X.w) X E) (ha : PA X (e :: es) t) (hg : Gl X x := by rfl) (hdb : (x == ("__debug__" : Str)) = false := by decide)
    (h1 : starEach (e :: es) X.env = (false, eval e X.env) :: starEach es X.env := by rfl) (h2 : (backTo pos (starEach es X.env)).any (·.1) = false := by rfl) : PE X (.Call (.Name x p) (e :: es) [] pos) (tMake C sp [] E t) := by
  obtain ⟨f, fd, F, M, b⟩ := F
  exact pe_make M F hr hg g b .nil hx ha hdb h1 h2
/-- o.m(e, ..) within a try -/
def tMethZ (C : Addr) (m : Str) (sp : Sp) (G : L2.St → XK) (ta : TE) (t : TA) : TE := fun σ H Q => ta σ H fun v H1 => ∃ (a dx : Addr) (fs : List (Str × V)), v = .ref a ∧ (H1 a = some (.ins C dx fs) ∧ fs.lookup m = none) ∧ t σ H1 fun vs H2 => sp (v :: vs) H2 Q (G σ)
theorem pe_methZ {pl : Sem Bool} (he : PE X o ta) (c : Cls X.K C) (F : HasM X.prog X.w X.K X.mg X.base k C m ps sp) (hr : Room k X.A) (hx : ∀ σ, PassesAt (L2.CX X.prog X.w) X σ (G σ)) (ha : PA X (e :: es) t)
    (h1 : starEach (e :: es) X.env = (false, eval e X.env) :: starEach es X.env := by rfl) (h2 : (backTo pos (starEach es X.env)).any (·.1) = false := by rfl)
    (h3 : eval (.Call (.Attribute o m apos) (e :: es) [] pos) X.env = (do let ov ← eval o X.env; standAt apos.atName; let (f, first) ← holding [ov] (getMethod ov m pl); callWith pos f first (backTo pos (starEach (e :: es) X.env)) (backToKw pos (keywordEach [] X.env))) := by rfl) :
    PE X (.Call (.Attribute o m apos) (e :: es) [] pos) (tMethZ C m sp G ta t) := by
  obtain ⟨f, fd, F, hm, b⟩ := F
  constructor
  intro pins s σ H Q I h
  refine PySem.W.methodCall_KW (pl := pl) (thn (he.run pins s σ H _ I h) fun ov s1 hov => ?_) h3
  obtain ⟨v, H1, J, rv, a, dx, fs, rfl, ⟨ea, el⟩, q⟩ := hov
  have eo : ov = Value.ref a := rv
  subst eo
  refine getmeth_ok J ea c hm el ?_
  refine PySem.W.callWith_K (first := [.ref a]) (h₀ := X.base) J.ok.mod.kin hm.kp (thn (ha.run pos pins s1 σ H1 _ J q) fun us s2 hus => ?_) h1 h2
  obtain ⟨vs, H2, J2, r, q2⟩ := hus
  exact ⟨J2.kIn, run_fnS (us := .ref a :: us) (vs := .ref a :: vs) F hr b (hx σ) J2 (.cons rfl r) q2⟩
/-- C(e, ..) within a try -/
def tMakeZ (C : Addr) (sp : Sp) (G : L2.St → XK) (t : TA) : TE := fun σ H Q => t σ H fun vs H1 => ∀ y dy, H1 y = none → H1 dy = none → dy ≠ y →
  sp (.ref y :: vs) (upd (upd H1 dy (.own y)) y (.ins C dy [])) (fun v H2 => v = .non ∧ Q (.ref y) H2) (G σ)
theorem run_makeZ {f : Addr} {fd : FuncData} {pins : List (Addr × Obj)} {σ : L2.St} {H : Hp} {s : Shared} {Q : VK} {us : List Value} {vs : List V} {E : XK} (M : Mk X.K C f) (F : FnOk X.prog X.w X.K X.mg X.base (L2.CX X.prog X.w) k f fd ps sp) (hr : Room (k + 1) X.A) (hb : Binds X.K fd ps [])
    (hx : PassesAt (L2.CX X.prog X.w) X σ E) (I : Inv X pins σ H s) (r : Vals vs us)
    (h : ∀ y dy, H y = none → H dy = none → dy ≠ y → sp (.ref y :: vs) (upd (upd H dy (.own y)) y (.ins C dy [])) (fun v H2 => v = .non ∧ Q (.ref y) H2) E) :
    wpAny (model X.prog X.w) X.A (call (.ref C) us) (EP X pins σ Q) X.xe s := by
  have sz := s.heap.objs.size
  have z := h (s.heap.objs.size + 1) s.heap.objs.size (I.hok.fresh (Nat.le_add_right _ 1)) (I.hok.fresh (Nat.le_refl _)) (Nat.ne_of_lt (Nat.lt_add_one _))
  have J := Inv.made (C := C) I
  have r' : Vals (V.ref (s.heap.objs.size + 1) :: vs) (Value.ref (s.heap.objs.size + 1) :: us) := .cons rfl r
  have len : (Value.ref (s.heap.objs.size + 1) :: us ++ []).length = ps.length := by
    rw [List.append_nil, ← r'.length]
    exact F.len _ _ _ _ z
  have bb := hb _ (Value.ref (s.heap.objs.size + 1) :: us) J.kIn len
  rw [List.append_nil] at bb
  have run := F.run _ X.stack _ _ ⟨Value.ref (s.heap.objs.size + 1) :: us, []⟩ (Value.ref (s.heap.objs.size + 1) :: us) _ _ E (hr.make C us []) (J.env0.make C us []) bb r' z
  refine wpAny_call (make_map (f := f) I.kIn M.makes M.init (beq_iff_eq.mp M.fn) (codeAny_mono run fun out s' ho => ?_))
  cases out with
  | error e => exact hx pins _ _ e s' J ho
  | ok fl =>
    cases fl with
    | next => exact ho.elim
    | brk => exact ho.elim
    | cont => exact ho.elim
    | ret u =>
      obtain ⟨v, H', J3, rv, hv, q⟩ := J.after ho
      cases hv
      exact ⟨rv, V.ref (s.heap.objs.size + 1), H', J3, rfl, q⟩
theorem pe_makeZ (F : HasI X.prog X.w X.K X.mg X.base k C ps sp) (hr : Room (k + 1) X.A) (g : X.mg x = some (.ref C)) (hx : ∀ σ, PassesAt (L2.CX X.prog X.w) X σ (G σ)) (ha : PA X (e :: es) t) (hg : Gl X x := by rfl) (hdb : (x == ("__debug__" : Str)) = false := by decide)
    (h1 : starEach (e :: es) X.env = (false, eval e X.env) :: starEach es X.env := by rfl) (h2 : (backTo pos (starEach es X.env)).any (·.1) = false := by rfl) : PE X (.Call (.Name x p) (e :: es) [] pos) (tMakeZ C sp G t) := by
  obtain ⟨f, fd, F, M, b⟩ := F
  constructor
  intro pins s σ H Q I h
  refine wpAny_Call_Name_kw (ld_glob I hg g ?_ hdb)
  refine PySem.W.callWith_K (h₀ := X.base) I.ok.mod.kin M.kp (thn (ha.run pos pins s σ H _ I h) fun us s1 hus => ?_) h1 h2
  obtain ⟨vs, H1, J, r, q⟩ := hus
  exact ⟨J.kIn, run_makeZ M F hr b (hx σ) J r q⟩
end
theorem kk_count (K) {X : Cx} (h : X.K = K := by rfl) : MtR X "list.count" (rCntI K) := h ▸ mt_lcount
/-! ### what changes at one address alone -/
def Kp (l : Addr) (H H' : Hp) : Prop := ∀ a o, a ≠ l → H a = some o → H' a = some o
theorem Kp.refl (l : Addr) (H : Hp) : Kp l H H := fun _ _ _ h => h
theorem Kp.upd {l : Addr} {H : Hp} {o : HO} : Kp l H (upd H l o) := fun a u n h => by rw [upd_ne n]; exact h
theorem Kp.trans {l : Addr} {H H1 H2 : Hp} (a : Kp l H H1) (b : Kp l H1 H2) : Kp l H H2 := fun x o n h => b x o n (a x o n h)
theorem Kp.of {l : Addr} {H H' : Hp} (e : Ex H H') : Kp l H H' := fun a o _ h => e a o h
theorem Kp.ex {l : Addr} {B H H' : Hp} (k : Kp l H H') (hb : B l = none) (e : Ex B H) : Ex B H' := fun a o h => k a o (ne_of_none h hb) (e a o h)
/-! ### fields and methods in a reading -/
section
variable {K : PySem.W.Frag} {σ : L2.St} {H H' : Hp} {ta tb te tx : TE} {t u : TT} {x y z v : V} {xs ys : List V} {a C dx : Addr} {fs : List (Str × V)} {f m : Str}
theorem ev_fld (h : Ev te σ H (.ref a)) (ho : H a = some (.ins C dx fs)) (c : Cls K C) (n : NoAttr K C f) (l : fs.lookup f = some v) : Ev (tFld K te f) σ H v := fun H1 e Q q =>
  h H1 e _ fun H2 e2 => ⟨a, C, dx, fs, v, rfl, e2 _ _ (e _ _ ho), c, n, l, q H2 e2⟩
theorem q_fld {D : Ends} {tz : TS} (h : Ev te σ H v) (hs : Ev ta σ H (.ref a)) (ho : H a = some (.ins C dx fs)) (c : Cls K C) (n : NoAttr K C f) (hl : fs.length < 1000) (k : ∀ H1, Ex H H1 → tz D σ (upd H1 a (.ins C dx (putF f v fs)))) : tSeq (sFld K ta te f) tz D σ H :=
  h H (Ex.refl H) _ fun H1 e1 => hs H1 e1 _ fun H2 e2 => ⟨a, C, dx, fs, rfl, e2 _ _ (e1 _ _ ho), c, n, hl, k H2 (e1.trans e2)⟩
theorem s_fld {D : Ends} (h : Ev te σ H v) (hs : Ev ta σ H (.ref a)) (ho : H a = some (.ins C dx fs)) (c : Cls K C) (n : NoAttr K C f) (hl : fs.length < 1000) (k : ∀ H1, Ex H H1 → D.nx σ (upd H1 a (.ins C dx (putF f v fs)))) : sFld K ta te f D σ H :=
  h H (Ex.refl H) _ fun H1 e1 => hs H1 e1 _ fun H2 e2 => ⟨a, C, dx, fs, rfl, e2 _ _ (e1 _ _ ho), c, n, hl, k H2 (e1.trans e2)⟩
theorem q_fldL {D : Ends} {tz : TS} (h : EvL te σ H xs) (hs : Ev ta σ H (.ref a)) (ho : H a = some (.ins C dx fs)) (c : Cls K C) (n : NoAttr K C f) (hl : fs.length < 1000) (k : ∀ p H1, H p = none → Ex H H1 → H1 p = some (.lst xs) → tz D σ (upd H1 a (.ins C dx (putF f (.ref p) fs)))) : tSeq (sFld K ta te f) tz D σ H :=
  h H (Ex.refl H) _ fun p H1 n1 e1 h1 => hs H1 e1 _ fun H2 e2 => ⟨a, C, dx, fs, rfl, e2 _ _ (e1 _ _ ho), c, n, hl, k p H2 n1 (e1.trans e2) (e2 _ _ h1)⟩
theorem s_fldL {D : Ends} (h : EvL te σ H xs) (hs : Ev ta σ H (.ref a)) (ho : H a = some (.ins C dx fs)) (c : Cls K C) (n : NoAttr K C f) (hl : fs.length < 1000) (k : ∀ p H1, H p = none → Ex H H1 → H1 p = some (.lst xs) → D.nx σ (upd H1 a (.ins C dx (putF f (.ref p) fs)))) : sFld K ta te f D σ H :=
  h H (Ex.refl H) _ fun p H1 n1 e1 h1 => hs H1 e1 _ fun H2 e2 => ⟨a, C, dx, fs, rfl, e2 _ _ (e1 _ _ ho), c, n, hl, k p H2 n1 (e1.trans e2) (e2 _ _ h1)⟩
theorem meth_go {sp : Sp} {dvs : List V} {E : XK} {t : TA} {Q : VK} (h : Ev ta σ H (.ref a)) (ho : H a = some (.ins C dx fs)) (hm : fs.lookup m = none) (k : ∀ H1, Ex H H1 → t σ H1 fun vs H2 => sp (.ref a :: (vs ++ dvs)) H2 Q E) : tMeth C m sp dvs E ta t σ H Q :=
  h H (Ex.refl H) _ fun H1 e => ⟨a, dx, fs, rfl, e _ _ ho, hm, k H1 e⟩
theorem methZ_go {sp : Sp} {G : L2.St → XK} {t : TA} {Q : VK} (h : Ev ta σ H (.ref a)) (ho : H a = some (.ins C dx fs)) (hm : fs.lookup m = none) (k : ∀ H1, Ex H H1 → t σ H1 fun vs H2 => sp (.ref a :: vs) H2 Q (G σ)) : tMethZ C m sp G ta t σ H Q :=
  h H (Ex.refl H) _ fun H1 e => ⟨a, dx, fs, rfl, ⟨e _ _ ho, hm⟩, k H1 e⟩
theorem el_meth {sp : Sp} {dvs : List V} {E : XK} {t : TA} {P : List V → Hp → Prop} (h : Ev ta σ H (.ref a)) (ho : H a = some (.ins C dx fs)) (hm : fs.lookup m = none) (ht : EvAP t σ H P)
    (k : ∀ vs H1, Ex H H1 → P vs H1 → ∀ Q : VK, RetL xs H1 Q → sp (.ref a :: (vs ++ dvs)) H1 Q E) : EvL (tMeth C m sp dvs E ta t) σ H xs := fun H1 e Q q =>
  h H1 e _ fun H2 e2 => ⟨a, dx, fs, rfl, e2 _ _ (e _ _ ho), hm, ht H2 (e.trans e2) _ fun vs H3 e3 p => k vs H3 ((e.trans e2).trans e3) p Q fun l H4 n4 e4 h4 => q l H4 (fresh_back (e2.trans e3) n4) ((e2.trans e3).trans e4) h4⟩
theorem ev_meth {sp : Sp} {dvs : List V} {E : XK} {t : TA} {P : List V → Hp → Prop} (h : Ev ta σ H (.ref a)) (ho : H a = some (.ins C dx fs)) (hm : fs.lookup m = none) (ht : EvAP t σ H P)
    (k : ∀ vs H1, Ex H H1 → P vs H1 → ∀ Q : VK, RetV v H1 Q → sp (.ref a :: (vs ++ dvs)) H1 Q E) : Ev (tMeth C m sp dvs E ta t) σ H v := fun H1 e Q q =>
  h H1 e _ fun H2 e2 => ⟨a, dx, fs, rfl, e2 _ _ (e _ _ ho), hm, ht H2 (e.trans e2) _ fun vs H3 e3 p => k vs H3 ((e.trans e2).trans e3) p Q fun H4 e4 => q H4 ((e2.trans e3).trans e4)⟩
theorem make_go {sp : Sp} {dvs : List V} {E : XK} {t : TA} {Q : VK} {P : List V → Hp → Prop} (ht : EvAP t σ H P)
    (k : ∀ vs H1, Ex H H1 → P vs H1 → ∀ y dy, H1 y = none → H1 dy = none → dy ≠ y → sp (.ref y :: (vs ++ dvs)) (upd (upd H1 dy (.own y)) y (.ins C dy [])) (fun v H2 => v = .non ∧ Q (.ref y) H2) E) : tMake C sp dvs E t σ H Q :=
  ht H (Ex.refl H) _ fun vs H1 e p => k vs H1 e p
theorem ap_go {t : TA} {P : List V → Hp → Prop} {Q : List V → Hp → Prop} (h : EvAP t σ H P) (k : ∀ vs H1, Ex H H1 → P vs H1 → Q vs H1) : t σ H Q := h H (Ex.refl H) Q k
theorem ev_count {ns : List Int} {k : Int} (ha : EvR ta σ H (iv ns)) (hb : Ev tb σ H (.int k)) : Ev (tBM K "list" (rCntI K) ta (tCons tb tNil)) σ H (.int (ns.count k : Nat)) := fun H1 e Q q =>
  ha H1 e _ fun p H2 e2 h2 => ⟨Or.inl ⟨rfl, _, sq_of h2⟩, hb H2 (e.trans e2) _ fun H3 e3 => ⟨p, ns, k, rfl, rfl, sq_of (e3 _ _ h2), q H3 (e2.trans e3)⟩⟩
/-- s_expr of a reading in hand -/
theorem s_dropW {D : Ends} (h : te σ H (fun _ H2 => D.nx σ H2)) : tDrop te D σ H := h
theorem q_dropW {D : Ends} {tz : TS} (h : te σ H (fun _ H2 => tz D σ H2)) : tSeq (tDrop te) tz D σ H := h
theorem s_retW {D : Ends} (h : te σ H (fun v H2 => D.rt v H2)) : tRet te D σ H := h
theorem s_retU {D : Ends} (h : EvU te σ H xs) (k : ∀ p H1, H p = none → Ex H H1 → H1 p = some (.tup xs) → D.rt (.ref p) H1) : tRet te D σ H := h H (Ex.refl H) _ k
/-- [.., ..] of any values, told by what they are -/
theorem el_lstP {t : TA} {Q : VK} {P : List V → Hp → Prop} (h : EvAP t σ H P) (k : ∀ vs H1, Ex H H1 → P vs H1 → vs.length ≤ 100000 ∧ ∀ p, H1 p = none → Q (.ref p) (upd H1 p (.lst vs))) : tLst t σ H Q :=
  h H (Ex.refl H) _ fun vs H1 e p => ⟨sz_of (k vs H1 e p).1, (k vs H1 e p).2⟩
end
end Cg
namespace Cg
open PySem PySem.Spec PyProof.Rows L2 Evl
section
variable {K : PySem.W.Frag} {σ : L2.St} {H H' : Hp} {ta tb tc te : TE} {v : V}
/-- isinstance(e, c) in an except suite, as a value -/
theorem ev_isX {a D : Addr} {c : V} {cv : Value} {b : Bool} (ha : Ev ta σ H (.ref a)) (hc : Ev tc σ H c) (hv : ∀ u, RelV c u → u = cv) (x : ExcC K D) (k : PySem.W.kitOne K (.ref D) cv = some b) : Ev (tCB (rIsX K a (.ref D) none) (tCons ta (tCons tc tNil))) σ H (.bl b) := fun H1 e Q q =>
  ha H1 e _ fun H2 e2 => hc H2 (e.trans e2) _ fun H3 e3 => ⟨D, rfl, rfl, x, c, cv, b, rfl, hv, k, q H3 (e2.trans e3)⟩
theorem ev_isV {mg : Str → Option Value} {x : Str} {a D : Addr} (ha : Ev ta σ H (.ref a)) (T : ExcT K mg x D) : Ev (tCB (rIsX K a (.ref D) none) (tCons ta (tCons (tC (.ty "ValueError")) tNil))) σ H (.bl true) := ev_isX ha ev_c (fun _ h => h) T.c T.kitV
theorem ev_isC {mg : Str → Option Value} {x y : Str} {a D C : Addr} {b : Bool} (ha : Ev ta σ H (.ref a)) (T : ExcT K mg x D) (S : ExcT K mg y C) (h : PySem.W.subIn K (.ref D) (.ref C) = some b) (ne : b = false → C ≠ D) : Ev (tCB (rIsX K a (.ref D) none) (tCons ta (tCons (tC (.ref C)) tNil))) σ H (.bl b) :=
  ev_isX ha ev_c (fun _ h => h) T.c (S.kit h ne)
/-- xs[:-1] -/
theorem el_slInit {xs : List Int} (h : EvR te σ H (iv xs)) (h1 : Ev tb σ H (.int (-1))) : EvL (tSl (rSlL K) te tNoPart (tPart tb)) σ H (iv xs.dropLast) :=
  el_is (el_slR h eo_none (eo_some h1)) (by
    rw [cutV_iv, HT.sIx_none, List.drop_zero, Nat.sub_zero]
    have z : HT.sIx xs.length xs.length (some (-1)) = xs.length - 1 := by
      show (if (-1 : Int) < 0 then ((-1 : Int) + (xs.length : Int)).toNat else min (-1 : Int).toNat xs.length) = _
      rw [if_pos (by decide)]
      omega
    rw [z, List.dropLast_eq_take])
end
end Cg
namespace Cg
open PySem PySem.Spec PyProof.Rows L2 Evl
/-! ### lists that were given and are held: pairs of a list and its copy -/
def HeldAt (H : Hp) (hd : Addr) (L : List Addr) (n : Nat) : Prop := ∃ ts : List Addr, H hd = some (.lst (ts.map V.ref)) ∧ ts.length = n ∧
  ∀ t ∈ ts, ∃ (a b : Addr) (ws : List Int), H t = some (.tup [.ref a, .ref b]) ∧ H a = some (.lst (iv ws)) ∧ H b = some (.lst (iv ws)) ∧ (a ≠ hd ∧ a ∉ L) ∧ (b ≠ hd ∧ b ∉ L)
theorem HeldAt.nil {H : Hp} {hd : Addr} {L : List Addr} (h : H hd = some (.lst [])) : HeldAt H hd L 0 := ⟨[], h, rfl, fun _ z => nomatch z⟩
theorem HeldAt.mono {H H' : Hp} {hd : Addr} {L : List Addr} {n : Nat} (h : HeldAt H hd L n) (e : Ex H H') : HeldAt H' hd L n := by
  obtain ⟨ts, h1, h2, h3⟩ := h
  refine ⟨ts, e _ _ h1, h2, fun t ht => ?_⟩
  obtain ⟨a, b, ws, k1, k2, k3, k4, k5⟩ := h3 t ht
  exact ⟨a, b, ws, e _ _ k1, e _ _ k2, e _ _ k3, k4, k5⟩
theorem HeldAt.more {H : Hp} {hd q : Addr} {L : List Addr} {n : Nat} (h : HeldAt H hd L n) (nq : H q = none) : HeldAt H hd (q :: L) n := by
  obtain ⟨ts, h1, h2, h3⟩ := h
  refine ⟨ts, h1, h2, fun t ht => ?_⟩
  obtain ⟨a, b, ws, k1, k2, k3, k4, k5⟩ := h3 t ht
  have na : a ≠ q := ne_of_none k2 nq
  have nb : b ≠ q := ne_of_none k3 nq
  exact ⟨a, b, ws, k1, k2, k3, ⟨k4.1, fun z => by rcases List.mem_cons.mp z with z | z; exact na z; exact k4.2 z⟩, k5.1, fun z => by rcases List.mem_cons.mp z with z | z; exact nb z; exact k5.2 z⟩
theorem HeldAt.less {H : Hp} {hd q : Addr} {L : List Addr} {n : Nat} (h : HeldAt H hd (q :: L) n) : HeldAt H hd L n := by
  obtain ⟨ts, h1, h2, h3⟩ := h
  refine ⟨ts, h1, h2, fun t ht => ?_⟩
  obtain ⟨a, b, ws, k1, k2, k3, k4, k5⟩ := h3 t ht
  exact ⟨a, b, ws, k1, k2, k3, ⟨k4.1, fun z => k4.2 (List.mem_cons_of_mem _ z)⟩, k5.1, fun z => k5.2 (List.mem_cons_of_mem _ z)⟩
/-- a list that is not held changes -/
theorem HeldAt.kp {H H' : Hp} {hd q : Addr} {L : List Addr} {n : Nat} (h : HeldAt H hd L n) (k : Kp q H H') (hq : q ∈ L) (nq : q ≠ hd) (hv : ∃ xs, H q = some (.lst xs)) : HeldAt H' hd L n := by
  obtain ⟨ts, h1, h2, h3⟩ := h
  obtain ⟨xs, hv⟩ := hv
  refine ⟨ts, k _ _ nq.symm h1, h2, fun t ht => ?_⟩
  obtain ⟨a, b, ws, k1, k2, k3, k4, k5⟩ := h3 t ht
  exact ⟨a, b, ws, k _ _ (ne_of k1 hv (by intro z; cases z)) k1, k _ _ (fun z => k4.2 (z ▸ hq)) k2, k _ _ (fun z => k5.2 (z ▸ hq)) k3, k4, k5⟩
/-- an object that is no list changes -/
theorem HeldAt.kpO {H H' : Hp} {hd q : Addr} {L : List Addr} {n : Nat} {C dx : Addr} {fs : List (Str × V)} (h : HeldAt H hd L n) (k : Kp q H H') (hv : H q = some (.ins C dx fs)) : HeldAt H' hd L n := by
  obtain ⟨ts, h1, h2, h3⟩ := h
  refine ⟨ts, k _ _ (ne_of h1 hv (by intro z; cases z)) h1, h2, fun t ht => ?_⟩
  obtain ⟨a, b, ws, k1, k2, k3, k4, k5⟩ := h3 t ht
  exact ⟨a, b, ws, k _ _ (ne_of k1 hv (by intro z; cases z)) k1, k _ _ (ne_of k2 hv (by intro z; cases z)) k2, k _ _ (ne_of k3 hv (by intro z; cases z)) k3, k4, k5⟩
section
variable {K : PySem.W.Frag} {σ : L2.St} {H H' : Hp} {ta tb tc te : TE} {x y v : V} {tu tz : TS} {D : Ends}
/-- held.append((x, list(x))) -/
theorem q_held {B : Hp} {hd a : Addr} {L : List Addr} {n i j : Nat} {ws : List Int} (hb : B hd = none) (eb : Ex B H) (hh : HeldAt H hd L n) (hL : ∀ z ∈ L, H z ≠ none) (hn : n < 100000) (hv : σ[j]? = some (some (.ref hd))) (hf : σ[i]? = some (some (.ref a))) (ha : H a = some (.lst (iv ws))) (ne : a ≠ hd) (nL : a ∉ L)
    (k : ∀ H1, Ex B H1 → Kp hd H H1 → HeldAt H1 hd L (n + 1) → tz D σ H1) : tSeq (tDrop (tBM K "list" rAppend (tVar j) (tCons (tTup (tCons (tVar i) (tCons (tCB (rListS K) (tCons (tVar i) tNil)) tNil))) tNil))) tz D σ H := by
  obtain ⟨ts, h1, h2, h3⟩ := hh
  refine ⟨_, hv, Or.inl ⟨rfl, _, sq_of h1⟩, _, hf, _, hf, a, iv ws, rfl, Or.inl (sq_of ha), fun b nb => ⟨by show 2 ≤ sizeLine; decide, fun t nt => ⟨hd, ts.map V.ref, .ref t, rfl, rfl, ?_, sz_lt (by rw [List.length_map, h2]; exact hn), ?_⟩⟩⟩
  · exact Ex.new nt _ _ (Ex.new nb _ _ h1)
  · have e1 : Ex H (upd H b (.lst (iv ws))) := Ex.new nb
    have e2 : Ex (upd H b (.lst (iv ws))) (upd (upd H b (.lst (iv ws))) t (.tup [.ref a, .ref b])) := Ex.new nt
    have e12 := e1.trans e2
    have nbh : b ≠ hd := (ne_of_none h1 nb).symm
    have bL : b ∉ L := fun z => hL b z nb
    have nth : t ≠ hd := (ne_of_none (e1 _ _ h1) nt).symm
    refine k _ (Ex.mut (eb.trans e12) hb) (fun z o nz hz => by rw [upd_ne nz]; exact e12 _ _ hz) ⟨ts ++ [t], ?_, by rw [List.length_append, h2]; rfl, fun z hz => ?_⟩
    · rw [upd_same, List.map_append]
      rfl
    · rcases List.mem_append.mp hz with hz | hz
      · obtain ⟨a', b', ws', k1, k2, k3, k4, k5⟩ := h3 z hz
        have nz : z ≠ hd := ne_of k1 h1 (by intro w; cases w)
        exact ⟨a', b', ws', by rw [upd_ne nz]; exact e12 _ _ k1, by rw [upd_ne k4.1]; exact e12 _ _ k2, by rw [upd_ne k5.1]; exact e12 _ _ k3, k4, k5⟩
      · rw [List.mem_singleton] at hz
        subst hz
        exact ⟨a, b, ws, by rw [upd_ne nth, upd_same], by rw [upd_ne ne]; exact e12 _ _ ha, by rw [upd_ne nbh]; exact e2 _ _ upd_same, ⟨ne, nL⟩, nbh, bL⟩
/-- x.append(n), told by what changes -/
theorem q_appK {l : Addr} {ws : List Int} {n : Int} (hl : H l = some (.lst (iv ws))) (ha : Ev ta σ H (.ref l)) (h : Ev te σ H (.int n)) (hz : ws.length < 100000)
    (k : ∀ H1, Kp l H H1 → H1 l = some (.lst (iv (ws ++ [n]))) → tz D σ H1) : tSeq (tDrop (tBM K "list" rAppend ta (tCons te tNil))) tz D σ H :=
  q_app hl ha h (by rw [iv_len]; exact hz) fun H1 e1 => k _ ((Kp.of e1).trans .upd) (by rw [upd_same, iv_snoc])
theorem s_appK {l : Addr} {ws : List Int} {n : Int} (hl : H l = some (.lst (iv ws))) (ha : Ev ta σ H (.ref l)) (h : Ev te σ H (.int n)) (hz : ws.length < 100000)
    (k : ∀ H1, Kp l H H1 → H1 l = some (.lst (iv (ws ++ [n]))) → D.nx σ H1) : tDrop (tBM K "list" rAppend ta (tCons te tNil)) D σ H :=
  s_app hl ha h (by rw [iv_len]; exact hz) fun H1 e1 => k _ ((Kp.of e1).trans .upd) (by rw [upd_same, iv_snoc])
theorem eap_tup2 {tr : TA} {P : List V → Hp → Prop} (ha : Ev ta σ H x) (hb : Ev tb σ H y) (hr : EvAP tr σ H P) : EvAP (tCons (tTup (tCons ta (tCons tb tNil))) tr) σ H (fun vs H' => ∃ (t : Addr) (r : List V), vs = .ref t :: r ∧ H' t = some (.tup [x, y]) ∧ P r H') := fun H1 e Q q =>
  ha H1 e _ fun H2 e2 => hb H2 (e.trans e2) _ fun H3 e3 => ⟨by show 2 ≤ sizeLine; decide, fun t nt => hr _ (((e.trans e2).trans e3).trans (Ex.new nt)) _ fun vs H4 e4 p => q _ H4 (((e2.trans e3).trans (Ex.new nt)).trans e4) ⟨t, vs, rfl, e4 _ _ upd_same, p⟩⟩
/-- a for whose walked thing is read by hand -/
theorem q_forW {g : TG} {tl : TE} (h : tl σ H fun v H1 => ∃ a, v = .ref a ∧ (∃ xs, SqL K H1 a xs) ∧ ∃ W : Nat → Nat → L2.St → Hp → Prop, (∃ m, W 0 m σ H1) ∧ ∀ i m σ H, W i m σ H →
    ((Itl K a).stop i H ∧ tz D σ H) ∨ ((Itl K a).go i H ∧ ∃ N : L2.St → Hp → Prop, (∀ σ' H', N σ' H' → ∃ m', m' < m ∧ W (i + 1) m' σ' H') ∧ ∀ x H', (Itl K a).yld i H x H' → g x σ H' fun σ2 H2 => tu { D with nx := N, ct := N, bk := tz D } σ2 H2)) :
    tSeq (tFor (iList K tl) g tu) tz D σ H := h
end
end Cg
namespace Cg
open PySem PySem.Spec PyProof.Rows L2 Evl
section
variable {K : PySem.W.Frag} {σ : L2.St} {H H' : Hp} {te : TE} {t : TT} {tu tw tz : TS} {D : Ends}
theorem s_ifW (h : t σ H fun b H1 => if b = true then tu D σ H1 else tw D σ H1) : tIfS t tu tw D σ H := h
theorem q_ifW (h : t σ H fun b H1 => if b = true then tu { D with nx := tz D } σ H1 else tw { D with nx := tz D } σ H1) : tSeq (tIfS t tu tw) tz D σ H := h
theorem nb_go {Q : Bool → Hp → Prop} (h : te σ H fun x H1 => ∃ c, x = .bl c ∧ Q (!c) H1) : tNot (tB te) σ H Q := h
theorem or_go {u : TT} {Q : Bool → Hp → Prop} (h : t σ H fun c H1 => if c = true then Q true H1 else u σ H1 Q) : tOr t u σ H Q := h
theorem if_no {p q : Prop} (h : q) : if (!true) = true then p else q := by
  rw [if_neg (by decide)]
  exact h
theorem if_no' {p q : Prop} (h : q) : if false = true then p else q := by
  rw [if_neg (by decide)]
  exact h
theorem if_yes {p q : Prop} (h : p) : if true = true then p else q := by
  rw [if_pos rfl]
  exact h
end
end Cg
namespace Cg
open PySem PySem.Spec PyProof.Rows L2 Evl
/-- a heap but for what stands at one address -/
def but (l : Addr) (H : Hp) : Hp := fun a => if a = l then none else H a
theorem but_same {l : Addr} {H : Hp} : but l H l = none := by
  unfold but
  rw [if_pos rfl]
theorem but_ne {l a : Addr} {H : Hp} (n : a ≠ l) : but l H a = H a := by
  unfold but
  rw [if_neg n]
theorem but_at {l a : Addr} {H : Hp} {o : HO} (n : a ≠ l) (h : H a = some o) : but l H a = some o := by rw [but_ne n, h]
theorem Kp.but {l : Addr} {H H' : Hp} (k : Kp l H H') : Ex (but l H) H' := fun a o h => by
  by_cases c : a = l
  · rw [c, but_same] at h
    cases h
  · rw [but_ne c] at h
    exact k a o c h
theorem but_kp {l : Addr} {H H' : Hp} (e : Ex (but l H) H') : Kp l H H' := fun a o n h => e a o (but_at n h)
end Cg
namespace Cg
open PySem PySem.Spec PyProof.Rows L2 Evl
def FLoop (K : PySem.W.Frag) (a : Addr) (g : TG) (tu : TS) (D : Ends) (σ : L2.St) (H : Hp) : Prop := ∃ W : Nat → Nat → L2.St → Hp → Prop, (∃ m, W 0 m σ H) ∧ ∀ i m σ H, W i m σ H →
  ((Itl K a).stop i H ∧ D.nx σ H) ∨ ((Itl K a).go i H ∧ ∃ N : L2.St → Hp → Prop, (∀ σ' H', N σ' H' → ∃ m', m' < m ∧ W (i + 1) m' σ' H') ∧ ∀ x H', (Itl K a).yld i H x H' → g x σ H' fun σ2 H2 => tu { D with nx := N, ct := N, bk := D.nx } σ2 H2)
section
variable {K : PySem.W.Frag} {σ : L2.St} {H : Hp} {tl : TE} {g : TG} {tu tz : TS} {D : Ends} {a : Addr} {xs : List V}
theorem floop (Pv : Nat → L2.St → Hp → Prop) (h0 : Pv 0 σ H) (hl : ∀ i σ H, i ≤ xs.length → Pv i σ H → SqL K H a xs)
    (hs : ∀ i x σ H, xs[i]? = some x → Pv i σ H → g x σ H fun σ2 H2 => tu { D with nx := Pv (i + 1), ct := Pv (i + 1), bk := D.nx } σ2 H2) (hd : ∀ σ H, Pv xs.length σ H → D.nx σ H) : FLoop K a g tu D σ H := for_list Pv h0 hl hs hd
theorem q_forF (h : tl σ H fun v H1 => ∃ a, v = .ref a ∧ (∃ xs, SqL K H1 a xs) ∧ FLoop K a g tu { D with nx := tz D } σ H1) : tSeq (tFor (iList K tl) g tu) tz D σ H := h
theorem s_forF (h : tl σ H fun v H1 => ∃ a, v = .ref a ∧ (∃ xs, SqL K H1 a xs) ∧ FLoop K a g tu D σ H1) : tFor (iList K tl) g tu D σ H := h
end
end Cg

set_option Elab.async false
set_option linter.all false
set_option maxRecDepth 100000
set_option maxHeartbeats 4000000
/-! ## Pre 3: several except clauses, each with the same name -/
namespace Cg
open PySem PySem.Spec PyProof.Rows L2 Evl
abbrev Suite := Addr → Value → Option Addr → TS
def wManyA (K : PySem.W.Frag) (i : Nat) (Wo : WX) (D : Ends) : List (Value × Suite) → WX
  | [] => Wo
  | (c, ts) :: r => fun cls d σ H => ∃ b, PySem.W.exmOne K cls c = some b ∧
      (b = true → ∀ a, H a = none → ts a cls d { nx := fun τ G => D.nx (τ.set i none) G, rt := D.rt, bk := fun τ G => D.bk (τ.set i none) G, ct := fun τ G => D.ct (τ.set i none) G } (σ.set i (some (.ref a))) H) ∧ (b = false → wManyA K i Wo D r cls d σ H)
inductive HdsA (X : Cx) (n : Str) : List ExceptHandler → List (Value × Suite) → Prop
  | nil : HdsA X n [] []
  | cons {x : Str} {c : Value} {ts : Suite} {st : Stmt} {sts : List Stmt} {np ep : Pos} {hs : List ExceptHandler} {l : List (Value × Suite)} (hc : Names X x c)
      (su : ∀ (a : Addr) (oe : Obj) (cls : Value) (d : Option Addr) (pn : List (Addr × Obj)), Zc cls d oe → (∃ vs, oe.data = .fields vs) → PSs (X.suite a ((a, oe) :: pn)) (st :: sts) (ts a cls d)) (r : HdsA X n hs l) :
      HdsA X n (.ExceptHandler (some (.Name x np)) (some n) (st :: sts) ep :: hs) ((c, ts) :: l)
theorem ps_try_manyA {X : Cx} {n : Str} {i : Nat} {body : List Stmt} {h₀ : ExceptHandler} {hds : List ExceptHandler} {l : List (Value × Suite)} {pos : Pos} {tb : WX → TS} {Wo : WX} (hs : X.stack = X.env :: X.outer) (hf : X.env.frame = some X.env.locals) (nd : X.N.Nodup) (hi : X.N[i]? = some n)
    (hln : X.env.kindOf n = some .local) (tk : Takes X Wo) (hb : ∀ (W : WX) (pn : List (Addr × Obj)) (xe : Value → Shared → Prop), Takes (X.tr pn xe) W → PassesOwn (model X.prog X.w) X.A X.env xe → PSs (X.tr pn xe) body (tb W)) (hh : HdsA X n (h₀ :: hds) l) :
    PS X (.Try body (h₀ :: hds) [] [] pos) (fun D σ H => tb (wManyA X.K i Wo D l) D σ H) := by
  constructor
  intro pins s σ H D I h
  have okI := I.ok
  have frI : X.A.frames = some (X.env :: X.outer) := okI.frames.trans (congrArg some hs)
  have lc : Loc X.env.scope n := Or.inl hln
  apply wpAny_Try_except
  refine wpAny_mono ((hb (wManyA X.K i Wo D l) (X.pn ++ pins) (fun e t₁ => wpAny (model X.prog X.w) X.A (noteFrame e X.env) (fun _ t₂ => wpAny (model X.prog X.w) X.A (setFlight e none) (fun _ t₃ => wpAny (model X.prog X.w) X.A (handleBy e X.env (h₀ :: hds)) (SP X pins D) X.xe t₃) X.xe t₂) X.xe t₁) (fun ev t hev => ?_) PassesOwn.looking).run [] s σ H D (I.toTry _) h) (fun fl t ht => ?_) (fun ev t he => he)
  · obtain ⟨a, B, sI, pins', τ, G, cls, d, rfl, JT, nb, up, sky, na, os, ag, w⟩ := hev
    have J : Inv X pins τ G sI := JT.ofTry okI
    rw [hs] at sky
    change wpAny (model X.prog X.w) X.A (noteFrame (Value.ref a) X.env) _ _ _
    refine Sky.land Zc.steady frI hf sky fun k3 f3 u3 => ?_
    have J3 : Inv X pins τ G { t with heap := k3 } := J.landed nb f3.1 (up.trans u3) os ag
    obtain ⟨oe, vs, ge, ze, de⟩ := f3.there
    have notIn : a ∉ frs (X.env :: X.outer) := fun hm => by
      obtain ⟨_, o', e', hnf⟩ := f3.2.2.1.mem hm
      rw [ge] at e'
      cases e'
      exact hnf _ de
    have nL : a ≠ X.env.locals := fun z => notIn (List.mem_filterMap.mpr ⟨X.env, List.mem_cons_self, hf.trans (congrArg some z.symm)⟩)
    have nF : a ∉ X.fs := fun hm => by
      obtain ⟨en, hen, qn⟩ := List.mem_filterMap.mp hm
      exact notIn (List.mem_filterMap.mpr ⟨en, List.mem_cons_of_mem _ hen, qn⟩)
    have S3 := J3.suite ge de na nL nF
    have all : ∀ {hs' : List ExceptHandler} {l' : List (Value × Suite)}, HdsA X n hs' l' → wManyA X.K i Wo D l' cls d τ G → wpAny (model X.prog X.w) X.A (handleBy (.ref a) X.env hs') (SP X pins D) X.xe { t with heap := k3 } := by
      intro hs' l' hk
      induction hk with
      | nil =>
        intro w
        apply wpAny_handleBy_nil
        obtain ⟨_, _, _, o2, v2, T, oT, ts', g2, z2, d2, h1, hr⟩ := id f3
        unfold PySem.passOn
        apply wpAny_bind
        refine wpAny_field g2 d2 h1 ?_
        rw [if_neg (by simp : ¬ ((Value.ref T == Value.none) = true))]
        have out : wpAny (model X.prog X.w) X.A (setFlight (.ref a) X.env.frame) (fun _ t4 => wpAny (model X.prog X.w) X.A (throw (.ref a) : Sem Flow) (SP X pins D) X.xe t4) X.xe { t with heap := k3 } := by
          rw [hf]
          refine HandSPX.setFlight_upZ f3 fun k4 hh4 u4 => wpAny_throw (tk _ _ ⟨a, B, sI, pins, τ, G, cls, d, rfl, J, nb, (up.trans u3).trans u4, Or.inr (Or.inr ?_), na, os, ag, w⟩)
          rw [hs]
          exact hh4
        first
          | exact wpAny_bind (wpAny_pure (wpAny_bind out))
          | exact wpAny_bind out
      | @cons x c ts st sts np ep hs2 l2 hc su r ih =>
        rintro ⟨b, hx, yes, no⟩
        refine wpAny_handleBy_cons (codeAny_handlers_test ?_) (by intro q; cases q)
        have looks : PySem.W.Looks (model X.prog X.w) k3 (typeOf (.ref a)) cls := fun A' Q' E' s' k' q' => wpAny_typeOf_ref (k' _ _ ge) (by rw [ze.1]; exact q')
        have LM := PySem.W.exm_one (M := model X.prog X.w) J3.kIn looks hx
        have named : ∀ {Q E : Value → Shared → Prop}, Q c { t with heap := k3 } → wpAny (model X.prog X.w) (X.A.mark (some (.ref a))) (eval (.Name x np) X.env) Q E { t with heap := k3 } := fun {Q E} q => by
          rcases hc with ⟨g1, g2, g3 | ⟨g3, g4, g5⟩⟩
          · exact ld_glob (X := X.suite a ((a, oe) :: (X.pn ++ pins))) S3 g1 g3 q g2
          · exact ld_blt (X := X.suite a ((a, oe) :: (X.pn ++ pins))) S3 g1 g3 g4 q g5 g2
        refine named (LM.here ?_)
        cases b with
        | false => exact ih (no rfl)
        | true =>
          apply codeAny_handlers_suite_as
          refine HandSPX.lands_againZ f3 fun k4 f4 u4 => ?_
          have J4 : Inv X pins τ G { t with heap := k4 } := J.landed nb f4.1 ((up.trans u3).trans u4) os ag
          obtain ⟨o4, v4, g4, z4, d4⟩ := f4.there
          have S4 := J4.suite g4 d4 na nL nF
          refine store_ok (X := X.suite a ((a, o4) :: (X.pn ++ pins))) (v := .ref a) S4 nd hi lc rfl (fun s5 S5 => ?_) (Or.inr hln)
          refine wpAny_mono ((su a o4 cls d (X.pn ++ pins) z4 ⟨_, d4⟩).run [] s5 _ G _ S5 (yes rfl a na)) (fun fl s6 ho => ?_) (fun _ _ z => z.elim)
          have gone : ∀ {τ6 : L2.St} {G6 : Hp} {Q : Shared → Prop}, Inv (X.suite a ((a, o4) :: (X.pn ++ pins))) [] τ6 G6 s6 → (∀ s7, Inv X pins (τ6.set i none) G6 s7 → Q s7) → wpAny (model X.prog X.w) X.A (do bindName X.env n .none; unbindBehindTheSuite X.env n ep) (fun _ s7 => Q s7) X.xe s6 := fun {τ6 G6 Q} S6 k => gone_ok (S6.unsuite okI) nd hi hln k
          cases fl with
          | ret u =>
            obtain ⟨v6, τ6, G6, S6, r6, q6⟩ := ho
            exact gone S6 fun s7 J7 => ⟨v6, _, G6, J7, r6, q6⟩
          | next =>
            obtain ⟨τ6, G6, S6, q6⟩ := ho
            exact gone S6 fun s7 J7 => ⟨_, G6, J7, q6⟩
          | brk =>
            obtain ⟨τ6, G6, S6, q6⟩ := ho
            exact gone S6 fun s7 J7 => ⟨_, G6, J7, q6⟩
          | cont =>
            obtain ⟨τ6, G6, S6, q6⟩ := ho
            exact gone S6 fun s7 J7 => ⟨_, G6, J7, q6⟩
    exact all hh w
  · cases fl with
    | ret u =>
      obtain ⟨v, τ, G, J, r, q⟩ := ht
      exact ⟨v, τ, G, J.ofTry okI, r, q⟩
    | next =>
      obtain ⟨τ, G, J, q⟩ := ht
      exact wpAny_execs_nil ⟨τ, G, J.ofTry okI, q⟩
    | brk =>
      obtain ⟨τ, G, J, q⟩ := ht
      exact ⟨τ, G, J.ofTry okI, q⟩
    | cont =>
      obtain ⟨τ, G, J, q⟩ := ht
      exact ⟨τ, G, J.ofTry okI, q⟩
end Cg
namespace Cg
open PySem PySem.Spec PyProof.Rows L2 Evl
section
variable {K : PySem.W.Frag} {σ : L2.St} {H H' : Hp} {te : TE} {t : TT} {tu tw tz : TS} {D : Ends}
theorem b_go {Q : Bool → Hp → Prop} (h : te σ H fun x H1 => ∃ c, x = .bl c ∧ Q c H1) : tB te σ H Q := h
theorem q_forR3 {ta : TA} {j : Nat} {i0 j0 c : Int} {n : Nat} (h : EvA ta σ H [.int i0, .int j0, .int c]) (hr : RgC i0 j0 c n) (Pv : Nat → L2.St → Hp → Prop) (h0 : ∀ H1, Ex H H1 → Pv 0 σ H1)
    (hs : ∀ (i : Nat) τ G, i < n → Pv i τ G → tu { D with nx := Pv (i + 1), ct := Pv (i + 1), bk := tz D } (τ.set j (some (.int (i0 + (i : Nat) * c)))) G) (hd : ∀ τ G, Pv n τ G → tz D τ G) : tSeq (tFor (iRng3 ta) (gName j) tu) tz D σ H :=
  h H (Ex.refl H) _ fun H1 e1 => ⟨i0, j0, c, n, rfl, hr, for_rangeC Pv (h0 H1 e1) hs hd⟩
theorem s_forR3 {ta : TA} {j : Nat} {i0 j0 c : Int} {n : Nat} (h : EvA ta σ H [.int i0, .int j0, .int c]) (hr : RgC i0 j0 c n) (Pv : Nat → L2.St → Hp → Prop) (h0 : ∀ H1, Ex H H1 → Pv 0 σ H1)
    (hs : ∀ (i : Nat) τ G, i < n → Pv i τ G → tu { D with nx := Pv (i + 1), ct := Pv (i + 1), bk := D.nx } (τ.set j (some (.int (i0 + (i : Nat) * c)))) G) (hd : ∀ τ G, Pv n τ G → D.nx τ G) : tFor (iRng3 ta) (gName j) tu D σ H :=
  h H (Ex.refl H) _ fun H1 e1 => ⟨i0, j0, c, n, rfl, hr, for_rangeC Pv (h0 H1 e1) hs hd⟩
end
end Cg
namespace Cg
open PySem PySem.Spec PyProof.Rows L2 Evl
/-- a text, taken once or not at all -/
def rStr01 : R2 := fun x y H Q => ∃ (z : Str) (b : Bool), x = .str z ∧ y = .int (if b then 1 else 0) ∧ Q (.str (if b then z else Str.empty)) H
theorem op_str01 {X : Cx} : OpR X (binaryOp .Mult) rStr01 := by
  intro pins s σ H x y v u Q I rx ry h
  obtain ⟨z, b, rfl, rfl, q⟩ := h
  obtain ⟨t, rfl⟩ := rx
  obtain ⟨t', rfl⟩ := ry
  cases b with
  | false => exact PySem.P.mul_str_none (by decide) (by decide) ⟨.str Str.empty, H, I.tok _, ⟨_, rfl⟩, q⟩
  | true =>
    refine PySem.P.mul_str (n := 1) (by decide) (fun _ h2 => by simp at h2) (fun _ h2 => by simp at h2) ?_
    rw [if_neg (by decide), if_pos (by simp)]
    exact ⟨.str z, H, I, ⟨_, rfl⟩, q⟩
section
variable {K : PySem.W.Frag} {σ : L2.St} {H H' : Hp} {ta tb te : TE} {x y v : V} {z z2 : Str} {b : Bool}
theorem ev_str01 (ha : Ev ta σ H (.str z)) (hb : Ev tb σ H (.int (if b then 1 else 0))) : Ev (tOp rStr01 ta tb) σ H (.str (if b then z else Str.empty)) := fun H1 e Q q =>
  ha H1 e _ fun H2 e2 => hb H2 (e.trans e2) _ fun H3 e3 => ⟨z, b, rfl, rfl, q H3 (e2.trans e3)⟩
theorem ev_addS (ha : Ev ta σ H (.str z)) (hb : Ev tb σ H (.str z2)) (hl : z.length + z2.length ≤ 100000) : Ev (tOp (fun x y H Q => ∃ i j, x = .str i ∧ y = .str j ∧ i.length + j.length ≤ sizeLine ∧ Q (.str (i ++ j)) H) ta tb) σ H (.str (z ++ z2)) := fun H1 e Q q =>
  ha H1 e _ fun H2 e2 => hb H2 (e.trans e2) _ fun H3 e3 => ⟨z, z2, rfl, rfl, sz_of hl, q H3 (e2.trans e3)⟩
theorem ev_isN (ha : Ev ta σ H x) : Ev (tOp (fun x y H Q => y = .non ∧ Q (.bl (decide (x = .non))) H) ta (tC .non)) σ H (.bl (decide (x = .non))) := fun H1 e Q q =>
  ha H1 e _ fun H2 e2 => ⟨rfl, q H2 e2⟩
end
end Cg
namespace Cg
open PySem PySem.Spec PyProof.Rows L2 Evl
section
variable {K : PySem.W.Frag} {σ : L2.St} {H H' : Hp} {ta tb te : TE} {xs : List V}
/-- a new list among arguments -/
theorem eap_el {tr : TA} {P : List V → Hp → Prop} (h : EvL te σ H xs) (hr : EvAP tr σ H P) : EvAP (tCons te tr) σ H (fun vs H' => ∃ p r, vs = .ref p :: r ∧ H p = none ∧ H' p = some (.lst xs) ∧ P r H') := fun H1 e Q q =>
  h H1 e _ fun p H2 n2 e2 h2 => hr H2 (e.trans e2) _ fun vs H3 e3 h3 => q _ H3 (e2.trans e3) ⟨p, vs, rfl, fresh_back e n2, e3 _ _ h2, h3⟩
theorem andV_go {Q : VK} (h : ta σ H fun x H1 => ∃ c, x = .bl c ∧ if c = true then tb σ H1 Q else Q (.bl false) H1) : tAndV ta tb σ H Q := h
theorem et_go {t : TT} {b : Bool} {Q : Bool → Hp → Prop} (h : EvT t σ H b) (k : ∀ H2, Ex H H2 → Q b H2) : t σ H Q := h H (Ex.refl H) Q k
end
theorem size_in (c k : Int) (rm : Nat) (hk : 0 ≤ k) : 0 ≤ c % ((if k < (rm : Int) then k else (rm : Int)) + 1) ∧ c % ((if k < (rm : Int) then k else (rm : Int)) + 1) ≤ (rm : Int) := by
  have h1 := Int.emod_nonneg c (show (if k < (rm : Int) then k else (rm : Int)) + 1 ≠ 0 by split <;> omega)
  have h2 := Int.emod_lt_of_pos c (show 0 < (if k < (rm : Int) then k else (rm : Int)) + 1 by split <;> omega)
  split at h2 <;> rename_i z <;> simp only [z, if_true, if_false] at h1 ⊢ <;> omega
end Cg
namespace Cg
open PySem PySem.Spec PyProof.Rows L2 Evl
theorem sq_but {K : PySem.W.Frag} {H H1 X : Hp} {l a : Addr} {xs : List V} (h : SqL K H a xs) (n : H l = none) (e : Ex H H1) (k : Kp l H1 X) : SqL K X a xs := by
  rcases h with (h | ⟨o, h⟩) | h
  · exact .inl (.inl (k _ _ (ne_of_none h n) (e _ _ h)))
  · exact .inl (.inr ⟨o, k _ _ (ne_of_none h n) (e _ _ h)⟩)
  · exact .inr h
end Cg



set_option Elab.async false
set_option linter.all false
set_option maxRecDepth 100000
set_option maxHeartbeats 400000
namespace Cg
open PySem PySem.Spec PyProof.Rows L2 Evl

def topS (i : Nat) : Stmt := PySem.Challenge.pw_crcgate_k07_rests_and_noughts.main.body.getD i (.Pass ⟨0, 0, 0, 0⟩)
abbrev s_is_sign : Stmt := topS 7
abbrev N_is_sign : List Str := ["value"]
theorem sc_is_sign : FnScope N_is_sign ["value"] (defScope s_is_sign) := ⟨rfl, rfl, rfl, by decide +kernel, rfl, by decide +kernel, by decide +kernel⟩
abbrev s_need_row : Stmt := topS 8
abbrev N_need_row : List Str := ["row", "sign"]
theorem sc_need_row : FnScope N_need_row ["row"] (defScope s_need_row) := ⟨rfl, rfl, rfl, by decide +kernel, rfl, by decide +kernel, by decide +kernel⟩
abbrev s_need_divisor : Stmt := topS 9
abbrev N_need_divisor : List Str := ["divisor"]
theorem sc_need_divisor : FnScope N_need_divisor ["divisor"] (defScope s_need_divisor) := ⟨rfl, rfl, rfl, by decide +kernel, rfl, by decide +kernel, by decide +kernel⟩
abbrev s_reduced : Stmt := topS 10
abbrev N_reduced : List Str := ["row", "divisor", "a", "b"]
theorem sc_reduced : FnScope N_reduced ["row", "divisor"] (defScope s_reduced) := ⟨rfl, rfl, rfl, by decide +kernel, rfl, by decide +kernel, by decide +kernel⟩
abbrev s_parted : Stmt := topS 11
abbrev N_parted : List Str := ["row", "divisor", "width", "rest", "heads", "sign", "longer"]
theorem sc_parted : FnScope N_parted ["row", "divisor"] (defScope s_parted) := ⟨rfl, rfl, rfl, by decide +kernel, rfl, by decide +kernel, by decide +kernel⟩
abbrev s_need_gate_divisor : Stmt := topS 15
abbrev N_need_gate_divisor : List Str := ["divisor"]
theorem sc_need_gate_divisor : FnScope N_need_gate_divisor ["divisor"] (defScope s_need_gate_divisor) := ⟨rfl, rfl, rfl, by decide +kernel, rfl, by decide +kernel, by decide +kernel⟩
abbrev s_reach : Stmt := topS 16
abbrev N_reach : List Str := ["divisor", "many", "_", "start"]
theorem sc_reach : FnScope N_reach ["divisor"] (defScope s_reach) := ⟨rfl, rfl, rfl, by decide +kernel, rfl, by decide +kernel, by decide +kernel⟩
abbrev s_is_count : Stmt := topS 19
abbrev N_is_count : List Str := ["value"]
theorem sc_is_count : FnScope N_is_count ["value"] (defScope s_is_count) := ⟨rfl, rfl, rfl, by decide +kernel, rfl, by decide +kernel, by decide +kernel⟩
abbrev s_Gate___init__ : Stmt := inClass (topS 20) 0
abbrev N_Gate___init__ : List Str := ["self", "divisor"]
theorem sc_Gate___init__ : FnScope N_Gate___init__ ["self", "divisor"] (defScope s_Gate___init__) := ⟨rfl, rfl, rfl, by decide +kernel, rfl, by decide +kernel, by decide +kernel⟩
abbrev s_Gate_rest : Stmt := inClass (topS 20) 1
abbrev N_Gate_rest : List Str := ["self", "row", "_", "rest"]
theorem sc_Gate_rest : FnScope N_Gate_rest ["self", "row"] (defScope s_Gate_rest) := ⟨rfl, rfl, rfl, by decide +kernel, rfl, by decide +kernel, by decide +kernel⟩
abbrev s_Gate_later : Stmt := inClass (topS 20) 2
abbrev N_Gate_later : List Str := ["self", "rest", "many"]
theorem sc_Gate_later : FnScope N_Gate_later ["self", "rest", "many"] (defScope s_Gate_later) := ⟨rfl, rfl, rfl, by decide +kernel, rfl, by decide +kernel, by decide +kernel⟩
abbrev s_Gate_check : Stmt := inClass (topS 20) 3
abbrev N_Gate_check : List Str := ["self", "row"]
theorem sc_Gate_check : FnScope N_Gate_check ["self", "row"] (defScope s_Gate_check) := ⟨rfl, rfl, rfl, by decide +kernel, rfl, by decide +kernel, by decide +kernel⟩
abbrev s__law_cell_at : Stmt := topS 22
abbrev N__law_cell_at : List Str := ["_law_script", "_law_k"]
theorem sc__law_cell_at : FnScope N__law_cell_at ["_law_script", "_law_k"] (defScope s__law_cell_at) := ⟨rfl, rfl, rfl, by decide +kernel, rfl, by decide +kernel, by decide +kernel⟩
abbrev s__law_row_by : Stmt := topS 23
abbrev N__law_row_by : List Str := ["_law_cell", "_law_size", "_law_found", "_law_state", "_law_k"]
theorem sc__law_row_by : FnScope N__law_row_by ["_law_cell", "_law_size"] (defScope s__law_row_by) := ⟨rfl, rfl, rfl, by decide +kernel, rfl, by decide +kernel, by decide +kernel⟩
abbrev s__law_is_row : Stmt := topS 24
abbrev N__law_is_row : List Str := ["_law_found", "_law_size", "_law_x"]
theorem sc__law_is_row : FnScope N__law_is_row ["_law_found", "_law_size"] (defScope s__law_is_row) := ⟨rfl, rfl, rfl, by decide +kernel, rfl, by decide +kernel, by decide +kernel⟩
abbrev s__law_step_by : Stmt := topS 25
abbrev N__law_step_by : List Str := ["_law_rest", "_law_sign", "_law_divisor", "_law_longer", "_law_a", "_law_b"]
theorem sc__law_step_by : FnScope N__law_step_by ["_law_rest", "_law_sign", "_law_divisor"] (defScope s__law_step_by) := ⟨rfl, rfl, rfl, by decide +kernel, rfl, by decide +kernel, by decide +kernel⟩
abbrev s__law_rest_by : Stmt := topS 26
abbrev N__law_rest_by : List Str := ["_law_row", "_law_divisor", "_law_rest", "_law_sign"]
theorem sc__law_rest_by : FnScope N__law_rest_by ["_law_row", "_law_divisor"] (defScope s__law_rest_by) := ⟨rfl, rfl, rfl, by decide +kernel, rfl, by decide +kernel, by decide +kernel⟩
abbrev s__law_divisor_by : Stmt := topS 27
abbrev N__law_divisor_by : List Str := ["_law_cell", "_law_bits", "_law_width", "_law_inner", "_law_k"]
theorem sc__law_divisor_by : FnScope N__law_divisor_by ["_law_cell", "_law_bits"] (defScope s__law_divisor_by) := ⟨rfl, rfl, rfl, by decide +kernel, rfl, by decide +kernel, by decide +kernel⟩
abbrev s__law_reach_by : Stmt := topS 28
abbrev N__law_reach_by : List Str := ["_law_divisor", "_law_begin", "_law_rest", "_law_many"]
theorem sc__law_reach_by : FnScope N__law_reach_by ["_law_divisor"] (defScope s__law_reach_by) := ⟨rfl, rfl, rfl, by decide +kernel, rfl, by decide +kernel, by decide +kernel⟩
abbrev s__law_told : Stmt := topS 29
abbrev N__law_told : List Str := ["_law_gate", "_law_divisor", "_law_due"]
theorem sc__law_told : FnScope N__law_told ["_law_gate", "_law_divisor", "_law_due"] (defScope s__law_told) := ⟨rfl, rfl, rfl, by decide +kernel, rfl, by decide +kernel, by decide +kernel⟩
abbrev s__law_made : Stmt := topS 30
abbrev N__law_made : List Str := ["_law_cell", "_law_bits", "_law_divisor", "_law_handed", "_law_gate"]
theorem sc__law_made : FnScope N__law_made ["_law_cell", "_law_bits"] (defScope s__law_made) := ⟨rfl, rfl, rfl, by decide +kernel, rfl, by decide +kernel, by decide +kernel⟩
abbrev s__law_rested : Stmt := topS 31
abbrev N__law_rested : List Str := ["_law_gate", "_law_row", "_law_divisor", "_law_held", "_law_handed", "_law_found", "_law_due"]
theorem sc__law_rested : FnScope N__law_rested ["_law_gate", "_law_row", "_law_divisor", "_law_held"] (defScope s__law_rested) := ⟨rfl, rfl, rfl, by decide +kernel, rfl, by decide +kernel, by decide +kernel⟩
abbrev s__law_checked : Stmt := topS 32
abbrev N__law_checked : List Str := ["_law_gate", "_law_row", "_law_due", "_law_divisor", "_law_held", "_law_k", "_law_handed", "_law_check"]
theorem sc__law_checked : FnScope N__law_checked ["_law_gate", "_law_row", "_law_due", "_law_divisor", "_law_held"] (defScope s__law_checked) := ⟨rfl, rfl, rfl, by decide +kernel, rfl, by decide +kernel, by decide +kernel⟩
abbrev s__law_refused : Stmt := topS 33
abbrev N__law_refused : List Str := ["_law_gate", "_law_rest", "_law_many", "_law_refused_here", "e"]
theorem sc__law_refused : FnScope N__law_refused ["_law_gate", "_law_rest", "_law_many"] (defScope s__law_refused) := ⟨rfl, rfl, rfl, by decide +kernel, rfl, by decide +kernel, by decide +kernel⟩
abbrev s__law_later : Stmt := topS 34
abbrev N__law_later : List Str := ["_law_gate", "_law_rest", "_law_many", "_law_most", "_law_divisor", "_law_held", "_law_handed", "_law_found", "_law_due", "_law_k"]
theorem sc__law_later : FnScope N__law_later ["_law_gate", "_law_rest", "_law_many", "_law_most", "_law_divisor", "_law_held"] (defScope s__law_later) := ⟨rfl, rfl, rfl, by decide +kernel, rfl, by decide +kernel, by decide +kernel⟩
abbrev s__law_kept : Stmt := topS 35
abbrev N__law_kept : List Str := ["_law_held", "_law_found", "_law_copy"]
theorem sc__law_kept : FnScope N__law_kept ["_law_held"] (defScope s__law_kept) := ⟨rfl, rfl, rfl, by decide +kernel, rfl, by decide +kernel, by decide +kernel⟩
abbrev s_law : Stmt := topS 36
abbrev N_law : List Str := ["_law_script", "_law_divisor", "_law_gate", "_law_other", "_law_twin", "_law_most", "_law_size", "_law_row", "_law_rest", "_law_held", "_law_some", "_law_way", "_law_below", "_law_many", "_law_more"]
theorem sc_law : FnScope N_law ["_law_script"] (defScope s_law) := ⟨rfl, rfl, rfl, by decide +kernel, rfl, by decide +kernel, by decide +kernel⟩
structure Cs where
  (none_ GateError NoRow NoDivisor NoCount Gate : Addr)
structure Txt (K : PySem.W.Frag) (mg : Str → Option Value) (cs : Cs) : Prop where
  e_GateError : ExcT K mg "GateError" cs.GateError
  e_NoRow : ExcT K mg "NoRow" cs.NoRow
  e_NoDivisor : ExcT K mg "NoDivisor" cs.NoDivisor
  e_NoCount : ExcT K mg "NoCount" cs.NoCount
  c_Gate : ClsT K mg "Gate" cs.Gate
  n_Gate_reach : NoAttr K cs.Gate "reach"
  n_Gate_divisor : NoAttr K cs.Gate "divisor"
  n_Gate_width : NoAttr K cs.Gate "width"
  n_Gate_even : NoAttr K cs.Gate "even"
  p_GateError_GateError : PySem.W.subIn K (.ref cs.GateError) (.ref cs.GateError) = some true
  p_GateError_NoCount : PySem.W.subIn K (.ref cs.GateError) (.ref cs.NoCount) = some false
  p_NoRow_GateError : PySem.W.subIn K (.ref cs.NoRow) (.ref cs.GateError) = some true
  p_NoRow_NoCount : PySem.W.subIn K (.ref cs.NoRow) (.ref cs.NoCount) = some false
  p_NoDivisor_GateError : PySem.W.subIn K (.ref cs.NoDivisor) (.ref cs.GateError) = some true
  p_NoDivisor_NoCount : PySem.W.subIn K (.ref cs.NoDivisor) (.ref cs.NoCount) = some false
  p_NoCount_GateError : PySem.W.subIn K (.ref cs.NoCount) (.ref cs.GateError) = some true
  p_NoCount_NoCount : PySem.W.subIn K (.ref cs.NoCount) (.ref cs.NoCount) = some true
  z_ValueError : mg "ValueError" = none
  z_all : mg "all" = none
  z_bool : mg "bool" = none
  z_int : mg "int" = none
  z_isinstance : mg "isinstance" = none
  z_len : mg "len" = none
  z_list : mg "list" = none
  z_max : mg "max" = none
  z_range : mg "range" = none
  z_sum : mg "sum" = none
  z_zip : mg "zip" = none
  g_FEWEST_SIGNS : ∃ t, mg "FEWEST_SIGNS" = some (.int 2 t)
  g_MOST_SIGNS : ∃ t, mg "MOST_SIGNS" = some (.int 13 t)
  g_MOST_NOUGHTS : ∃ t, mg "MOST_NOUGHTS" = some (.int 1000000000000000000 t)
  d_is_sign : Raw K mg "is_sign" "is_sign" s_is_sign ["value"]
  d_need_row : Raw K mg "need_row" "need_row" s_need_row ["row"]
  d_need_divisor : Raw K mg "need_divisor" "need_divisor" s_need_divisor ["divisor"]
  d_reduced : Raw K mg "reduced" "reduced" s_reduced ["row", "divisor"]
  d_parted : Raw K mg "parted" "parted" s_parted ["row", "divisor"]
  d_need_gate_divisor : Raw K mg "need_gate_divisor" "need_gate_divisor" s_need_gate_divisor ["divisor"]
  d_reach : Raw K mg "reach" "reach" s_reach ["divisor"]
  d_is_count : Raw K mg "is_count" "is_count" s_is_count ["value"]
  i_Gate : RawI K cs.Gate "Gate.__init__" s_Gate___init__ ["self", "divisor"]
  m_Gate_rest : RawM K cs.Gate "rest" "Gate.rest" s_Gate_rest ["self", "row"]
  m_Gate_later : RawM K cs.Gate "later" "Gate.later" s_Gate_later ["self", "rest", "many"]
  m_Gate_check : RawM K cs.Gate "check" "Gate.check" s_Gate_check ["self", "row"]
  d__law_cell_at : Raw K mg "_law_cell_at" "_law_cell_at" s__law_cell_at ["_law_script", "_law_k"]
  d__law_row_by : Raw K mg "_law_row_by" "_law_row_by" s__law_row_by ["_law_cell", "_law_size"]
  d__law_is_row : Raw K mg "_law_is_row" "_law_is_row" s__law_is_row ["_law_found", "_law_size"]
  d__law_step_by : Raw K mg "_law_step_by" "_law_step_by" s__law_step_by ["_law_rest", "_law_sign", "_law_divisor"]
  d__law_rest_by : Raw K mg "_law_rest_by" "_law_rest_by" s__law_rest_by ["_law_row", "_law_divisor"]
  d__law_divisor_by : Raw K mg "_law_divisor_by" "_law_divisor_by" s__law_divisor_by ["_law_cell", "_law_bits"]
  d__law_reach_by : Raw K mg "_law_reach_by" "_law_reach_by" s__law_reach_by ["_law_divisor"]
  d__law_told : Raw K mg "_law_told" "_law_told" s__law_told ["_law_gate", "_law_divisor", "_law_due"]
  d__law_made : Raw K mg "_law_made" "_law_made" s__law_made ["_law_cell", "_law_bits"]
  d__law_rested : Raw K mg "_law_rested" "_law_rested" s__law_rested ["_law_gate", "_law_row", "_law_divisor", "_law_held"]
  d__law_checked : Raw K mg "_law_checked" "_law_checked" s__law_checked ["_law_gate", "_law_row", "_law_due", "_law_divisor", "_law_held"]
  d__law_refused : Raw K mg "_law_refused" "_law_refused" s__law_refused ["_law_gate", "_law_rest", "_law_many"]
  d__law_later : Raw K mg "_law_later" "_law_later" s__law_later ["_law_gate", "_law_rest", "_law_many", "_law_most", "_law_divisor", "_law_held"]
  d__law_kept : Raw K mg "_law_kept" "_law_kept" s__law_kept ["_law_held"]
/-! ## our own lines for straight expressions -/
local macro_rules | `(tactic| walk_at "cg ar") => `(tactic| first | decide | omega | exact ⟨by decide, by decide⟩ | exact Or.inr ⟨by decide, by decide⟩ | (show (0 : Int) < _; first | decide | omega) | assumption)
local macro_rules | `(tactic| walk_at "cg hp") => `(tactic| first | assumption | (refine' Ex.at (by assumption) ?_; walk_at "cg hp"))
local macro_rules | `(tactic| walk_at "cg sq") => `(tactic| first | assumption | exact sq_of (by walk_at "cg hp") | (refine' ex_l (by assumption) ?_; walk_at "cg sq"))
local macro_rules | `(tactic| walk_at "cg er") => `(tactic| first | ((with_reducible apply er_var); (exact rfl); (walk_at "cg hp")) | ((with_reducible apply er_L); walk_at "cg el"))
local macro_rules | `(tactic| walk_at "cg el") => `(tactic| first
  | with_reducible exact el_nilI
  | ((with_reducible apply el_oneI); walk_at "cg ev")
  | ((with_reducible apply el_catI); (walk_at "cg er"); (walk_at "cg er"); (walk_at "cg ar"))
  | ((with_reducible apply el_repI); (walk_at "cg ev"); (walk_at "cg ev"); (walk_at "cg ar"))
  | ((with_reducible apply el_slFromI); (walk_at "cg er"); (walk_at "cg ev"); (walk_at "cg ar"))
  | ((with_reducible apply el_slToI); (walk_at "cg er"); (walk_at "cg ev"); (walk_at "cg ar"))
  | ((with_reducible apply el_listR); walk_at "cg er"))
local macro_rules | `(tactic| walk_at "cg ev") => `(tactic| first
  | with_reducible exact ev_c
  | ((with_reducible apply ev_var); exact rfl)
  | ((with_reducible apply ev_i0); (walk_at "cg ev"); (walk_at "cg ev"))
  | ((with_reducible apply ev_mod); (walk_at "cg ev"); (walk_at "cg ev"); (walk_at "cg ar"))
  | ((with_reducible apply ev_cmp); (walk_at "cg ev"); (walk_at "cg ev"))
  | ((with_reducible apply ev_lenI); walk_at "cg er")
  | ((with_reducible apply ev_chain); (walk_at "cg ev"); (walk_at "cg ev"); (walk_at "cg ev"))
  | ((with_reducible apply ev_notV); walk_at "cg ev")
  | ((with_reducible apply ev_max2); (walk_at "cg ev"); (walk_at "cg ev"))
  | ((with_reducible apply ev_min2); (walk_at "cg ev"); (walk_at "cg ev"))
  | ((with_reducible apply ev_intB); walk_at "cg ev")
  | ((with_reducible apply ev_eqR); (walk_at "cg er"); (walk_at "cg er"))
  | ((with_reducible apply ev_neR); (walk_at "cg er"); (walk_at "cg er"))
  | ((with_reducible apply ev_isiR); (walk_at "cg er"); (exact kit_list_list))
  | ((with_reducible apply ev_isiF); (walk_at "cg ev"); (exact rfl); first | exact kit_int_int | exact kit_int_bool | exact kit_bool_bool | exact kit_bool_int | exact kit_str_str)
  | ((with_reducible apply ev_sumR); walk_at "cg er")
  | ((with_reducible apply ev_inR); (walk_at "cg ev"); (walk_at "cg er"))
  | ((with_reducible apply ev_niR); (walk_at "cg ev"); (walk_at "cg er")))
local macro_rules | `(tactic| walk_at "cg ea") => `(tactic| first | with_reducible exact ea_nil | ((with_reducible apply ea_cons); (walk_at "cg ev"); (walk_at "cg ea")))
local macro_rules | `(tactic| walk_at "cg et") => `(tactic| first
  | ((with_reducible apply et_B); walk_at "cg ev")
  | ((with_reducible apply et_not); walk_at "cg et")
  | ((with_reducible apply et_test); walk_at "cg ev"))


/-! ## signs -/
def Bits (ns : List Int) : Prop := ∀ x ∈ ns, x = 0 ∨ x = 1
theorem Bits.nil : Bits [] := fun _ h => nomatch h
theorem Bits.cons {x : Int} {r : List Int} (h : x = 0 ∨ x = 1) (hr : Bits r) : Bits (x :: r) := fun y hy => by
  cases hy with
  | head => exact h
  | tail _ k => exact hr y k
theorem Bits.append {xs ys : List Int} (h : Bits xs) (k : Bits ys) : Bits (xs ++ ys) := fun y hy => by
  rcases List.mem_append.mp hy with z | z
  · exact h y z
  · exact k y z
theorem Bits.one {x : Int} (h : x = 0 ∨ x = 1) : Bits [x] := Bits.cons h .nil
theorem Bits.rep {x : Int} (n : Nat) (h : x = 0 ∨ x = 1) : Bits (List.replicate n x) := fun y hy => by
  rw [(List.mem_replicate.mp hy).2]
  exact h
theorem Bits.take {xs : List Int} (h : Bits xs) (n : Nat) : Bits (xs.take n) := fun y hy => h y (List.mem_of_mem_take hy)
theorem Bits.drop {xs : List Int} (h : Bits xs) (n : Nat) : Bits (xs.drop n) := fun y hy => h y (List.mem_of_mem_drop hy)
theorem bit_mod (i : Int) : i % 2 = 0 ∨ i % 2 = 1 := by omega
theorem Bits.get {xs : List Int} (h : Bits xs) {i : Nat} {x : Int} (e : xs[i]? = some x) : x = 0 ∨ x = 1 := h x (List.mem_of_getElem? e)


/-! ## sums of signs -/
def longer (xs : List Int) (n : Nat) : List Int := List.replicate (n - xs.length) 0 ++ xs
theorem longer_len {xs : List Int} {n : Nat} (h : xs.length ≤ n) : (longer xs n).length = n := by
  unfold longer
  rw [List.length_append, List.length_replicate]
  omega
theorem longer_bits {xs : List Int} (h : Bits xs) (n : Nat) : Bits (longer xs n) := (Bits.rep _ (.inl rfl)).append h
def xorR (xs ys : List Int) : List Int := List.zipWith (fun a b => Builtin.bitXor a b) xs ys
theorem xor_bit {a b : Int} (ha : a = 0 ∨ a = 1) (hb : b = 0 ∨ b = 1) : Builtin.bitXor a b = (a + b) % 2 := by
  rcases ha with rfl | rfl <;> rcases hb with rfl | rfl <;> decide +kernel
theorem xorR_bits : ∀ {xs ys : List Int}, Bits xs → Bits ys → Bits (xorR xs ys)
  | [], _, _, _ => by intro x hx; cases hx
  | _ :: _, [], _, _ => by intro x hx; cases hx
  | x :: xs, y :: ys, hx, hy => by
    have h1 := hx x List.mem_cons_self
    have h2 := hy y List.mem_cons_self
    refine Bits.cons ?_ (xorR_bits (fun z k => hx z (List.mem_cons_of_mem _ k)) fun z k => hy z (List.mem_cons_of_mem _ k))
    show Builtin.bitXor x y = 0 ∨ Builtin.bitXor x y = 1
    rw [xor_bit h1 h2]
    exact bit_mod _
theorem at_nat {xs : List Int} {i : Int} {j : Nat} {n : Int} (e : i = (j : Int)) (h : xs[j]? = some n) : atI xs i = some n := by
  rw [e]
  exact atI_nat h
theorem max_cast (a b : Nat) : (if (b : Int) > (a : Int) then (b : Int) else (a : Int)) = ((max a b : Nat) : Int) := by
  split <;> omega


theorem el_lcXor {K : PySem.W.Frag} {ta tb : TE} {σ : L2.St} {H : Hp} {i j : Nat} {vs : List Nat} {te : TE} {xs ys : List Int} (ha : EvR ta σ H (iv xs)) (hb : EvR tb σ H (iv ys)) (hz : xs.length ≤ 1000000) (hw : ∀ x y, wipe (((wipe σ vs).set i (some x)).set j (some y)) vs = wipe σ vs)
    (he : ∀ (x y : Int) H1, Ev te (((wipe σ vs).set i (some (.int x))).set j (some (.int y))) H1 (.int (Builtin.bitXor x y))) :
    EvL (tLc (iZip K (tCons ta (tCons tb tNil))) (gTup K 2 (gCons (gName i) (gCons (gName j) gNil))) tYes te vs) σ H (iv (xorR xs ys)) := by
  refine el_is (el_lcZip (fun x y => match x, y with | .int a, .int b => .int (Builtin.bitXor a b) | _, _ => .non) ha hb (by rw [iv_len]; exact hz) hw (fun k x y H1 e hx hy => ?_)) ?_
  · obtain ⟨n, _, rfl⟩ := iv_at hx
    obtain ⟨m, _, rfl⟩ := iv_at hy
    exact he n m H1
  · unfold xorR iv
    rw [List.zipWith_map, List.map_zipWith]


/-! ## products: the sums of a power -/
def tab (N : Nat) (f : Nat → Int) : List Int := (List.range N).map f
theorem tab_len (N : Nat) (f : Nat → Int) : (tab N f).length = N := by
  unfold tab
  rw [List.length_map, List.length_range]
theorem tab_get {N : Nat} {f : Nat → Int} {t : Nat} (h : t < N) : (tab N f)[t]? = some (f t) := by
  unfold tab
  rw [List.getElem?_map, List.getElem?_range h]
  rfl
theorem tab_no {N : Nat} {f : Nat → Int} {t : Nat} (h : ¬ t < N) : (tab N f)[t]? = none := List.getElem?_eq_none (by rw [tab_len]; omega)
theorem tab_ext {N : Nat} {f g : Nat → Int} (h : ∀ t, t < N → f t = g t) : tab N f = tab N g := by
  apply List.ext_getElem?
  intro t
  by_cases ht : t < N
  · rw [tab_get ht, tab_get ht, h t ht]
  · rw [tab_no ht, tab_no ht]
theorem tab_set {N : Nat} {f g : Nat → Int} {k : Nat} {v : Int} (h1 : g k = v) (h2 : ∀ t, t ≠ k → g t = f t) : (tab N f).set k v = tab N g := by
  apply List.ext_getElem?
  intro t
  rw [List.getElem?_set, tab_len]
  by_cases hk : k = t
  · subst hk
    rw [if_pos rfl]
    by_cases ht : k < N
    · rw [if_pos ht, tab_get ht, h1]
    · rw [if_neg ht, tab_no ht]
  · rw [if_neg hk]
    by_cases ht : t < N
    · rw [tab_get ht, tab_get ht, h2 t (fun e => hk e.symm)]
    · rw [tab_no ht, tab_no ht]
theorem tab_zero (N : Nat) : List.replicate N (0 : Int) = tab N fun _ => 0 := by
  unfold tab
  induction N with
  | zero => rfl
  | succ n ih => rw [List.replicate_succ', List.range_succ, List.map_append, ih]; rfl
theorem tab_bits {N : Nat} {f : Nat → Int} (h : ∀ t, t < N → f t = 0 ∨ f t = 1) : Bits (tab N f) := fun x hx => by
  obtain ⟨t, ht, rfl⟩ := List.mem_map.mp hx
  exact h t (List.mem_range.mp ht)
theorem tab_of (xs : List Int) : xs = tab xs.length (fun t => xs.getD t 0) := by
  apply List.ext_getElem?
  intro t
  by_cases ht : t < xs.length
  · rw [tab_get ht, List.getD_eq_getElem?_getD, List.getElem?_eq_getElem ht]
    rfl
  · rw [tab_no ht, List.getElem?_eq_none (by omega)]
/-- the k-th sign of the first row times that of the second, where their places make t -/
def tm (xs ys : List Int) (t k : Nat) : Int := if k ≤ t ∧ t - k < ys.length then xs.getD k 0 * ys.getD (t - k) 0 else 0
def sm (xs ys : List Int) (t : Nat) : Nat → Int
  | 0 => 0
  | n + 1 => sm xs ys t n + tm xs ys t n
theorem bit_getD {xs : List Int} (h : Bits xs) (k : Nat) : xs.getD k 0 = 0 ∨ xs.getD k 0 = 1 := by
  rw [List.getD_eq_getElem?_getD]
  cases e : xs[k]? with
  | none => exact .inl rfl
  | some x => exact h.get e
theorem and_bit {a b : Int} (ha : a = 0 ∨ a = 1) (hb : b = 0 ∨ b = 1) : Builtin.bitAnd a b = a * b := by
  rcases ha with rfl | rfl <;> rcases hb with rfl | rfl <;> decide +kernel
theorem mul_bit {a b : Int} (ha : a = 0 ∨ a = 1) (hb : b = 0 ∨ b = 1) : a * b = 0 ∨ a * b = 1 := by
  rcases ha with rfl | rfl <;> rcases hb with rfl | rfl <;> decide
def prodR (xs ys : List Int) : List Int := if xs.length = 0 ∨ ys.length = 0 then [] else tab (xs.length + ys.length - 1) fun t => sm xs ys t xs.length % 2
theorem prodR_bits (xs ys : List Int) : Bits (prodR xs ys) := by
  unfold prodR
  split
  · exact .nil
  · exact tab_bits fun t _ => bit_mod _


section
variable {P : Program} {w : World} {K : PySem.W.Frag} {mg : Str → Option Value} {base : Heap} {cs : Cs}
/-! ## _law_cell_at -/
def cellV (ns : List Int) (k : Int) : Int := ns.getD k.toNat 0
def sp__law_cell_at (K : PySem.W.Frag) : Sp := fun vs H Q _ => ∃ (a : Addr) (ns : List Int) (k : Int), vs = [.ref a, .int k] ∧ SqL K H a (iv ns) ∧ 0 ≤ k ∧ RetV (.int (cellV ns k)) H Q
theorem has__law_cell_at (T : Txt K mg cs) : Has P w K mg base 1 "_law_cell_at" ["_law_script", "_law_k"] (sp__law_cell_at K) := by
  refine T.d__law_cell_at.ok sc__law_cell_at (fun vs H Q E h => ?_) (fun f cdv A outer s H vs Q E hr h => ?_)
  · obtain ⟨a, ns, k, rfl, _⟩ := h
    rfl
  · obtain ⟨a, ns, k, rfl, hS, h0, q⟩ := h
    refine ⟨_, (pss_cons (ps_if (pt_cmpR op_lt (pv 1) (pe_callB (kk_len K) (by rfl) T.z_len b_len (pa_cons (pv 0) pa_nil)) (nomark _)) (pss_one (ps_ret (pe_ix (kk_ixl K) (pv 0) (pv 1) (fun _ _ => rfl)))) pss_nil)
      (pss_one (ps_ret pe_int))), ?_⟩
    refine q_when (et_test (ev_i0 (ev_var rfl) (ev_len (ev_var rfl) hS))) (fun hb H1 e1 => ?_) (fun hb H1 e1 => ?_)
    · have hk : k.toNat < ns.length := by
        have z := of_decide_eq_true hb
        rw [iv_len] at z
        omega
      have hx : atI (iv ns) k = some (.int (cellV ns k)) := by
        rw [show k = ((k.toNat : Nat) : Int) by omega]
        refine atI_nat (iv_get ?_)
        unfold cellV
        rw [Int.toNat_natCast, List.getD_eq_getElem?_getD, List.getElem?_eq_getElem hk]
        rfl
      exact s_ret (ev_op (ev_var rfl) (ev_var rfl) (rv_ixL (ex_l e1 hS) hx)) fun H2 e2 => q H2 (e1.trans e2)
    · have hk : ns.length ≤ k.toNat := by
        have z := of_decide_eq_false hb
        rw [iv_len] at z
        omega
      have hx : cellV ns k = 0 := by
        unfold cellV
        rw [List.getD_eq_getElem?_getD, List.getElem?_eq_none hk]
        rfl
      rw [hx] at q
      exact s_ret ev_c fun H2 e2 => q H2 (e1.trans e2)
theorem ev_cell {E : XK} {ta tb : TE} {σ : L2.St} {H : Hp} {a : Addr} {ns : List Int} {k : Int} (ha : Ev ta σ H (.ref a)) (hb : Ev tb σ H (.int k)) (hS : SqL K H a (iv ns)) (h0 : 0 ≤ k) :
    Ev (tCall (sp__law_cell_at K) [] E (tCons ta (tCons tb tNil))) σ H (.int (cellV ns k)) := ev_call (ea_two ha hb) fun H1 e Q q _ => ⟨a, ns, k, rfl, ex_l e hS, h0, q⟩
local macro_rules | `(tactic| walk_at "cg ev") => `(tactic| ((with_reducible apply ev_cell); (exact ev_var rfl); (walk_at "cg ev"); (walk_at "cg sq"); (walk_at "cg ar")))


/-! ## _law_row_by: some row of that many signs -/
def sp__law_row_by : Sp := fun vs H Q _ => ∃ (c n : Int), vs = [.int c, .int n] ∧ 0 ≤ n ∧ n ≤ 100000 ∧ ∀ ks, Bits ks → (ks.length : Int) = n → RetL (iv ks) H Q
theorem has__law_row_by (T : Txt K mg cs) : Has P w K mg base 1 "_law_row_by" ["_law_cell", "_law_size"] sp__law_row_by := by
  refine T.d__law_row_by.ok sc__law_row_by (fun vs H Q E h => ?_) (fun f cdv A outer s H vs Q E hr h => ?_)
  · obtain ⟨a, n, rfl, _⟩ := h
    rfl
  · obtain ⟨c, n, rfl, h0, hn, q⟩ := h
    refine ⟨_, (pss_cons (ps_set (i := 2) sc__law_row_by.nd rfl (Or.inl rfl) (pe_lst pa_nil))
      (pss_cons (ps_set (i := 3) sc__law_row_by.nd rfl (Or.inl rfl) (pe_op op_mod (pe_op op_fdiv (pv 0) pe_int) pe_int))
      (pss_cons (ps_for (passes_of rfl) rfl (pi_range1 (by rfl) T.z_range (pa_cons (pv 1) pa_nil)) (pg_name (i := 4) sc__law_row_by.nd rfl (Or.inl rfl)) (pss_cons (ps_set (i := 3) sc__law_row_by.nd rfl (Or.inl rfl) (pe_op op_mod (pe_op op_add (pe_op op_mul (pv 3) pe_int) pe_int) pe_int))
      (pss_one (ps_expr (pe_bm PySem.F.plainAttrs_list PySem.F.slot_list_append PySem.F.type_list_append mt_append (pv 2) (pa_cons (pe_op op_mod (pe_op op_fdiv (pv 3) pe_int) pe_int) pa_nil))))))
      (pss_cut (ps_if (pt_cmpR op_eqII (pe_op op_mod (pv 0) pe_int) pe_int (nomark _)) (pss_one (ps_set (i := 2) sc__law_row_by.nd rfl (Or.inl rfl) (pe_op op_rep (pe_lst (pa_cons pe_int pa_nil)) (pv 1)))) pss_nil)
      (pss_cut (ps_if (pt_cmpR op_eqII (pe_op op_mod (pv 0) pe_int) pe_int (nomark _)) (pss_one (ps_setLc (i := 2) (own := [("_law_k", 4)]) (g := gName 4) (tt := tYes) rfl sc__law_row_by.nd rfl rfl (sw_true rfl rfl rfl (by decide +kernel)) (pi_range1 (by rfl) T.z_range (pa_cons (pv 1) pa_nil)) (blkOk_by (own := [("_law_k", 4)]) (N := N__law_row_by) (sc := defScope s__law_row_by) (by decide +kernel)) (fun _ _ _ _ _ => pg_name (i := 4) sc__law_row_by.nd rfl (Or.inl rfl)) (fun _ _ _ _ _ => pts_nil) (fun _ _ _ _ _ => (pe_callTy kk_int (by rfl) T.z_int b_int (pa_cons (pe_cmpR op_eqII (pv 4) (pe_op op_mod (pe_op op_fdiv (pv 0) pe_int) (pv 1)) (nomark _)) pa_nil))))) pss_nil)
      (pss_cut (ps_if (pt_cmpR op_eqII (pe_op op_mod (pv 0) pe_int) pe_int (nomark _)) (pss_one (ps_set (i := 2) sc__law_row_by.nd rfl (Or.inl rfl) (pe_op op_rep (pe_lst (pa_cons pe_int pa_nil)) (pv 1)))) pss_nil)
      (pss_one (ps_ret (pv 2))))))))), ?_⟩
    refine q_asgL (by exact el_nilI) fun p H1 hp e1 h1 => ?_
    refine q_asg (by walk_at "cg ev") fun H2 e2 => ?_
    refine q_forR1 (by walk_at "cg ea") ⟨h0, hn⟩ (fun i σ' H' => ∃ (st : Int) (ks : List Int) (v : Option V), σ' = [some (.int c), some (.int n), some (.ref p), some (.int st), v] ∧ Bits ks ∧ ks.length = i ∧ Ex H H' ∧ H' p = some (.lst (iv ks))) ?_ ?_ ?_
    · exact fun H3 e3 => ⟨_, [], none, rfl, .nil, rfl, (e1.trans e2).trans e3, e3 _ _ (e2 _ _ h1)⟩
    · rintro i σ' H' hi ⟨st, ks, v, rfl, hk, hl, e, hp'⟩
      refine q_asg (by walk_at "cg ev") fun H3 e3 => ?_
      refine s_appI hp (e.trans e3) (e3 _ _ hp') (ev_var rfl) (by walk_at "cg ev") (by omega) fun H4 e4 _ h4 => ?_
      exact ⟨_, _, _, rfl, hk.append (.one (bit_mod _)), by rw [List.length_append, hl]; rfl, e4, h4⟩
    · rintro σ' H' ⟨st, ks, v, rfl, hk, hl, e, hp'⟩
      have M0 : ∃ (p' : Addr) (ks : List Int), [some (V.int c), some (.int n), some (.ref p), some (.int st), v] = [some (V.int c), some (.int n), some (.ref p'), some (.int st), v] ∧ Bits ks ∧ (ks.length : Int) = n ∧ Ex H H' ∧ H p' = none ∧ H' p' = some (.lst (iv ks)) := ⟨p, ks, rfl, hk, by omega, e, hp, hp'⟩
      clear hp' e hk hl hp h1 e1 e2
      have hrep : ∀ (x : Int) (p' : Addr), ((List.replicate n.toNat x).length : Int) = n := fun x _ => by rw [List.length_replicate]; omega
      refine q_cut (M := fun σ' H' => ∃ (p' : Addr) (ks : List Int), σ' = [some (V.int c), some (.int n), some (.ref p'), some (.int st), v] ∧ Bits ks ∧ (ks.length : Int) = n ∧ Ex H H' ∧ H p' = none ∧ H' p' = some (.lst (iv ks))) ?_ ?_
      · refine s_when (by walk_at "cg et") (fun _ H3 e3 => ?_) (fun _ H3 e3 => ?_)
        · obtain ⟨p', ks, _, _, _, e, _, _⟩ := M0
          exact s_asgL (by walk_at "cg el") fun p2 H4 n4 e4 h4 => ⟨p2, _, rfl, Bits.rep _ (.inl rfl), hrep 0 p2, (e.trans e3).trans e4, fresh_back (e.trans e3) n4, h4⟩
        · obtain ⟨p', ks, es, a1, a2, e, a3, a4⟩ := M0
          exact ⟨p', ks, es, a1, a2, e.trans e3, a3, e3 _ _ a4⟩
      clear M0
      rintro σ' H' ⟨p0, ks0, rfl, M0⟩
      refine q_cut (M := fun σ' H' => ∃ (p' : Addr) (ks : List Int), σ' = [some (V.int c), some (.int n), some (.ref p'), some (.int st), v] ∧ Bits ks ∧ (ks.length : Int) = n ∧ Ex H H' ∧ H p' = none ∧ H' p' = some (.lst (iv ks))) ?_ ?_
      · refine s_when (by walk_at "cg et") (fun _ H3 e3 => ?_) (fun _ H3 e3 => ?_)
        · obtain ⟨_, _, e, _, _⟩ := M0
          refine s_asgL (el_lcRg (fun i => .int (if decide ((i : Int) = c / 8 % n) then 1 else 0)) (by walk_at "cg ea") ⟨h0, by omega⟩ (fun _ => rfl) (fun i H4 e4 hi => by walk_at "cg ev")) fun p2 H4 n4 e4 h4 =>
            ⟨p2, (List.range n.toNat).map (fun (i : Nat) => if decide ((i : Int) = c / 8 % n) then (1 : Int) else 0), rfl, fun x hx => ?_, by rw [List.length_map, List.length_range]; omega, (e.trans e3).trans e4, fresh_back (e.trans e3) n4, ?_⟩
          · obtain ⟨i, _, rfl⟩ := List.mem_map.mp hx
            split
            · exact .inr rfl
            · exact .inl rfl
          · rw [h4]
            unfold iv
            rw [List.map_map]
            rfl
        · exact ⟨p0, ks0, rfl, M0.1, M0.2.1, M0.2.2.1.trans e3, M0.2.2.2.1, e3 _ _ M0.2.2.2.2⟩
      clear M0
      rintro σ' H' ⟨p0, ks0, rfl, M0⟩
      refine q_cut (M := fun σ' H' => ∃ (p' : Addr) (ks : List Int), σ' = [some (V.int c), some (.int n), some (.ref p'), some (.int st), v] ∧ Bits ks ∧ (ks.length : Int) = n ∧ Ex H H' ∧ H p' = none ∧ H' p' = some (.lst (iv ks))) ?_ ?_
      · refine s_when (by walk_at "cg et") (fun _ H3 e3 => ?_) (fun _ H3 e3 => ?_)
        · obtain ⟨_, _, e, _, _⟩ := M0
          exact s_asgL (by walk_at "cg el") fun p2 H4 n4 e4 h4 => ⟨p2, _, rfl, Bits.rep _ (.inr rfl), hrep 1 p2, (e.trans e3).trans e4, fresh_back (e.trans e3) n4, h4⟩
        · exact ⟨p0, ks0, rfl, M0.1, M0.2.1, M0.2.2.1.trans e3, M0.2.2.2.1, e3 _ _ M0.2.2.2.2⟩
      rintro σ' H' ⟨p0, ks0, rfl, hk, hl, e, hp, h⟩
      exact s_ret (ev_var rfl) fun H3 e3 => q ks0 hk hl p0 H3 hp (e.trans e3) (e3 _ _ h)


/-! ## _law_is_row: where it is one -/
def sp__law_is_row : Sp := fun vs H Q _ => ∃ (a : Addr) (ns : List Int), vs = [.ref a, .int (ns.length : Int)] ∧ H a = some (.lst (iv ns)) ∧ Bits ns ∧ ns.length ≤ 100000 ∧ RetV (.bl true) H Q
theorem has__law_is_row (T : Txt K mg cs) : Has P w K mg base 1 "_law_is_row" ["_law_found", "_law_size"] sp__law_is_row := by
  refine T.d__law_is_row.ok sc__law_is_row (fun vs H Q E h => ?_) (fun f cdv A outer s H vs Q E hr h => ?_)
  · obtain ⟨a, n, rfl, _⟩ := h
    rfl
  · obtain ⟨a, ns, rfl, ha, hb, hl, q⟩ := h
    refine ⟨_, (pss_cons (ps_if (PW.pt (pw_or (pt_not (pt_val (pe_callB (kk_isi K) (by rfl) T.z_isinstance b_isinstance (pa_cons (pv 0) (pa_cons (pe_bltn (v := .ty "list") (u := .type "list") (by rfl) T.z_list b_list rfl) pa_nil))))) (pw_or1 (pt_cmpR op_neII (pe_callB (kk_len K) (by rfl) T.z_len b_len (pa_cons (pv 0) pa_nil)) (pv 1) (nomark _))))) (pss_one (ps_ret pe_bl)) pss_nil)
      (pss_one (ps_ret (pe_callB (kk_all K rfl) (by rfl) T.z_all b_all (pa_cons (pe_lc (own := [("_law_x", 2)]) (g := gName 2) (tt := tYes) rfl sc__law_is_row.nd (pi_list (pv 0)) (blkOk_by (own := [("_law_x", 2)]) (N := N__law_is_row) (sc := defScope s__law_is_row) (by decide +kernel)) (fun _ _ _ _ _ => pg_name (i := 2) sc__law_is_row.nd rfl (Or.inl rfl)) (fun _ _ _ _ _ => pts_nil) (fun _ _ _ _ _ => (pe_and (pe_callB (kk_isi K) (by rfl) T.z_isinstance b_isinstance (pa_cons (pv 2) (pa_cons (pe_bltn (v := .ty "int") (u := .type "int") (by rfl) T.z_int b_int rfl) pa_nil))) (pe_and (pe_not (pe_callB (kk_isi K) (by rfl) T.z_isinstance b_isinstance (pa_cons (pv 2) (pa_cons (pe_bltn (v := .ty "bool") (u := .type "bool") (by rfl) T.z_bool b_bool rfl) pa_nil)))) (pe_one (pe_chain op_le op_le pe_int (pv 2) pe_int)))))) pa_nil))))), ?_⟩
    refine q_when (et_or (by walk_at "cg et") (fun _ => by walk_at "cg et")) (fun hb H1 e1 => ?_) (fun _ H1 e1 => ?_)
    · simp at hb
    · refine s_ret (ev_allR (bs := (iv ns).map fun _ => true) (er_L (el_is (el_lcMap (fun _ => .bl true) (by walk_at "cg er") (by rw [iv_len]; omega) (fun _ => rfl) (fun i x H2 e2 hx => ?_)) ?_))) fun H2 e2 => ?_
      · obtain ⟨n, hn, rfl⟩ := iv_at hx
        have hn01 : (decide ((0 : Int) ≤ n) && decide (n ≤ 1)) = true := by
          rcases hb.get hn with rfl | rfl <;> rfl
        refine ev_is (ev_andV (by walk_at "cg ev") (fun _ => ev_andV (by walk_at "cg ev") (fun _ => ev_one (by walk_at "cg ev")))) ?_
        rw [hn01]
        rfl
      · rw [List.map_map]
        unfold iv
        rw [List.map_map, List.map_map]
        rfl
      · have z : ((iv ns).map fun _ => true).all id = true := by simp
        rw [z]
        exact q H2 (e1.trans e2)
theorem et_is_row {E : XK} {ta tb : TE} {σ : L2.St} {H : Hp} {ns : List Int} (ha : EvR ta σ H (iv ns)) (hb : Ev tb σ H (.int (ns.length : Int))) (h1 : Bits ns) (h2 : ns.length ≤ 100000) :
    Ev (tCall sp__law_is_row [] E (tCons ta (tCons tb tNil))) σ H (.bl true) := fun H1 e Q q => ha H1 e _ fun a H2 e2 h2' => hb H2 (e.trans e2) _ fun H3 e3 => ⟨a, ns, rfl, e3 _ _ h2', h1, h2, fun H4 e4 => q H4 ((e2.trans e3).trans e4)⟩


/-! ## is_sign, need_row, where a row stands -/
def sp_is_sign : Sp := fun vs H Q _ => ∃ (n : Int), vs = [.int n] ∧ (n = 0 ∨ n = 1) ∧ RetV (.bl true) H Q
theorem has_is_sign (T : Txt K mg cs) : Has P w K mg base 1 "is_sign" ["value"] sp_is_sign := by
  refine T.d_is_sign.ok sc_is_sign (fun vs H Q E h => ?_) (fun f cdv A outer s H vs Q E hr h => ?_)
  · obtain ⟨n, rfl, _⟩ := h
    rfl
  · obtain ⟨n, rfl, hn, q⟩ := h
    refine ⟨_, (pss_one (ps_ret (pe_and (pe_callB (kk_isi K) (by rfl) T.z_isinstance b_isinstance (pa_cons (pv 0) (pa_cons (pe_bltn (v := .ty "int") (u := .type "int") (by rfl) T.z_int b_int rfl) pa_nil))) (pe_and (pe_not (pe_callB (kk_isi K) (by rfl) T.z_isinstance b_isinstance (pa_cons (pv 0) (pa_cons (pe_bltn (v := .ty "bool") (u := .type "bool") (by rfl) T.z_bool b_bool rfl) pa_nil)))) (pe_one (pe_cmpR (kk_in K) (pv 0) (pe_tup (pa_cons pe_int (pa_cons pe_int pa_nil))) rfl)))))), ?_⟩
    refine s_ret (ev_is (ev_andV (by walk_at "cg ev") (fun _ => ev_andV (by walk_at "cg ev") (fun _ => ev_one (ev_inU (by walk_at "cg ev") (eu_tup (by walk_at "cg ea") (by decide)) rfl rfl)))) ?_) q
    rcases hn with rfl | rfl <;> rfl
def sp_need_row : Sp := fun vs H Q _ => ∃ (a : Addr) (ns : List Int), vs = [.ref a] ∧ H a = some (.lst (iv ns)) ∧ Bits ns ∧ RetV .non H Q
theorem has_need_row (T : Txt K mg cs) : Has P w K mg base 2 "need_row" ["row"] sp_need_row := by
  refine T.d_need_row.ok sc_need_row (fun vs H Q E h => ?_) (fun f cdv A outer s H vs Q E hr h => ?_)
  · obtain ⟨a, n, rfl, _⟩ := h
    rfl
  · obtain ⟨a, ns, rfl, ha, hb, q⟩ := h
    refine ⟨_, (pss_cons (ps_if (pt_not (pt_val (pe_callB (kk_isi K) (by rfl) T.z_isinstance b_isinstance (pa_cons (pv 0) (pa_cons (pe_bltn (v := .ty "list") (u := .type "list") (by rfl) T.z_list b_list rfl) pa_nil))))) (pss_one ps_never) pss_nil)
      (pss_one (ps_for (passes_of rfl) rfl (pi_list (pv 0)) (pg_name (i := 1) sc_need_row.nd rfl (Or.inl rfl)) (pss_one (ps_if (pt_not (pt_val (pe_callH (has_is_sign T) (hr.mono (by decide)) (passes_call (takes_of rfl rfl rfl rfl) (fun _ _ _ _ h => h)) (pa_cons (pv 1) pa_nil)))) (pss_one ps_never) pss_nil))))), ?_⟩
    refine q_when (by walk_at "cg et") (fun hb H1 e1 => ?_) (fun _ H1 e1 => ?_)
    · simp at hb
    · refine s_forLn (ev_var rfl) (by walk_at "cg sq") (fun i σ' H' => Ex H H' ∧ ∃ v, σ' = [some (.ref a), v]) (fun H2 e2 => ⟨e1.trans e2, none, rfl⟩) (fun i σ' H' _ h => sq_of (h.1 _ _ ha)) (fun i x σ' H' hx h => ?_) (fun σ' H' h => q _ h.1)
      obtain ⟨e, v, rfl⟩ := h
      obtain ⟨n, hn, rfl⟩ := iv_at hx
      refine s_when (et_not (et_B (ev_call (by walk_at "cg ea") fun H1 e1 Q q _ => ⟨n, rfl, hb.get hn, q⟩))) (fun hb H2 e2 => ?_) (fun _ H2 e2 => ⟨e.trans e2, _, rfl⟩)
      simp at hb


/-! ## one step of the rest -/
def redR (xs ds : List Int) : List Int := if xs.headD 0 = 0 then xs.tail else xorR xs.tail ds.tail
theorem redR_len {xs ds : List Int} (h : xs.length = ds.length) : (redR xs ds).length = xs.length - 1 := by
  unfold redR
  split
  · exact List.length_tail
  · unfold xorR
    rw [List.length_zipWith, List.length_tail, List.length_tail, h]
    exact Nat.min_self _
theorem Bits.tail {xs : List Int} (h : Bits xs) : Bits xs.tail := fun x hx => h x (List.mem_of_mem_tail hx)
theorem redR_bits {xs ds : List Int} (h : Bits xs) (k : Bits ds) : Bits (redR xs ds) := by
  unfold redR
  split
  · exact h.tail
  · exact xorR_bits h.tail k.tail
theorem head_at {xs : List Int} (h : 0 < xs.length) : xs[0]? = some (xs.headD 0) := by
  cases xs with
  | nil => exact absurd h (Nat.lt_irrefl _)
  | cons x r => rfl
def sp_reduced : Sp := fun vs H Q _ => ∃ (a b : Addr) (xs ds : List Int), vs = [.ref a, .ref b] ∧ H a = some (.lst (iv xs)) ∧ H b = some (.lst (iv ds)) ∧ Bits xs ∧ Bits ds ∧ xs.length = ds.length ∧ 0 < xs.length ∧ xs.length ≤ 10000 ∧ RetL (iv (redR xs ds)) H Q
theorem has_reduced (T : Txt K mg cs) : Has P w K mg base 1 "reduced" ["row", "divisor"] sp_reduced := by
  refine T.d_reduced.ok sc_reduced (fun vs H Q E h => ?_) (fun f cdv A outer s H vs Q E hr h => ?_)
  · obtain ⟨a, b, xs, ds, rfl, _⟩ := h
    rfl
  · obtain ⟨a, b, xs, ds, rfl, ha, hb, bx, bd, hl, h0, hz, q⟩ := h
    refine ⟨_, (pss_cons (ps_if (pt_cmpR op_eqII (pe_ix (kk_ixl K) (pv 0) pe_int (fun _ _ => rfl)) pe_int (nomark _)) (pss_one (ps_ret (pe_slice (kk_sl K) (pv 0) (po_some pe_int) po_none))) pss_nil)
      (pss_one (ps_ret (pe_lc (own := [("a", 2), ("b", 3)]) (g := gTup K 2 (gCons (gName 2) (gCons (gName 3) gNil))) (tt := tYes) rfl sc_reduced.nd (pi_zip (by rfl) T.z_zip (pa_cons (pe_slice (kk_sl K) (pv 0) (po_some pe_int) po_none) (pa_cons (pe_slice (kk_sl K) (pv 1) (po_some pe_int) po_none) pa_nil))) (blkOk_by (own := [("a", 2), ("b", 3)]) (N := N_reduced) (sc := defScope s_reduced) (by decide +kernel)) (fun _ _ _ _ _ => pg_tup rfl (pgs_cons (pg_name (i := 2) sc_reduced.nd rfl (Or.inl rfl)) (pgs_cons (pg_name (i := 3) sc_reduced.nd rfl (Or.inl rfl)) pgs_nil))) (fun _ _ _ _ _ => pts_nil) (fun _ _ _ _ _ => (pe_op op_xor (pv 2) (pv 3))))))), ?_⟩
    have g := head_at h0
    refine q_when (et_test (ev_i0 (ev_ixI (er_var rfl ha) ev_c (atI_nat (j := 0) g)) ev_c)) (fun hc H1 e1 => ?_) (fun hc H1 e1 => ?_)
    · have hh : xs.headD 0 = 0 := of_decide_eq_true hc
      refine s_retL (el_is (el_slFromI (xs := xs) (n := 1) (by walk_at "cg er") ev_c (by decide)) ?_) fun p H2 n2 e2 h2 => q p H2 (fresh_back e1 n2) (e1.trans e2) h2
      unfold redR
      rw [if_pos hh]
      exact congrArg iv List.drop_one
    · have hh : ¬ xs.headD 0 = 0 := of_decide_eq_false hc
      refine s_retL (el_is (el_lcXor (xs := xs.drop 1) (ys := ds.drop 1) (er_L (el_slFromI (n := 1) (by walk_at "cg er") ev_c (by decide))) (er_L (el_slFromI (n := 1) (by walk_at "cg er") ev_c (by decide))) (by rw [List.length_drop]; omega) (fun _ _ => rfl) (fun x y H1 => by walk_at "cg ev")) ?_) fun p H2 n2 e2 h2 => q p H2 (fresh_back e1 n2) (e1.trans e2) h2
      unfold redR
      rw [if_neg hh, List.drop_one, List.drop_one]


/-! ## the parting of a row: what quotient and rest make together -/
def pstep (ds : List Int) (st : List Int × List Int) (s : Int) : List Int × List Int := (st.1 ++ [(st.2 ++ [s]).headD 0], redR (st.2 ++ [s]) ds)
def prun (ds xs : List Int) : List Int × List Int := xs.foldl (pstep ds) ([], List.replicate (ds.length - 1) 0)
theorem prun_snoc (ds xs : List Int) (s : Int) : prun ds (xs ++ [s]) = pstep ds (prun ds xs) s := by
  unfold prun
  rw [List.foldl_append]
  rfl
theorem getD_left {xs ys : List Int} {k : Nat} (h : k < xs.length) : (xs ++ ys).getD k 0 = xs.getD k 0 := by
  rw [List.getD_eq_getElem?_getD, List.getD_eq_getElem?_getD, List.getElem?_append_left h]
/-- rows by their last sign -/
theorem snoc_ind {C : List Int → Prop} (h0 : C []) (h1 : ∀ xs x, C xs → C (xs ++ [x])) : ∀ xs, C xs := fun xs => by
  have z : ∀ n (xs : List Int), xs.length = n → C xs := by
    intro n
    induction n with
    | zero =>
      intro xs h
      rw [List.length_eq_zero_iff.mp h]
      exact h0
    | succ n ih =>
      intro xs h
      have ne : xs ≠ [] := fun e => by rw [e] at h; cases h
      rw [← List.dropLast_concat_getLast ne]
      exact h1 _ _ (ih _ (by rw [List.length_dropLast, h]; rfl))
  exact z _ xs rfl
theorem prun_len {ds : List Int} (h : 0 < ds.length) (xs : List Int) : (prun ds xs).1.length = xs.length ∧ (prun ds xs).2.length = ds.length - 1 := by
  induction xs using snoc_ind with
  | h0 => exact ⟨rfl, List.length_replicate⟩
  | h1 xs x ih =>
    rw [prun_snoc]
    refine ⟨by show (_ ++ [_]).length = _; rw [List.length_append, List.length_append, ih.1]; rfl, ?_⟩
    show (redR _ ds).length = _
    rw [redR_len (by rw [List.length_append, ih.2]; show _ + 1 = _; omega), List.length_append, ih.2]
    rfl
theorem headD_bit {xs : List Int} (h : Bits xs) : xs.headD 0 = 0 ∨ xs.headD 0 = 1 := by
  cases xs with
  | nil => exact .inl rfl
  | cons x r => exact h x List.mem_cons_self
theorem prun_bits {ds : List Int} (hd : Bits ds) {xs : List Int} (hx : Bits xs) : Bits (prun ds xs).1 ∧ Bits (prun ds xs).2 := by
  induction xs using snoc_ind with
  | h0 => exact ⟨.nil, .rep _ (.inl rfl)⟩
  | h1 xs x ih =>
    have b1 : Bits xs := fun y hy => hx y (List.mem_append_left _ hy)
    have b2 : x = 0 ∨ x = 1 := hx x (List.mem_append_right _ List.mem_cons_self)
    rw [prun_snoc]
    have bl : Bits ((prun ds xs).2 ++ [x]) := (ih b1).2.append (.one b2)
    exact ⟨(ih b1).1.append (.one (headD_bit bl)), redR_bits bl hd⟩
theorem sm_head {hs : List Int} {h : Int} (ds : List Int) (s : Nat) : ∀ t, t ≤ hs.length → sm (hs ++ [h]) ds s t = sm hs ds s t
  | 0, _ => rfl
  | t + 1, ht => by
    show sm (hs ++ [h]) ds s t + tm (hs ++ [h]) ds s t = sm hs ds s t + tm hs ds s t
    rw [sm_head ds s t (by omega)]
    unfold tm
    rw [getD_left (by omega)]
theorem sm_none {hs ds : List Int} {s : Nat} : ∀ t, (∀ k, k < t → ¬ (k ≤ s ∧ s - k < ds.length)) → sm hs ds s t = 0
  | 0, _ => rfl
  | t + 1, h => by
    show sm hs ds s t + tm hs ds s t = 0
    rw [sm_none t fun k hk => h k (by omega)]
    unfold tm
    rw [if_neg (h t (by omega))]
    rfl
theorem getD_none {xs : List Int} {k : Nat} (h : xs.length ≤ k) : xs.getD k 0 = 0 := by
  rw [List.getD_eq_getElem?_getD, List.getElem?_eq_none h]
  rfl
/-- one step, sign by sign -/
theorem step_at {ls ds : List Int} (hl : ls.length = ds.length) (h0 : ds.headD 0 = 1) (bl : Bits ls) (bd : Bits ds) (hp : 0 < ls.length) (j : Nat) (hj : j < ls.length) :
    (ls.getD j 0) % 2 = (ls.headD 0 * ds.getD j 0 + if 1 ≤ j then (redR ls ds).getD (j - 1) 0 else 0) % 2 := by
  cases ls with
  | nil => cases hp
  | cons l r =>
    cases ds with
    | nil => cases hl
    | cons d e =>
      have d1 : d = 1 := h0
      subst d1
      cases j with
      | zero => simp
      | succ j =>
        rw [if_pos (by omega)]
        show r.getD j 0 % 2 = (l * e.getD j 0 + (redR (l :: r) (1 :: e)).getD j 0) % 2
        have hj' : j < r.length := by simpa using hj
        have he : r.length = e.length := by simpa using hl
        unfold redR
        rcases bl l List.mem_cons_self with rfl | rfl
        · simp
        · rw [if_neg (show ¬ ((1 : Int) :: r).headD 0 = 0 from (by decide : ¬ (1 : Int) = 0))]
          have b1 : Bits r := bl.tail
          have b2 : Bits e := bd.tail
          have g : (xorR r e).getD j 0 = (r.getD j 0 + e.getD j 0) % 2 := by
            unfold xorR
            rw [List.getD_eq_getElem?_getD, List.getElem?_zipWith, List.getElem?_eq_getElem hj', List.getElem?_eq_getElem (show j < e.length by omega), List.getD_eq_getElem?_getD, List.getElem?_eq_getElem hj', List.getD_eq_getElem?_getD, List.getElem?_eq_getElem (show j < e.length by omega)]
            exact xor_bit (b1 _ (List.getElem_mem _)) (b2 _ (List.getElem_mem _))
          show _ = (1 * e.getD j 0 + (xorR r e).getD j 0) % 2
          rw [g]
          omega
/-- the row with width noughts ahead -/
def ahead (w : Nat) (xs : List Int) (s : Nat) : Int := if s < w then 0 else xs.getD (s - w) 0
theorem prun_sum {ds : List Int} (h0 : ds.headD 0 = 1) (bd : Bits ds) : ∀ xs, Bits xs → ∀ s, s < xs.length + (ds.length - 1) →
    ahead (ds.length - 1) xs s % 2 = (sm (prun ds xs).1 ds s xs.length + if xs.length ≤ s then (prun ds xs).2.getD (s - xs.length) 0 else 0) % 2 := by
  have hp : 0 < ds.length := by
    cases ds with
    | nil => cases h0
    | cons d e => exact Nat.succ_pos _
  intro xs
  induction xs using snoc_ind with
  | h0 =>
    intro _ s hs
    have hs' : s < ds.length - 1 := by simpa using hs
    show ahead _ [] s % 2 = (0 + if 0 ≤ s then (List.replicate (ds.length - 1) (0 : Int)).getD (s - 0) 0 else 0) % 2
    unfold ahead
    rw [if_pos hs', if_pos (Nat.zero_le _), List.getD_eq_getElem?_getD, List.getElem?_replicate, if_pos (by omega)]
    rfl
  | h1 xs x ih =>
    intro bx s hs
    have b1 : Bits xs := fun y hy => bx y (List.mem_append_left _ hy)
    have b2 : x = 0 ∨ x = 1 := bx x (List.mem_append_right _ List.mem_cons_self)
    have L := prun_len hp xs
    have B := prun_bits bd b1
    rw [prun_snoc]
    generalize hls : (prun ds xs).2 ++ [x] = ls
    have hlen : ls.length = ds.length := by
      rw [← hls, List.length_append, L.2]
      show _ + 1 = _
      omega
    have bl : Bits ls := by
      rw [← hls]
      exact B.2.append (.one b2)
    have e1 : (pstep ds (prun ds xs) x).1 = (prun ds xs).1 ++ [ls.headD 0] := by rw [← hls]; rfl
    have e2 : (pstep ds (prun ds xs) x).2 = redR ls ds := by rw [← hls]; rfl
    rw [e1, e2]
    have hn : (xs ++ [x]).length = xs.length + 1 := by rw [List.length_append]; rfl
    rw [hn] at hs ⊢
    show _ = (sm _ ds s xs.length + tm _ ds s xs.length + _) % 2
    rw [sm_head ds s xs.length (by rw [L.1]; exact Nat.le_refl _)]
    have et : ((prun ds xs).1 ++ [ls.headD 0]).getD xs.length 0 = ls.headD 0 := by
      rw [List.getD_eq_getElem?_getD, List.getElem?_append_right (by rw [L.1]; exact Nat.le_refl _), L.1, Nat.sub_self]
      rfl
    unfold tm
    rw [et]
    by_cases c : xs.length ≤ s
    · -- the window
      have key : ahead (ds.length - 1) (xs ++ [x]) s % 2 = (sm (prun ds xs).1 ds s xs.length + ls.getD (s - xs.length) 0) % 2 := by
        by_cases c2 : s < xs.length + (ds.length - 1)
        · have := ih b1 s c2
          rw [if_pos c] at this
          have ea : ahead (ds.length - 1) (xs ++ [x]) s = ahead (ds.length - 1) xs s := by
            unfold ahead
            split
            · rfl
            · rw [getD_left (by omega)]
          have el : ls.getD (s - xs.length) 0 = (prun ds xs).2.getD (s - xs.length) 0 := by
            rw [← hls, getD_left (by rw [L.2]; omega)]
          rw [ea, el, this]
        · have es : s = xs.length + (ds.length - 1) := by omega
          have z : sm (prun ds xs).1 ds s xs.length = 0 := sm_none _ fun k hk => by omega
          have el : ls.getD (s - xs.length) 0 = x := by
            rw [← hls, List.getD_eq_getElem?_getD, List.getElem?_append_right (by rw [L.2]; omega), L.2, show s - xs.length - (ds.length - 1) = 0 by omega]
            rfl
          have ea : ahead (ds.length - 1) (xs ++ [x]) s = x := by
            unfold ahead
            rw [if_neg (by omega), List.getD_eq_getElem?_getD, List.getElem?_append_right (by omega), show s - (ds.length - 1) - xs.length = 0 by omega]
            rfl
          rw [z, el, ea, Int.zero_add]
      have st := step_at hlen h0 bl bd (by omega) (s - xs.length) (by omega)
      rw [key, if_pos ⟨c, by omega⟩]
      by_cases c3 : xs.length + 1 ≤ s
      · rw [if_pos (by omega), show s - xs.length - 1 = s - (xs.length + 1) by omega] at st
        rw [if_pos c3]
        omega
      · rw [if_neg (by omega)] at st
        rw [if_neg c3]
        omega
    · rw [if_neg (by omega), if_neg (by omega)]
      have := ih b1 s (by omega)
      rw [if_neg c] at this
      have ea : ahead (ds.length - 1) (xs ++ [x]) s = ahead (ds.length - 1) xs s := by
        unfold ahead
        split
        · rfl
        · rw [getD_left (by omega)]
      rw [ea, this]
      simp
/-- the first heads are noughts -/
theorem heads_zero {ds : List Int} (h0 : ds.headD 0 = 1) (bd : Bits ds) {xs : List Int} (bx : Bits xs) : ∀ n k, k < n → k < ds.length - 1 → k < xs.length → (prun ds xs).1.getD k 0 = 0 := by
  intro n
  induction n with
  | zero => intro k h; cases h
  | succ n ih =>
    intro s hk hw hx
    by_cases hlt : s < n
    · exact ih s hlt hw hx
    have S := prun_sum h0 bd xs bx s (by omega)
    unfold ahead at S
    rw [if_pos hw, if_neg (by omega), Int.add_zero] at S
    have z : ∀ t, sm (prun ds xs).1 ds s t = if s < t then (prun ds xs).1.getD s 0 else 0 := by
      intro t
      induction t with
      | zero => rfl
      | succ t iht =>
        show sm (prun ds xs).1 ds s t + tm (prun ds xs).1 ds s t = _
        rw [iht]
        unfold tm
        by_cases c : t ≤ s ∧ s - t < ds.length
        · rw [if_pos c]
          by_cases c2 : t = s
          · subst c2
            rw [if_neg (by omega), if_pos (by omega), Nat.sub_self]
            have : ds.getD 0 0 = 1 := by
              cases ds with
              | nil => cases h0
              | cons d e => exact h0
            rw [this]
            omega
          · rw [ih t (by omega) (by omega) (by omega), if_neg (by omega), if_neg (by omega)]
            omega
        · rw [if_neg c]
          by_cases c2 : t = s
          · subst c2
            omega
          · by_cases c3 : s < t
            · rw [if_pos c3, if_pos (by omega)]
              omega
            · rw [if_neg c3, if_neg (by omega)]
              rfl
    rw [z, if_pos hx] at S
    rcases bit_getD (prun_bits bd bx).1 s with e | e
    · exact e
    · rw [e] at S
      exact absurd S (by decide)
theorem sm_shift {hs ds : List Int} {w : Nat} (h : ∀ k, k < w → hs.getD k 0 = 0) (t : Nat) : ∀ m, sm hs ds (t + w) (w + m) = sm (hs.drop w) ds t m
  | 0 => by
    have z : ∀ n, n ≤ w → sm hs ds (t + w) n = 0 := by
      intro n
      induction n with
      | zero => intro _; rfl
      | succ n ih =>
        intro hn
        show sm hs ds (t + w) n + tm hs ds (t + w) n = 0
        rw [ih (by omega)]
        unfold tm
        rw [h n (by omega)]
        split <;> omega
    exact z w (Nat.le_refl _)
  | m + 1 => by
    show sm hs ds (t + w) (w + m) + tm hs ds (t + w) (w + m) = sm (hs.drop w) ds t m + tm (hs.drop w) ds t m
    rw [sm_shift h t m]
    congr 1
    unfold tm
    have g : (hs.drop w).getD m 0 = hs.getD (w + m) 0 := by
      rw [List.getD_eq_getElem?_getD, List.getD_eq_getElem?_getD, List.getElem?_drop]
    rw [g, show t + w - (w + m) = t - m by omega]
    have z : (w + m ≤ t + w ∧ t - m < ds.length) ↔ (m ≤ t ∧ t - m < ds.length) := by omega
    simp only [z]
/-- quotient times divisor, and the rest, make the row -/
theorem parted_makes {ds : List Int} (h0 : ds.headD 0 = 1) (bd : Bits ds) {xs : List Int} (bx : Bits xs) (t : Nat) (ht : t < max xs.length (ds.length - 1)) :
    ((if max xs.length (ds.length - 1) - (ds.length - 1) ≤ t then (prun ds xs).2.getD (t - (max xs.length (ds.length - 1) - (ds.length - 1))) 0 else 0) + sm ((prun ds xs).1.drop (ds.length - 1)) ds t ((prun ds xs).1.drop (ds.length - 1)).length) % 2 = (longer xs (max xs.length (ds.length - 1))).getD t 0 := by
  have hp : 0 < ds.length := by
    cases ds with
    | nil => cases h0
    | cons d e => exact Nat.succ_pos _
  have L := prun_len hp xs
  have fin : ∀ z : Int, (z = 0 ∨ z = 1) → z % 2 = z := fun z h => by omega
  by_cases c : ds.length - 1 ≤ xs.length
  · rw [Nat.max_eq_left c]
    have S := prun_sum h0 bd xs bx (t + (ds.length - 1)) (by omega)
    have e : ahead (ds.length - 1) xs (t + (ds.length - 1)) = xs.getD t 0 := by
      unfold ahead
      rw [if_neg (by omega), Nat.add_sub_cancel]
    have sh := sm_shift (hs := (prun ds xs).1) (ds := ds) (w := ds.length - 1) (fun k hk => heads_zero h0 bd bx (k + 1) k (by omega) hk (by omega)) t (xs.length - (ds.length - 1))
    rw [show ds.length - 1 + (xs.length - (ds.length - 1)) = xs.length by omega] at sh
    rw [List.length_drop, L.1, ← sh]
    have lg : longer xs xs.length = xs := by
      unfold longer
      rw [Nat.sub_self]
      rfl
    rw [lg]
    rw [e, fin _ (bit_getD bx t)] at S
    rw [S]
    by_cases c2 : xs.length - (ds.length - 1) ≤ t
    · rw [if_pos c2, if_pos (by omega), show t + (ds.length - 1) - xs.length = t - (xs.length - (ds.length - 1)) by omega]
      omega
    · rw [if_neg c2, if_neg (by omega)]
      omega
  · have c' : xs.length ≤ ds.length - 1 := by omega
    rw [Nat.max_eq_right c', Nat.sub_self, if_pos (Nat.zero_le _), Nat.sub_zero]
    have hd : ((prun ds xs).1.drop (ds.length - 1)) = [] := List.drop_of_length_le (by rw [L.1]; omega)
    rw [hd]
    show (_ + 0) % 2 = _
    have S := prun_sum h0 bd xs bx (t + xs.length) (by omega)
    rw [if_pos (by omega), Nat.add_sub_cancel] at S
    have z : sm (prun ds xs).1 ds (t + xs.length) xs.length = 0 := by
      have zz : ∀ n, n ≤ xs.length → sm (prun ds xs).1 ds (t + xs.length) n = 0 := by
        intro n
        induction n with
        | zero => intro _; rfl
        | succ n ih =>
          intro hn
          show sm _ ds _ n + tm _ ds _ n = 0
          rw [ih (by omega)]
          unfold tm
          rw [heads_zero h0 bd bx (n + 1) n (by omega) (by omega) (by omega)]
          split <;> omega
      exact zz _ (Nat.le_refl _)
    rw [z] at S
    have e : ahead (ds.length - 1) xs (t + xs.length) = (longer xs (ds.length - 1)).getD t 0 := by
      unfold ahead longer
      by_cases c2 : t + xs.length < ds.length - 1
      · rw [if_pos c2, getD_left (by rw [List.length_replicate]; omega), List.getD_eq_getElem?_getD, List.getElem?_replicate, if_pos (by omega)]
        rfl
      · rw [if_neg c2, List.getD_eq_getElem?_getD, List.getD_eq_getElem?_getD, List.getElem?_append_right (by rw [List.length_replicate]; omega), List.length_replicate, show t + xs.length - (ds.length - 1) = t - (ds.length - 1 - xs.length) by omega]
    rw [e, fin _ (bit_getD (longer_bits bx _) t)] at S
    rw [S]
    congr 1
    omega


/-! ## noughts behind a row: the steps, and the reach -/
structure IsDiv (ds : List Int) : Prop where
  bits : Bits ds
  two : 2 ≤ ds.length
  top : ds.length ≤ 13
  head : ds.headD 0 = 1
  last : ds.getD (ds.length - 1) 0 = 1
def nxt (ds R : List Int) : List Int := redR (R ++ [0]) ds
def its (ds : List Int) : Nat → List Int → List Int
  | 0, R => R
  | n + 1, R => nxt ds (its ds n R)
theorem its_add (ds R : List Int) (m : Nat) : ∀ n, its ds (n + m) R = its ds n (its ds m R)
  | 0 => by rw [Nat.zero_add]; rfl
  | n + 1 => by
    rw [show n + 1 + m = (n + m) + 1 by omega]
    show nxt ds _ = nxt ds _
    rw [its_add ds R m n]
def RowOf (w : Nat) (R : List Int) : Prop := Bits R ∧ R.length = w
theorem nxt_row {ds R : List Int} (D : IsDiv ds) (h : RowOf (ds.length - 1) R) : RowOf (ds.length - 1) (nxt ds R) := by
  have h2 := D.two
  have hl : (R ++ [0]).length = ds.length := by
    rw [List.length_append, h.2]
    show _ + 1 = _
    omega
  refine ⟨redR_bits (h.1.append (.one (.inl rfl))) D.bits, ?_⟩
  show (redR _ _).length = _
  rw [redR_len hl, hl]
theorem its_row {ds R : List Int} (D : IsDiv ds) (h : RowOf (ds.length - 1) R) : ∀ n, RowOf (ds.length - 1) (its ds n R)
  | 0 => h
  | n + 1 => nxt_row D (its_row D h n)
/-- the signs of the next rest -/
theorem nxt_at {ds R : List Int} (D : IsDiv ds) (h : RowOf (ds.length - 1) R) {j : Nat} (hj : j < ds.length - 1) : (nxt ds R).getD j 0 = ((R ++ [0]).getD (j + 1) 0 + R.headD 0 * ds.getD (j + 1) 0) % 2 := by
  have h2 := D.two
  have hl : (R ++ [0]).length = ds.length := by
    rw [List.length_append, h.2]
    show _ + 1 = _
    omega
  have bl : Bits (R ++ [0]) := h.1.append (.one (.inl rfl))
  have st := step_at hl D.head bl D.bits (by omega) (j + 1) (by omega)
  have hh : (R ++ [0]).headD 0 = R.headD 0 := by
    cases R with
    | nil => rfl
    | cons x r => rfl
  rw [if_pos (by omega), Nat.add_sub_cancel, hh] at st
  have b1 := bit_getD (nxt_row D h).1 j
  show (redR (R ++ [0]) ds).getD j 0 = _
  have b1' : (redR (R ++ [0]) ds).getD j 0 = 0 ∨ (redR (R ++ [0]) ds).getD j 0 = 1 := b1
  have b2 := bit_getD bl (j + 1)
  have b3 := bit_getD D.bits (j + 1)
  have b4 := headD_bit h.1
  rcases b1' with a | a <;> rcases b2 with b | b <;> rcases b3 with c | c <;> rcases b4 with d | d <;> rw [a, b, c, d] at st ⊢ <;> first | rfl | exact absurd st (by decide)
theorem row_ext {w : Nat} {R S : List Int} (h : RowOf w R) (k : RowOf w S) (e : ∀ j, j < w → R.getD j 0 = S.getD j 0) : R = S := by
  apply List.ext_getElem?
  intro j
  by_cases hj : j < w
  · have := e j hj
    rw [List.getD_eq_getElem?_getD, List.getD_eq_getElem?_getD, List.getElem?_eq_getElem (by rw [h.2]; exact hj), List.getElem?_eq_getElem (by rw [k.2]; exact hj)] at this
    rw [List.getElem?_eq_getElem (by rw [h.2]; exact hj), List.getElem?_eq_getElem (by rw [k.2]; exact hj)]
    exact congrArg some this
  · rw [List.getElem?_eq_none (by rw [h.2]; omega), List.getElem?_eq_none (by rw [k.2]; omega)]
theorem headD_getD (R : List Int) : R.headD 0 = R.getD 0 0 := by
  cases R with
  | nil => rfl
  | cons x r => rfl
theorem nxt_inj {ds R S : List Int} (D : IsDiv ds) (h : RowOf (ds.length - 1) R) (k : RowOf (ds.length - 1) S) (e : nxt ds R = nxt ds S) : R = S := by
  have h2 := D.two
  have hd : R.headD 0 = S.headD 0 := by
    have a := nxt_at D h (j := ds.length - 2) (by omega)
    have b := nxt_at D k (j := ds.length - 2) (by omega)
    rw [e, b] at a
    have z1 : (R ++ [0]).getD (ds.length - 2 + 1) 0 = 0 := by
      rw [List.getD_eq_getElem?_getD, List.getElem?_append_right (by rw [h.2]; omega), h.2, show ds.length - 2 + 1 - (ds.length - 1) = 0 by omega]
      rfl
    have z2 : (S ++ [0]).getD (ds.length - 2 + 1) 0 = 0 := by
      rw [List.getD_eq_getElem?_getD, List.getElem?_append_right (by rw [k.2]; omega), k.2, show ds.length - 2 + 1 - (ds.length - 1) = 0 by omega]
      rfl
    have z3 : ds.getD (ds.length - 2 + 1) 0 = 1 := by
      rw [show ds.length - 2 + 1 = ds.length - 1 by omega]
      exact D.last
    rw [z1, z2, z3] at a
    have b1 := headD_bit h.1
    have b2 := headD_bit k.1
    omega
  refine row_ext h k fun j hj => ?_
  cases j with
  | zero => rw [← headD_getD, ← headD_getD, hd]
  | succ j =>
    have a := nxt_at D h (j := j) (by omega)
    have b := nxt_at D k (j := j) (by omega)
    rw [e, b, hd, getD_left (by rw [k.2]; exact hj), getD_left (by rw [h.2]; exact hj)] at a
    have b1 := bit_getD h.1 (j + 1)
    have b2 := bit_getD k.1 (j + 1)
    omega
theorem its_inj {ds R S : List Int} (D : IsDiv ds) (h : RowOf (ds.length - 1) R) (k : RowOf (ds.length - 1) S) : ∀ n, its ds n R = its ds n S → R = S
  | 0, e => e
  | n + 1, e => its_inj D h k n (nxt_inj D (its_row D h n) (its_row D k n) e)
/-! ### pigeons -/
theorem pigeon : ∀ (N : Nat) (g : Nat → Nat), (∀ i, i ≤ N → g i < N) → ∃ i j, i < j ∧ j ≤ N ∧ g i = g j
  | 0, g, h => absurd (h 0 (Nat.le_refl _)) (Nat.not_lt_zero _)
  | N + 1, g, h => by
    by_cases c : ∃ i, i ≤ N ∧ g i = g (N + 1)
    · obtain ⟨i, hi, e⟩ := c
      exact ⟨i, N + 1, by omega, Nat.le_refl _, e⟩
    · have c' : ∀ i, i ≤ N → g i ≠ g (N + 1) := fun i hi e => c ⟨i, hi, e⟩
      have hv := h (N + 1) (Nat.le_refl _)
      obtain ⟨i, j, hij, hj, e⟩ := pigeon N (fun i => if g (N + 1) < g i then g i - 1 else g i) (fun i hi => by
        have a := h i (by omega)
        have b := c' i hi
        show (if g (N + 1) < g i then g i - 1 else g i) < N
        split <;> omega)
      refine ⟨i, j, hij, by omega, ?_⟩
      have e' : (if g (N + 1) < g i then g i - 1 else g i) = (if g (N + 1) < g j then g j - 1 else g j) := e
      have b1 := c' i (by omega)
      have b2 := c' j hj
      split at e' <;> split at e' <;> omega
/-- a row as a number -/
def val : List Int → Nat
  | [] => 0
  | x :: r => x.toNat * 2 ^ r.length + val r
theorem val_lt : ∀ {R : List Int}, Bits R → val R < 2 ^ R.length
  | [], _ => by decide
  | x :: r, h => by
    have ih := val_lt (R := r) fun y hy => h y (List.mem_cons_of_mem _ hy)
    rw [List.length_cons, Nat.pow_succ]
    show x.toNat * 2 ^ r.length + val r < _
    rcases h x List.mem_cons_self with rfl | rfl
    · show 0 * _ + _ < _
      omega
    · show 1 * _ + _ < _
      omega
theorem val_inj : ∀ {R S : List Int}, Bits R → Bits S → R.length = S.length → val R = val S → R = S
  | [], [], _, _, _, _ => rfl
  | [], _ :: _, _, _, h, _ => by cases h
  | _ :: _, [], _, _, h, _ => by cases h
  | x :: r, y :: s, hR, hS, hl, e => by
    have hl' : r.length = s.length := by simpa using hl
    have bR : Bits r := fun z hz => hR z (List.mem_cons_of_mem _ hz)
    have bS : Bits s := fun z hz => hS z (List.mem_cons_of_mem _ hz)
    have l1 := val_lt bR
    have l2 := val_lt bS
    rw [hl'] at l1
    have e' : x.toNat * 2 ^ r.length + val r = y.toNat * 2 ^ s.length + val s := e
    rw [hl'] at e'
    rcases hR x List.mem_cons_self with rfl | rfl <;> rcases hS y List.mem_cons_self with rfl | rfl
    · rw [val_inj bR bS hl' (by simpa using e')]
    · exfalso
      have e2 : 0 * 2 ^ s.length + val r = 1 * 2 ^ s.length + val s := e'
      omega
    · exfalso
      have e2 : 1 * 2 ^ s.length + val r = 0 * 2 ^ s.length + val s := e'
      omega
    · rw [val_inj bR bS hl' (by have e2 : 1 * 2 ^ s.length + val r = 1 * 2 ^ s.length + val s := e'; omega)]
theorem val_rep : ∀ w, val (List.replicate w 0) = 0
  | 0 => rfl
  | w + 1 => by
    rw [List.replicate_succ]
    show 0 * _ + val (List.replicate w 0) = 0
    rw [val_rep w]
    omega
/-- the rest that the power 0 leaves -/
def beg (ds : List Int) : List Int := List.replicate (ds.length - 2) 0 ++ [1]
theorem beg_row {ds : List Int} (D : IsDiv ds) : RowOf (ds.length - 1) (beg ds) := by
  have h2 := D.two
  refine ⟨(Bits.rep _ (.inl rfl)).append (.one (.inr rfl)), ?_⟩
  unfold beg
  rw [List.length_append, List.length_replicate]
  show _ + 1 = _
  omega
def zer (ds : List Int) : List Int := List.replicate (ds.length - 1) 0
theorem zer_row {ds : List Int} : RowOf (ds.length - 1) (zer ds) := ⟨.rep _ (.inl rfl), List.length_replicate⟩
theorem zer_getD (n j : Nat) : (List.replicate n (0 : Int)).getD j 0 = 0 := by
  rw [List.getD_eq_getElem?_getD, List.getElem?_replicate]
  split <;> rfl
theorem nxt_zer {ds : List Int} (D : IsDiv ds) : nxt ds (zer ds) = zer ds := by
  refine row_ext (nxt_row D zer_row) zer_row fun j hj => ?_
  rw [nxt_at D zer_row hj]
  have z : (zer ds).headD 0 = 0 := by rw [headD_getD]; exact zer_getD _ _
  have z2 : (zer ds ++ [0]).getD (j + 1) 0 = 0 := by
    have e : zer ds ++ [0] = List.replicate (ds.length - 1 + 1) 0 := List.replicate_succ'.symm
    rw [e]
    exact zer_getD _ _
  have z3 : (zer ds).getD j 0 = 0 := zer_getD _ _
  rw [z, z2, z3]
  omega
theorem its_zer {ds : List Int} (D : IsDiv ds) : ∀ n, its ds n (zer ds) = zer ds
  | 0 => rfl
  | n + 1 => by
    show nxt ds (its ds n (zer ds)) = _
    rw [its_zer D n, nxt_zer D]
theorem beg_getD {ds : List Int} (D : IsDiv ds) (j : Nat) : (beg ds).getD j 0 = if j = ds.length - 2 then 1 else 0 := by
  unfold beg
  by_cases h : j < ds.length - 2
  · rw [getD_left (by rw [List.length_replicate]; exact h), zer_getD, if_neg (by omega)]
  · rw [List.getD_eq_getElem?_getD, List.getElem?_append_right (by rw [List.length_replicate]; omega), List.length_replicate]
    by_cases h2 : j = ds.length - 2
    · rw [if_pos h2, h2, Nat.sub_self]
      rfl
    · rw [if_neg h2, List.getElem?_eq_none (by show 1 ≤ _; omega)]
      rfl
theorem beg_ne {ds : List Int} (D : IsDiv ds) : beg ds ≠ zer ds := fun e => by
  have h2 := D.two
  have a := beg_getD D (ds.length - 2)
  rw [if_pos rfl, e] at a
  have b : (zer ds).getD (ds.length - 2) 0 = 0 := zer_getD _ _
  rw [b] at a
  exact absurd a (by decide)
theorem its_ne {ds : List Int} (D : IsDiv ds) {R : List Int} (h : RowOf (ds.length - 1) R) (ne : R ≠ zer ds) (n : Nat) : its ds n R ≠ zer ds := fun e => by
  rw [← its_zer D n] at e
  exact ne (its_inj D h zer_row n e)
theorem comes_back {ds : List Int} (D : IsDiv ds) : ∃ m, 1 ≤ m ∧ m ≤ 2 ^ (ds.length - 1) - 1 ∧ its ds m (beg ds) = beg ds := by
  have R := fun n => its_row D (beg_row D) n
  have pos : ∀ n, 0 < val (its ds n (beg ds)) := fun n => by
    refine Nat.pos_of_ne_zero fun e => its_ne D (beg_row D) (beg_ne D) n ?_
    refine val_inj (R n).1 zer_row.1 ((R n).2.trans zer_row.2.symm) ?_
    rw [e]
    exact (val_rep _).symm
  obtain ⟨i, j, hij, hj, e⟩ := pigeon (2 ^ (ds.length - 1) - 1) (fun n => val (its ds n (beg ds)) - 1) (fun i _ => by
    have l := val_lt (R i).1
    rw [(R i).2] at l
    have p := pos i
    show val _ - 1 < _
    omega)
  have e' : val (its ds i (beg ds)) - 1 = val (its ds j (beg ds)) - 1 := e
  have p1 := pos i
  have p2 := pos j
  have e2 := val_inj (R i).1 (R j).1 ((R i).2.trans (R j).2.symm) (by omega)
  refine ⟨j - i, by omega, by omega, ?_⟩
  rw [show j = i + (j - i) by omega, its_add] at e2
  exact (its_inj D (beg_row D) (its_row D (beg_row D) _) i e2).symm
/-- the least such number -/
structure IsReach (ds : List Int) (m : Nat) : Prop where
  pos : 1 ≤ m
  back : its ds m (beg ds) = beg ds
  least : ∀ k, 1 ≤ k → k < m → its ds k (beg ds) ≠ beg ds
theorem least_of {p : Nat → Prop} : ∀ n, p n → ∃ m, m ≤ n ∧ p m ∧ ∀ k, k < m → ¬ p k := by
  intro n
  induction n using Nat.strongRecOn with
  | ind n ih =>
    intro h
    by_cases c : ∃ k, k < n ∧ p k
    · obtain ⟨k, hk, pk⟩ := c
      obtain ⟨m, h1, h2, h3⟩ := ih k hk pk
      exact ⟨m, by omega, h2, h3⟩
    · exact ⟨n, Nat.le_refl _, h, fun k hk pk => c ⟨k, hk, pk⟩⟩
theorem has_reach_ {ds : List Int} (D : IsDiv ds) : ∃ m, IsReach ds m ∧ m ≤ 2 ^ (ds.length - 1) - 1 := by
  obtain ⟨m, h1, h2, h3⟩ := comes_back D
  obtain ⟨k, a, ⟨b1, b2⟩, c⟩ := least_of (p := fun m => 1 ≤ m ∧ its ds m (beg ds) = beg ds) m ⟨h1, h3⟩
  exact ⟨k, ⟨b1, b2, fun j hj hjk e => c j hjk ⟨hj, e⟩⟩, by omega⟩
open Classical in
noncomputable def rch (ds : List Int) : Nat := if h : ∃ m, IsReach ds m ∧ m ≤ 2 ^ (ds.length - 1) - 1 then choose h else 0
theorem rch_is {ds : List Int} (D : IsDiv ds) : IsReach ds (rch ds) ∧ rch ds ≤ 2 ^ (ds.length - 1) - 1 := by
  have h := has_reach_ D
  unfold rch
  rw [dif_pos h]
  exact Classical.choose_spec h
theorem rch_top {ds : List Int} (D : IsDiv ds) : rch ds ≤ 4095 := by
  have a := (rch_is D).2
  have b : 2 ^ (ds.length - 1) ≤ 2 ^ 12 := Nat.pow_le_pow_right (by decide) (by have := D.top; omega)
  omega
/-- at least the width -/
theorem its_early {ds : List Int} (D : IsDiv ds) : ∀ k, k ≤ ds.length - 2 → ∀ j, j < ds.length - 1 → (its ds k (beg ds)).getD j 0 = if j + k = ds.length - 2 then 1 else 0
  | 0, _, j, hj => by
    show (beg ds).getD j 0 = _
    rw [beg_getD D]
    rfl
  | k + 1, hk, j, hj => by
    have ih := its_early D k (by omega)
    have R := its_row D (beg_row D) k
    show (nxt ds _).getD j 0 = _
    rw [nxt_at D R hj, headD_getD, ih 0 (by omega), if_neg (by omega), Int.zero_mul, Int.add_zero]
    by_cases c : j + 1 < ds.length - 1
    · rw [getD_left (by rw [R.2]; exact c), ih (j + 1) c]
      have z : (j + 1 + k = ds.length - 2) ↔ (j + (k + 1) = ds.length - 2) := by omega
      simp only [z]
      split <;> rfl
    · have z : (its ds k (beg ds) ++ [0]).getD (j + 1) 0 = 0 := by
        rw [List.getD_eq_getElem?_getD, List.getElem?_append_right (by rw [R.2]; omega), R.2, show j + 1 - (ds.length - 1) = 0 by omega]
        rfl
      rw [z, if_neg (by omega)]
      rfl
theorem rch_wide {ds : List Int} (D : IsDiv ds) : ds.length - 1 ≤ rch ds := by
  have h2 := D.two
  have I := (rch_is D).1
  refine Nat.le_of_not_lt fun hlt => ?_
  have hk : rch ds ≤ ds.length - 2 := by omega
  have e := its_early D (rch ds) hk (ds.length - 2) (by omega)
  rw [I.back, beg_getD D, if_pos rfl, if_neg (by have := I.pos; omega)] at e
  exact absurd e (by decide)


/-! ## need_divisor, parted -/
def sp_need_divisor (cs : Cs) : Sp := fun vs H Q E => ∃ (a : Addr) (ds : List Int), vs = [.ref a] ∧ H a = some (.lst (iv ds)) ∧ Bits ds ∧ (ds.headD 0 = 1 → RetV .non H Q) ∧ (ds.headD 0 ≠ 1 → ∀ H', Ex H H' → E (.ref cs.NoDivisor) none H')
theorem has_need_divisor (T : Txt K mg cs) : Has P w K mg base 3 "need_divisor" ["divisor"] (sp_need_divisor cs) := by
  refine T.d_need_divisor.ok sc_need_divisor (fun vs H Q E h => ?_) (fun f cdv A outer s H vs Q E hr h => ?_)
  · obtain ⟨a, ds, rfl, _⟩ := h
    rfl
  · obtain ⟨a, ds, rfl, ha, bd, q1, q2⟩ := h
    refine ⟨_, (pss_cons (ps_expr (pe_callH (has_need_row T) (hr.mono (by decide)) (passes_call (takes_of rfl rfl rfl rfl) (fun _ _ _ _ h => h)) (pa_cons (pv 0) pa_nil)))
      (pss_one (ps_if (PW.pt (pw_or (pt_cmpR op_eqII (pe_callB (kk_len K) (by rfl) T.z_len b_len (pa_cons (pv 0) pa_nil)) pe_int (nomark _)) (pw_or1 (pt_cmpR op_eqII (pe_ix (kk_ixl K) (pv 0) pe_int (fun _ _ => rfl)) pe_int (nomark _))))) (pss_one (ps_raise rfl (takes_of rfl rfl rfl rfl) (pmk_own PySem.F.excBase_ValueError T.e_NoDivisor.x T.e_NoDivisor.g T.e_NoDivisor.k T.e_NoDivisor.r (by exact rfl)))) pss_nil))), ?_⟩
    refine q_dropC (by walk_at "cg ea") fun H1 e1 => ⟨a, ds, rfl, by walk_at "cg hp", bd, fun H2 e2 => ?_⟩
    have e := e1.trans e2
    have c2 : H2 a = some (.lst (iv ds)) := by walk_at "cg hp"
    clear e1 e2
    cases ds with
    | nil =>
      refine s_when (et_or (b := true) (et_test (ev_i0 (ev_lenI (er_var rfl c2)) ev_c)) (fun h => by simp at h)) (fun _ H3 e3 => ?_) (fun h => by simp at h)
      exact q2 (by decide) H3 (e.trans e3)
    | cons d r =>
      have g : (d :: r)[0]? = some d := rfl
      refine s_when (et_or (et_test (ev_i0 (ev_lenI (er_var rfl c2)) ev_c)) (fun _ => et_test (ev_i0 (ev_ixI (er_var rfl c2) ev_c (atI_nat (j := 0) g)) ev_c))) (fun hb H3 e3 => ?_) (fun hb H3 e3 => ?_)
      · refine q2 (fun h => ?_) H3 (e.trans e3)
        have h' : d = 1 := h
        subst h'
        rw [Bool.or_eq_true, decide_eq_true_eq, decide_eq_true_eq, List.length_cons] at hb
        omega
      · refine q1 ?_ H3 (e.trans e3)
        show d = 1
        rw [Bool.or_eq_false_iff, decide_eq_false_iff_not, decide_eq_false_iff_not] at hb
        have := bd d List.mem_cons_self
        omega
def RetQ (xs ys : List Int) (H : Hp) (Q : VK) : Prop := ∀ p a b H2, Ex H H2 → H a = none → H b = none → a ≠ b → H2 p = some (.tup [.ref a, .ref b]) → H2 a = some (.lst (iv xs)) → H2 b = some (.lst (iv ys)) → Q (.ref p) H2
def sp_parted (cs : Cs) : Sp := fun vs H Q E => ∃ (a b : Addr) (xs ds : List Int), vs = [.ref a, .ref b] ∧ H a = some (.lst (iv xs)) ∧ H b = some (.lst (iv ds)) ∧ Bits xs ∧ Bits ds ∧ xs.length ≤ 10000 ∧ ds.length ≤ 1000 ∧
  (ds.headD 0 = 1 → RetQ ((prun ds xs).1.drop (ds.length - 1)) (prun ds xs).2 H Q) ∧ (ds.headD 0 ≠ 1 → ∀ H', Ex H H' → E (.ref cs.NoDivisor) none H')
theorem has_parted (T : Txt K mg cs) : Has P w K mg base 4 "parted" ["row", "divisor"] (sp_parted cs) := by
  refine T.d_parted.ok sc_parted (fun vs H Q E h => ?_) (fun f cdv A outer s H vs Q E hr h => ?_)
  · obtain ⟨a, b, xs, ds, rfl, _⟩ := h
    rfl
  · obtain ⟨a, b, xs, ds, rfl, ha, hb, bx, bd, lx, ld, q1, q2⟩ := h
    refine ⟨_, (pss_cons (ps_expr (pe_callH (has_need_row T) (hr.mono (by decide)) (passes_call (takes_of rfl rfl rfl rfl) (fun _ _ _ _ h => h)) (pa_cons (pv 0) pa_nil)))
      (pss_cons (ps_expr (pe_callH (has_need_divisor T) (hr.mono (by decide)) (passes_call (takes_of rfl rfl rfl rfl) (fun _ _ _ _ h => h)) (pa_cons (pv 1) pa_nil)))
      (pss_cons (ps_set (i := 2) sc_parted.nd rfl (Or.inl rfl) (pe_op op_sub (pe_callB (kk_len K) (by rfl) T.z_len b_len (pa_cons (pv 1) pa_nil)) pe_int))
      (pss_cons (ps_set (i := 3) sc_parted.nd rfl (Or.inl rfl) (pe_op op_rep (pe_lst (pa_cons pe_int pa_nil)) (pv 2)))
      (pss_cons (ps_set (i := 4) sc_parted.nd rfl (Or.inl rfl) (pe_lst pa_nil))
      (pss_cons (ps_for (passes_of rfl) rfl (pi_list (pv 0)) (pg_name (i := 5) sc_parted.nd rfl (Or.inl rfl)) (pss_cons (ps_set (i := 6) sc_parted.nd rfl (Or.inl rfl) (pe_op op_cat (pv 3) (pe_lst (pa_cons (pv 5) pa_nil))))
      (pss_cons (ps_expr (pe_bm PySem.F.plainAttrs_list PySem.F.slot_list_append PySem.F.type_list_append mt_append (pv 4) (pa_cons (pe_ix (kk_ixl K) (pv 6) pe_int (fun _ _ => rfl)) pa_nil)))
      (pss_one (ps_set (i := 3) sc_parted.nd rfl (Or.inl rfl) (pe_callH (has_reduced T) (hr.mono (by decide)) (passes_call (takes_of rfl rfl rfl rfl) (fun _ _ _ _ h => h)) (pa_cons (pv 6) (pa_cons (pv 1) pa_nil))))))))
      (pss_one (ps_ret (pe_tup (pa_cons (pe_slice (kk_sl K) (pv 4) (po_some (pv 2)) po_none) (pa_cons (pv 3) pa_nil))))))))))), ?_⟩
    refine q_dropC (by walk_at "cg ea") fun H1 e1 => ⟨a, xs, rfl, by walk_at "cg hp", bx, fun H2 e2 => ?_⟩
    refine q_dropC (by walk_at "cg ea") fun H3 e3 => ⟨b, ds, rfl, by walk_at "cg hp", bd, fun h0 H4 e4 => ?_, fun h0 H4 e4 => q2 h0 H4 (((e1.trans e2).trans e3).trans e4)⟩
    have e : Ex H H4 := ((e1.trans e2).trans e3).trans e4
    clear e1 e2 e3 e4
    have hp : 0 < ds.length := by
      cases ds with
      | nil => cases h0
      | cons d r => exact Nat.succ_pos _
    refine q_asg (ev_is (v := .int ((ds.length : Int) - 1)) (w := .int ((ds.length - 1 : Nat) : Int)) (by walk_at "cg ev") (congrArg V.int (by omega))) fun H5 e5 => ?_
    refine q_asgL (xs := iv (List.replicate (ds.length - 1) 0)) (el_repN ev_c (ev_var rfl) (by omega)) fun p H6 n6 e6 h6 => ?_
    refine q_asgL el_nilI fun l H7 n7 e7 h7 => ?_
    have nl : H l = none := fresh_back ((e.trans e5).trans e6) n7
    refine q_forLn (ev_var rfl) (by walk_at "cg sq") (fun i σ' H' => Ex H H' ∧ H' l = some (.lst (iv (prun ds (xs.take i)).1)) ∧ ∃ (p : Addr) (v v' : Option V), σ' = [some (.ref a), some (.ref b), some (.int (ds.length - 1 : Nat)), some (.ref p), some (.ref l), v, v'] ∧ H p = none ∧ p ≠ l ∧ H' p = some (.lst (iv (prun ds (xs.take i)).2))) ?_ (fun i σ' H' _ h => sq_of (h.1 _ _ ha)) ?_ ?_
    · intro H8 e8
      refine ⟨(((e.trans e5).trans e6).trans e7).trans e8, e8 _ _ h7, p, none, none, rfl, fresh_back (e.trans e5) n6, ne_of_none h6 n7, ?_⟩
      rw [e8 _ _ (e7 _ _ h6)]
      rfl
    · rintro i x σ' H' hx ⟨e', hl, p, v, v', rfl, np, npl, hpp⟩
      obtain ⟨n, hn, rfl⟩ := iv_at hx
      have L := prun_len hp (xs.take i)
      have B := prun_bits bd (bx.take i)
      have bn := bx.get hn
      have step : prun ds (xs.take (i + 1)) = pstep ds (prun ds (xs.take i)) n := by
        rw [List.take_add_one, hn]
        exact prun_snoc _ _ _
      refine q_asgL (xs := iv ((prun ds (xs.take i)).2 ++ [n])) (el_catI (er_var rfl hpp) (er_L (el_oneI (by walk_at "cg ev"))) (by rw [L.2, List.length_singleton]; omega)) fun m H8 n8 e8 h8 => ?_
      have nml : m ≠ l := fun z => by rw [z, hl] at n8; cases n8
      have llen : ((prun ds (xs.take i)).2 ++ [n]).length = ds.length := by rw [List.length_append, L.2]; show _ + 1 = _; omega
      have g := head_at (xs := (prun ds (xs.take i)).2 ++ [n]) (by omega)
      refine q_appI nl (e'.trans e8) (e8 _ _ hl) (ev_var rfl) (ev_ixI (er_var rfl h8) ev_c (atI_nat (j := 0) g)) (by rw [L.1, List.length_take]; omega) fun H9 e9 k9 h9 => ?_
      have c8 : H9 m = some (.lst (iv ((prun ds (xs.take i)).2 ++ [n]))) := k9 _ _ nml h8
      refine s_asgC (by walk_at "cg ea") fun H10 e10 => ⟨m, b, (prun ds (xs.take i)).2 ++ [n], ds, rfl, e10 _ _ c8, e10 _ _ (e9 _ _ hb), B.2.append (.one bn), bd, llen, by omega, by omega, fun p2 H11 n11 e11 h11 => ?_⟩
      refine ⟨(e9.trans e10).trans e11, ?_, p2, _, _, rfl, fresh_back (e9.trans e10) n11, fun z => ?_, ?_⟩
      · rw [step]
        exact e11 _ _ (e10 _ _ h9)
      · rw [z, e10 _ _ h9] at n11
        cases n11
      · rw [step]
        exact h11
    · rintro σ' H' ⟨e', hl, p, v, v', rfl, np, npl, hpp⟩
      rw [iv_len, List.take_length] at hl hpp
      have L := prun_len hp xs
      have slc : EvL (tSl (rSlL K) (tVar 4) (tPart (tVar 2)) tNoPart) [some (V.ref a), some (.ref b), some (.int (ds.length - 1 : Nat)), some (.ref p), some (.ref l), v, v'] H' (iv ((prun ds xs).1.drop (ds.length - 1))) := el_slFromI (n := ((ds.length - 1 : Nat) : Int)) (er_var rfl hl) (ev_var rfl) (by omega)
      refine slc H' (Ex.refl H') _ fun m H8 n8 e8 h8 => ?_
      refine ⟨_, rfl, by show 2 ≤ 2 ^ 24; decide, fun t ht => ?_⟩
      have npm : m ≠ p := fun z => by rw [z, hpp] at n8; cases n8
      exact q1 h0 t m p _ ((e'.trans e8).trans (Ex.new ht)) (fresh_back e' n8) np npm upd_same (Ex.new ht _ _ h8) (Ex.new ht _ _ (e8 _ _ hpp))


/-! ## _law_step_by -/
def addM (xs ys : List Int) : List Int := List.zipWith (fun a b => (a + b) % 2) xs ys
theorem addM_eq : ∀ {xs ys : List Int}, Bits xs → Bits ys → addM xs ys = xorR xs ys
  | [], _, _, _ => rfl
  | _ :: _, [], _, _ => rfl
  | x :: xs, y :: ys, hx, hy => by
    show (x + y) % 2 :: addM xs ys = Builtin.bitXor x y :: xorR xs ys
    rw [addM_eq (xs := xs) (ys := ys) (fun z k => hx z (List.mem_cons_of_mem _ k)) (fun z k => hy z (List.mem_cons_of_mem _ k)), xor_bit (hx x List.mem_cons_self) (hy y List.mem_cons_self)]
theorem el_lcAdd {K : PySem.W.Frag} {ta tb : TE} {σ : L2.St} {H : Hp} {i j : Nat} {vs : List Nat} {te : TE} {xs ys : List Int} (ha : EvR ta σ H (iv xs)) (hb : EvR tb σ H (iv ys)) (hz : xs.length ≤ 1000000) (hw : ∀ x y, wipe (((wipe σ vs).set i (some x)).set j (some y)) vs = wipe σ vs)
    (he : ∀ (x y : Int) H1, Ev te (((wipe σ vs).set i (some (.int x))).set j (some (.int y))) H1 (.int ((x + y) % 2))) :
    EvL (tLc (iZip K (tCons ta (tCons tb tNil))) (gTup K 2 (gCons (gName i) (gCons (gName j) gNil))) tYes te vs) σ H (iv (addM xs ys)) := by
  refine el_is (el_lcZip (fun x y => match x, y with | .int a, .int b => .int ((a + b) % 2) | _, _ => .non) ha hb (by rw [iv_len]; exact hz) hw (fun k x y H1 e hx hy => ?_)) ?_
  · obtain ⟨n, _, rfl⟩ := iv_at hx
    obtain ⟨m, _, rfl⟩ := iv_at hy
    exact he n m H1
  · unfold addM iv
    rw [List.zipWith_map, List.map_zipWith]
theorem step_red {L ds : List Int} (hL : Bits L) (hd : Bits ds) : (if L.headD 0 = 1 then addM L ds else L).tail = redR L ds := by
  unfold redR
  rcases headD_bit hL with h | h
  · rw [h, if_neg (by decide), if_pos rfl]
  · rw [h, if_pos rfl, if_neg (by decide), addM_eq hL hd]
    cases L with
    | nil => rfl
    | cons x r => cases ds with
      | nil =>
        show ([] : List Int) = xorR r []
        unfold xorR
        rw [List.zipWith_nil_right]
      | cons y s => rfl
def sp__law_step_by : Sp := fun vs H Q _ => ∃ (a b : Addr) (R ds : List Int) (s : Int), vs = [.ref a, .int s, .ref b] ∧ H a = some (.lst (iv R)) ∧ H b = some (.lst (iv ds)) ∧ Bits R ∧ Bits ds ∧ (s = 0 ∨ s = 1) ∧ R.length ≤ 1000 ∧ RetL (iv (redR (R ++ [s]) ds)) H Q
theorem has__law_step_by (T : Txt K mg cs) : Has P w K mg base 1 "_law_step_by" ["_law_rest", "_law_sign", "_law_divisor"] sp__law_step_by := by
  refine T.d__law_step_by.ok sc__law_step_by (fun vs H Q E h => ?_) (fun f cdv A outer s H vs Q E hr h => ?_)
  · obtain ⟨a, b, R, ds, s, rfl, _⟩ := h
    rfl
  · obtain ⟨a, b, R, ds, s, rfl, ha, hb, bR, bd, bs, lR, q⟩ := h
    refine ⟨_, (pss_cons (ps_set (i := 3) sc__law_step_by.nd rfl (Or.inl rfl) (pe_op op_cat (pv 0) (pe_lst (pa_cons (pv 1) pa_nil))))
      (pss_cut (ps_if (pt_cmpR op_eqII (pe_ix (kk_ixl K) (pv 3) pe_int (fun _ _ => rfl)) pe_int (nomark _)) (pss_one (ps_setLc (i := 3) (own := [("_law_a", 4), ("_law_b", 5)]) (g := gTup K 2 (gCons (gName 4) (gCons (gName 5) gNil))) (tt := tYes) rfl sc__law_step_by.nd rfl rfl (sw_true rfl rfl rfl (by decide +kernel)) (pi_zip (by rfl) T.z_zip (pa_cons (pv 3) (pa_cons (pv 2) pa_nil))) (blkOk_by (own := [("_law_a", 4), ("_law_b", 5)]) (N := N__law_step_by) (sc := defScope s__law_step_by) (by decide +kernel)) (fun _ _ _ _ _ => pg_tup rfl (pgs_cons (pg_name (i := 4) sc__law_step_by.nd rfl (Or.inl rfl)) (pgs_cons (pg_name (i := 5) sc__law_step_by.nd rfl (Or.inl rfl)) pgs_nil))) (fun _ _ _ _ _ => pts_nil) (fun _ _ _ _ _ => (pe_op op_mod (pe_op op_add (pv 4) (pv 5)) pe_int)))) pss_nil)
      (pss_one (ps_ret (pe_slice (kk_sl K) (pv 3) (po_some pe_int) po_none))))), ?_⟩
    have bL : Bits (R ++ [s]) := bR.append (.one bs)
    have hp : 0 < (R ++ [s]).length := by rw [List.length_append]; show 0 < _ + 1; omega
    have lL : (R ++ [s]).length ≤ 2000 := by rw [List.length_append]; show _ + 1 ≤ _; omega
    refine q_asgL (xs := iv (R ++ [s])) (el_catI (er_var rfl ha) (er_L (el_oneI (ev_var rfl))) (by rw [List.length_singleton]; omega)) fun p H1 n1 e1 h1 => ?_
    refine q_cut (M := fun σ' H' => ∃ p, σ' = [some (.ref a), some (.int s), some (.ref b), some (.ref p), none, none] ∧ Ex H H' ∧ H p = none ∧ H' p = some (.lst (iv (if (R ++ [s]).headD 0 = 1 then addM (R ++ [s]) ds else R ++ [s])))) ?_ ?_
    · refine s_when (et_test (ev_i0 (ev_ixI (er_var rfl h1) ev_c (atI_nat (j := 0) (head_at hp))) ev_c)) (fun hc H2 e2 => ?_) (fun hc H2 e2 => ⟨p, rfl, e1.trans e2, n1, ?_⟩)
      · refine s_asgL (el_lcAdd (xs := R ++ [s]) (ys := ds) (er_var rfl (e2 _ _ h1)) (by walk_at "cg er") (by omega) (fun _ _ => rfl) (fun x y H3 => by walk_at "cg ev")) fun p2 H3 n3 e3 h3 => ⟨p2, rfl, (e1.trans e2).trans e3, fresh_back (e1.trans e2) n3, ?_⟩
        rw [if_pos (of_decide_eq_true hc)]
        exact h3
      · rw [if_neg (of_decide_eq_false hc)]
        exact e2 _ _ h1
    · rintro σ' H' ⟨p2, rfl, e, n2, h2⟩
      refine s_retL (el_is (el_slFromI (n := 1) (er_var rfl h2) ev_c (by decide)) ?_) fun p3 H3 n3 e3 h3 => q p3 H3 (fresh_back e n3) (e.trans e3) h3
      rw [← step_red bL bd]
      exact congrArg iv List.drop_one


/-! ## _law_divisor_by: some divisor of a gate -/
def sp__law_divisor_by : Sp := fun vs H Q _ => ∃ (c n : Int), vs = [.int c, .int n] ∧ ∀ ds, IsDiv ds → RetL (iv ds) H Q
theorem isDiv_of {ks : List Int} (h : Bits ks) (hl : ks.length ≤ 11) : IsDiv ([1] ++ ks ++ [1]) where
  bits := ((Bits.one (.inr rfl)).append h).append (.one (.inr rfl))
  two := by rw [List.length_append, List.length_append]; show 2 ≤ 1 + _ + 1; omega
  top := by rw [List.length_append, List.length_append]; show 1 + _ + 1 ≤ 13; omega
  head := rfl
  last := by
    have l : ([1] ++ ks ++ [1] : List Int).length = ([1] ++ ks : List Int).length + 1 := List.length_append
    rw [l, Nat.add_sub_cancel, List.getD_eq_getElem?_getD, List.getElem?_append_right (Nat.le_refl _), Nat.sub_self]
    rfl
theorem has__law_divisor_by (T : Txt K mg cs) : Has P w K mg base 1 "_law_divisor_by" ["_law_cell", "_law_bits"] sp__law_divisor_by := by
  refine T.d__law_divisor_by.ok sc__law_divisor_by (fun vs H Q E h => ?_) (fun f cdv A outer s H vs Q E hr h => ?_)
  · obtain ⟨c, n, rfl, _⟩ := h
    rfl
  · obtain ⟨c, n, rfl, q⟩ := h
    refine ⟨_, (pss_cons (ps_set (i := 2) sc__law_divisor_by.nd rfl (Or.inl rfl) (pe_op op_add pe_int (pe_op op_mod (pv 0) pe_int)))
      (pss_cut (ps_if (pt_cmpR op_eqII (pe_op op_mod (pe_op op_fdiv (pv 0) pe_int) pe_int) pe_int (nomark _)) (pss_one (ps_set (i := 2) sc__law_divisor_by.nd rfl (Or.inl rfl) (pe_op op_add pe_int (pe_op op_mod (pe_op op_fdiv (pv 0) pe_int) pe_int)))) pss_nil)
      (pss_cut (ps_if (pt_cmpR op_eqII (pe_op op_mod (pe_op op_fdiv (pv 0) pe_int) pe_int) pe_int (nomark _)) (pss_one (ps_set (i := 2) sc__law_divisor_by.nd rfl (Or.inl rfl) (pe_op op_add pe_int (pe_op op_mod (pe_op op_fdiv (pv 0) pe_int) pe_int)))) pss_nil)
      (pss_cons (ps_set (i := 3) sc__law_divisor_by.nd rfl (Or.inl rfl) (pe_lst pa_nil))
      (pss_cons (ps_for (passes_of rfl) rfl (pi_range1 (by rfl) T.z_range (pa_cons (pe_op op_sub (pv 2) pe_int) pa_nil)) (pg_name (i := 4) sc__law_divisor_by.nd rfl (Or.inl rfl)) (pss_cons (ps_expr (pe_bm PySem.F.plainAttrs_list PySem.F.slot_list_append PySem.F.type_list_append mt_append (pv 3) (pa_cons (pe_op op_mod (pv 1) pe_int) pa_nil)))
      (pss_one (ps_set (i := 1) sc__law_divisor_by.nd rfl (Or.inl rfl) (pe_op op_fdiv (pv 1) pe_int)))))
      (pss_one (ps_ret (pe_op op_cat (pe_op op_cat (pe_lst (pa_cons pe_int pa_nil)) (pv 3)) (pe_lst (pa_cons pe_int pa_nil)))))))))), ?_⟩
    refine q_asg (by walk_at "cg ev") fun H1 e1 => ?_
    refine q_cut (M := fun σ' H' => ∃ (d : Int), σ' = [some (.int c), some (.int n), some (.int d), none, none] ∧ (1 ≤ d ∧ d ≤ 12) ∧ Ex H H') ?_ ?_
    · refine s_when (by walk_at "cg et") (fun _ H2 e2 => ?_) (fun _ H2 e2 => ⟨_, rfl, by omega, e1.trans e2⟩)
      exact s_asg (by walk_at "cg ev") fun H3 e3 => ⟨_, rfl, by omega, (e1.trans e2).trans e3⟩
    clear e1
    rintro σ' H2 ⟨d, rfl, hd, e2⟩
    refine q_cut (M := fun σ' H' => ∃ (d : Int), σ' = [some (.int c), some (.int n), some (.int d), none, none] ∧ (1 ≤ d ∧ d ≤ 12) ∧ Ex H H') ?_ ?_
    · refine s_when (by walk_at "cg et") (fun _ H3 e3 => ?_) (fun _ H3 e3 => ⟨_, rfl, hd, e2.trans e3⟩)
      exact s_asg (by walk_at "cg ev") fun H4 e4 => ⟨_, rfl, by omega, (e2.trans e3).trans e4⟩
    clear e2 hd
    rintro σ' H3 ⟨d, rfl, hd, e3⟩
    refine q_asgL el_nilI fun p H4 n4 e4 h4 => ?_
    have np : H p = none := fresh_back e3 n4
    refine q_forR1 (n := d - 1) (by walk_at "cg ea") (by omega) (fun i σ' H' => ∃ (m : Int) (ks : List Int) (v : Option V), σ' = [some (.int c), some (.int m), some (.int d), some (.ref p), v] ∧ Bits ks ∧ ks.length = i ∧ Ex H H' ∧ H' p = some (.lst (iv ks))) ?_ ?_ ?_
    · exact fun H5 e5 => ⟨n, [], none, rfl, .nil, rfl, (e3.trans e4).trans e5, e5 _ _ h4⟩
    · rintro i σ' H' hi ⟨m, ks, v, rfl, bk, lk, e, hp⟩
      refine q_appI np e hp (ev_var rfl) (by walk_at "cg ev") (by omega) fun H5 e5 _ h5 => ?_
      exact s_asg (by walk_at "cg ev") fun H6 e6 => ⟨_, _, _, rfl, bk.append (.one (bit_mod _)), by rw [List.length_append, lk]; rfl, e5.trans e6, e6 _ _ h5⟩
    · rintro σ' H' ⟨m, ks, v, rfl, bk, lk, e, hp⟩
      refine s_retL (el_catI (xs := [1] ++ ks) (ys := [1]) (er_L (el_catI (xs := [1]) (er_L (el_oneI ev_c)) (er_var rfl hp) (by show 1 + _ ≤ _; omega))) (er_L (el_oneI ev_c)) (by rw [List.length_append]; show 1 + _ + 1 ≤ _; omega)) fun p2 H5 n5 e5 h5 => ?_
      exact q _ (isDiv_of bk (by omega)) p2 H5 (fresh_back e n5) (e.trans e5) h5


/-! ## need_gate_divisor, reach -/
def sp_need_gate_divisor (cs : Cs) : Sp := fun vs H Q E => ∃ (b : Addr) (ds : List Int), vs = [.ref b] ∧ H b = some (.lst (iv ds)) ∧ Bits ds ∧ (IsDiv ds → RetV .non H Q) ∧ (¬ IsDiv ds → ∀ H', Ex H H' → E (.ref cs.NoDivisor) none H')
theorem last_at {ds : List Int} (h : 0 < ds.length) : atI ds (-1) = some (ds.getD (ds.length - 1) 0) := by
  have ne : ds ≠ [] := fun e => by rw [e] at h; cases h
  have e : ds = ds.dropLast ++ [ds.getLast ne] := (List.dropLast_concat_getLast ne).symm
  have g : ds.getD (ds.length - 1) 0 = ds.getLast ne := by
    rw [List.getD_eq_getElem?_getD, ← List.getLast?_eq_getElem?, List.getLast?_eq_getLast ne]
    rfl
  rw [g]
  conv => lhs; rw [e]
  exact atI_last _ _
theorem has_need_gate_divisor (T : Txt K mg cs) : Has P w K mg base 3 "need_gate_divisor" ["divisor"] (sp_need_gate_divisor cs) := by
  refine T.d_need_gate_divisor.ok sc_need_gate_divisor (fun vs H Q E h => ?_) (fun f cdv A outer s H vs Q E hr h => ?_)
  · obtain ⟨b, ds, rfl, _⟩ := h
    rfl
  · obtain ⟨b, ds, rfl, hb, bd, q1, q2⟩ := h
    refine ⟨_, (pss_cons (ps_expr (pe_callH (has_need_row T) (hr.mono (by decide)) (passes_call (takes_of rfl rfl rfl rfl) (fun _ _ _ _ h => h)) (pa_cons (pv 0) pa_nil)))
      (pss_cons (ps_if (PW.pt (pw_or (pt_cmpR op_lt (pe_callB (kk_len K) (by rfl) T.z_len b_len (pa_cons (pv 0) pa_nil)) (pe_globI T.g_FEWEST_SIGNS) (nomark _)) (pw_or1 (pt_cmpR op_gt (pe_callB (kk_len K) (by rfl) T.z_len b_len (pa_cons (pv 0) pa_nil)) (pe_globI T.g_MOST_SIGNS) (nomark _))))) (pss_one (ps_raise rfl (takes_of rfl rfl rfl rfl) (pmk_own PySem.F.excBase_ValueError T.e_NoDivisor.x T.e_NoDivisor.g T.e_NoDivisor.k T.e_NoDivisor.r (by exact rfl)))) pss_nil)
      (pss_one (ps_if (PW.pt (pw_or (pt_cmpR op_eqII (pe_ix (kk_ixl K) (pv 0) pe_int (fun _ _ => rfl)) pe_int (nomark _)) (pw_or1 (pt_cmpR op_eqII (pe_ix (kk_ixl K) (pv 0) (pe_un un_neg pe_int) (fun _ _ => rfl)) pe_int (nomark _))))) (pss_one (ps_raise rfl (takes_of rfl rfl rfl rfl) (pmk_own PySem.F.excBase_ValueError T.e_NoDivisor.x T.e_NoDivisor.g T.e_NoDivisor.k T.e_NoDivisor.r (by exact rfl)))) pss_nil)))), ?_⟩
    refine q_dropC (by walk_at "cg ea") fun H1 e1 => ⟨b, ds, rfl, by walk_at "cg hp", bd, fun H2 e2 => ?_⟩
    have c2 : H2 b = some (.lst (iv ds)) := by walk_at "cg hp"
    have e := e1.trans e2
    clear e1 e2
    refine q_when (et_or (et_test (ev_i0 (ev_lenI (er_var rfl c2)) ev_c)) (fun _ => et_test (ev_i0 (ev_lenI (er_var rfl c2)) ev_c))) (fun hc H3 e3 => ?_) (fun hc H3 e3 => ?_)
    · refine q2 (fun D => ?_) H3 (e.trans e3)
      have := D.two
      have := D.top
      rw [Bool.or_eq_true, decide_eq_true_eq, decide_eq_true_eq] at hc
      omega
    · rw [Bool.or_eq_false_iff, decide_eq_false_iff_not, decide_eq_false_iff_not] at hc
      have hp : 0 < ds.length := by omega
      have c3 := e3 _ _ c2
      refine s_when (et_or (et_test (ev_i0 (ev_ixI (er_var rfl c3) ev_c (atI_nat (j := 0) (head_at hp))) ev_c)) (fun _ => et_test (ev_i0 (ev_ixI (er_var rfl c3) (ev_un ev_c ru_neg) (last_at hp)) ev_c))) (fun hc2 H4 e4 => ?_) (fun hc2 H4 e4 => ?_)
      · refine q2 (fun D => ?_) H4 ((e.trans e3).trans e4)
        rw [Bool.or_eq_true, decide_eq_true_eq, decide_eq_true_eq, D.head, D.last] at hc2
        omega
      · refine q1 ?_ H4 ((e.trans e3).trans e4)
        rw [Bool.or_eq_false_iff, decide_eq_false_iff_not, decide_eq_false_iff_not] at hc2
        have b1 := headD_bit bd
        have b2 := bit_getD bd (ds.length - 1)
        exact ⟨bd, by omega, by omega, by omega, by omega⟩
theorem red1_at {ds R : List Int} (D : IsDiv ds) (h : RowOf (ds.length - 1) R) {j : Nat} (hj : j < ds.length - 1) : (redR (R ++ [1]) ds).getD j 0 = ((nxt ds R).getD j 0 + if j = ds.length - 2 then 1 else 0) % 2 := by
  have h2 := D.two
  have hl : (R ++ [1]).length = ds.length := by
    rw [List.length_append, h.2]
    show _ + 1 = _
    omega
  have bl : Bits (R ++ [1]) := h.1.append (.one (.inr rfl))
  have st := step_at hl D.head bl D.bits (by omega) (j + 1) (by omega)
  have hh : (R ++ [1]).headD 0 = R.headD 0 := by
    cases R with
    | nil => exact absurd h.2 (by show ¬ 0 = _; omega)
    | cons x r => rfl
  rw [if_pos (by omega), Nat.add_sub_cancel, hh] at st
  rw [nxt_at D h hj]
  have b1 := bit_getD (redR_bits bl D.bits) j
  have b4 := headD_bit h.1
  have b3 := bit_getD D.bits (j + 1)
  by_cases c : j = ds.length - 2
  · have z1 : (R ++ [1]).getD (j + 1) 0 = 1 := by
      rw [List.getD_eq_getElem?_getD, List.getElem?_append_right (by rw [h.2]; omega), h.2, show j + 1 - (ds.length - 1) = 0 by omega]
      rfl
    have z0 : (R ++ [0]).getD (j + 1) 0 = 0 := by
      rw [List.getD_eq_getElem?_getD, List.getElem?_append_right (by rw [h.2]; omega), h.2, show j + 1 - (ds.length - 1) = 0 by omega]
      rfl
    rw [z1] at st
    rw [z0, if_pos c]
    rcases b1 with a | a <;> rcases b3 with c | c <;> rcases b4 with d | d <;> rw [a, c, d] at st <;> rw [a, c, d] <;> first | rfl | exact absurd st (by decide)
  · rw [getD_left (by rw [h.2]; omega)] at st
    rw [getD_left (by rw [h.2]; omega), if_neg c]
    have b2 := bit_getD h.1 (j + 1)
    rcases b1 with a | a <;> rcases b2 with b | b <;> rcases b3 with c | c <;> rcases b4 with d | d <;> rw [a, b, c, d] at st <;> rw [a, b, c, d] <;> first | rfl | exact absurd st (by decide)
theorem red1_row {ds R : List Int} (D : IsDiv ds) (h : RowOf (ds.length - 1) R) : RowOf (ds.length - 1) (redR (R ++ [1]) ds) := by
  have h2 := D.two
  have hl : (R ++ [1]).length = ds.length := by
    rw [List.length_append, h.2]
    show _ + 1 = _
    omega
  exact ⟨redR_bits (h.1.append (.one (.inr rfl))) D.bits, by rw [redR_len hl, hl]⟩
theorem no_yes {w : Nat} {R : List Int} (h : RowOf w R) : ¬ (1 : Int) ∈ R ↔ R = List.replicate w 0 := by
  constructor
  · intro hn
    refine row_ext h ⟨.rep _ (.inl rfl), List.length_replicate⟩ fun j hj => ?_
    rw [zer_getD]
    rcases bit_getD h.1 j with e | e
    · exact e
    · refine absurd ?_ hn
      have hj' : j < R.length := by rw [h.2]; exact hj
      rw [List.getD_eq_getElem?_getD, List.getElem?_eq_getElem hj'] at e
      rw [← (show R[j] = 1 from e)]
      exact List.getElem_mem _
  · intro e hm
    rw [e] at hm
    exact absurd (List.mem_replicate.mp hm).2 (by decide)
theorem red1_zero {ds R : List Int} (D : IsDiv ds) (h : RowOf (ds.length - 1) R) : ¬ (1 : Int) ∈ redR (R ++ [1]) ds ↔ nxt ds R = beg ds := by
  rw [no_yes (red1_row D h)]
  have h2 := D.two
  constructor
  · intro e
    refine row_ext (nxt_row D h) (beg_row D) fun j hj => ?_
    have a := red1_at D h hj
    rw [e, zer_getD] at a
    rw [beg_getD D]
    have b := bit_getD (nxt_row D h).1 j
    split <;> rename_i c
    · rw [if_pos c] at a
      omega
    · rw [if_neg c] at a
      omega
  · intro e
    refine row_ext (red1_row D h) ⟨.rep _ (.inl rfl), List.length_replicate⟩ fun j hj => ?_
    rw [red1_at D h hj, e, beg_getD D, zer_getD]
    split <;> rfl
theorem prun_one {ds : List Int} (D : IsDiv ds) : (prun ds [1]).2 = beg ds := by
  have h2 := D.two
  show redR (List.replicate (ds.length - 1) 0 ++ [1]) ds = beg ds
  unfold redR beg
  rw [show ds.length - 1 = (ds.length - 2) + 1 by omega, List.replicate_succ]
  rfl
def sp_reach (cs : Cs) : Sp := fun vs H Q E => ∃ (b : Addr) (ds : List Int), vs = [.ref b] ∧ H b = some (.lst (iv ds)) ∧ Bits ds ∧ (IsDiv ds → RetV (.int (rch ds : Nat)) H Q) ∧ (¬ IsDiv ds → ∀ H', Ex H H' → E (.ref cs.NoDivisor) none H')
theorem has_reach (T : Txt K mg cs) : Has P w K mg base 5 "reach" ["divisor"] (sp_reach cs) := by
  refine T.d_reach.ok sc_reach (fun vs H Q E h => ?_) (fun f cdv A outer s H vs Q E hr h => ?_)
  · obtain ⟨b, ds, rfl, _⟩ := h
    rfl
  · obtain ⟨b, ds, rfl, hb, bd, q1, q2⟩ := h
    refine ⟨_, (pss_cons (ps_expr (pe_callH (has_need_gate_divisor T) (hr.mono (by decide)) (passes_call (takes_of rfl rfl rfl rfl) (fun _ _ _ _ h => h)) (pa_cons (pv 0) pa_nil)))
      (pss_cons (ps_set (i := 1) sc_reach.nd rfl (Or.inl rfl) pe_int)
      (pss_cons (ps_asg (pe_callH (has_parted T) (hr.mono (by decide)) (passes_call (takes_of rfl rfl rfl rfl) (fun _ _ _ _ h => h)) (pa_cons (pe_lst (pa_cons pe_int pa_nil)) (pa_cons (pv 0) pa_nil))) (pg_tup rfl (pgs_cons (pg_name (i := 2) sc_reach.nd rfl (Or.inl rfl)) (pgs_cons (pg_name (i := 3) sc_reach.nd rfl (Or.inl rfl)) pgs_nil))))
      (pss_cons (ps_while (passes_of rfl) (pt_cmpR (kk_in K) pe_int (pe_callH (has_reduced T) (hr.mono (by decide)) (passes_call (takes_of rfl rfl rfl rfl) (fun _ _ _ _ h => h)) (pa_cons (pe_op op_cat (pv 3) (pe_lst (pa_cons pe_int pa_nil))) (pa_cons (pv 0) pa_nil))) rfl) (pss_cons (ps_set (i := 3) sc_reach.nd rfl (Or.inl rfl) (pe_callH (has_reduced T) (hr.mono (by decide)) (passes_call (takes_of rfl rfl rfl rfl) (fun _ _ _ _ h => h)) (pa_cons (pe_op op_cat (pv 3) (pe_lst (pa_cons pe_int pa_nil))) (pa_cons (pv 0) pa_nil))))
      (pss_one (ps_aug (i := 1) sc_reach.nd rfl (Or.inl rfl) pe_int ip_add))))
      (pss_one (ps_ret (pv 1))))))), ?_⟩
    refine q_dropC (by walk_at "cg ea") fun H1 e1 => ⟨b, ds, rfl, by walk_at "cg hp", bd, fun D H2 e2 => ?_, fun D H2 e2 => q2 D H2 (e1.trans e2)⟩
    have h2 := D.two
    have ht := D.top
    have I := rch_is D
    refine q_asg ev_c fun H3 e3 => ?_
    refine q_asgG (call_go ((eap_er (er_L (el_oneI (n := 1) ev_c)) (eap_ev (ev_var rfl) eap_nil)) H3 (Ex.refl H3) _ fun vs H4 e4 hv => ?_))
    obtain ⟨p, _, rfl, hp, _, rfl, rfl⟩ := hv
    have c4 : H4 b = some (.lst (iv ds)) := by walk_at "cg hp"
    have e := ((e1.trans e2).trans e3).trans e4
    clear e1 e2 e3 e4
    refine ⟨p, b, [1], ds, rfl, hp, c4, .one (.inr rfl), bd, by decide, by omega, fun _ pt pq pr H5 e5 _ _ _ ht5 _ hr5 => ?_, fun h => absurd D.head h⟩
    rw [prun_one D] at hr5
    refine tup2_go (st_of ht5) ?_
    refine q_while (fun m σ' H' => Ex H H' ∧ ∃ (k : Nat) (p2 : Addr) (v : Option V), k + m = rch ds ∧ 1 ≤ m ∧ σ' = [some (.ref b), some (.int ((k : Int) + 1)), v, some (.ref p2)] ∧ H' p2 = some (.lst (iv (its ds k (beg ds))))) (rch ds) ⟨e.trans e5, 0, pr, _, Nat.zero_add _, I.1.pos, rfl, hr5⟩ ?_
    rintro m σ' H' ⟨e', k, p2, v, hk, hm, rfl, hp2⟩
    have R := its_row D (beg_row D) k
    have cb : H' b = some (.lst (iv ds)) := e' _ _ hb
    have call : ∀ (s : Int) (H1 : Hp), Ex H' H1 → (s = 0 ∨ s = 1) → ∀ {E : XK}, EvL (tCall sp_reduced [] E (tCons (tOp rCat (tVar 3) (tLst (tCons (tC (.int s)) tNil))) (tCons (tVar 0) tNil))) [some (.ref b), some (.int ((k : Int) + 1)), v, some (.ref p2)] H1 (iv (redR (its ds k (beg ds) ++ [s]) ds)) := fun s H1 e1 hs E =>
      el_callP (eap_er (er_L (el_catI (er_var rfl (e1 _ _ hp2)) (er_L (el_oneI ev_c)) (by rw [R.2, List.length_singleton]; omega))) (eap_ev (ev_var rfl) eap_nil)) (by
        rintro vs H2 e2 ⟨p, _, rfl, hp, _, rfl, rfl⟩ Q qq
        have hl : (its ds k (beg ds) ++ [s]).length = ds.length := by
          rw [List.length_append, R.2]
          show _ + 1 = _
          omega
        exact ⟨p, b, _, ds, rfl, hp, e2 _ _ (e1 _ _ cb), R.1.append (.one hs), bd, hl, by omega, by omega, qq⟩)
    refine ⟨_, et_test (ev_inR ev_c (er_L (call 1 H' (Ex.refl H') (.inr rfl)))), fun hc H6 e6 => ?_, fun hc H6 e6 => ?_⟩
    · have hc' : its ds (k + 1) (beg ds) ≠ beg ds := fun z => (red1_zero D R).mpr z (of_decide_eq_true hc)
      have hk1 : k + 1 ≠ rch ds := fun z => hc' (z ▸ I.1.back)
      refine ⟨fun σ2 H2 => Ex H H2 ∧ ∃ (p2 : Addr) (v : Option V), σ2 = [some (.ref b), some (.int (((k + 1 : Nat) : Int) + 1)), v, some (.ref p2)] ∧ H2 p2 = some (.lst (iv (its ds (k + 1) (beg ds)))), fun σ2 H2 ⟨e2, p3, v3, es, h3⟩ => ⟨m - 1, by omega, e2, k + 1, p3, v3, by omega, by omega, es, h3⟩, ?_⟩
      refine q_asgL (call 0 H6 e6 (.inl rfl)) fun p3 H7 n7 e7 h7 => ?_
      refine s_aug (a := (k : Int) + 1) (b := 1) rfl ev_c fun H8 e8 => ⟨((e'.trans e6).trans e7).trans e8, p3, v, ?_, e8 _ _ h7⟩
      show [some (V.ref b), some (.int ((k : Int) + 1 + 1)), v, some (.ref p3)] = _
      rw [show ((k : Int) + 1 + 1) = (((k + 1 : Nat) : Int) + 1) by omega]
    · have hc' : its ds (k + 1) (beg ds) = beg ds := (red1_zero D R).mp (of_decide_eq_false hc)
      have er : rch ds = k + 1 := by
        have b : ¬ k + 1 < rch ds := fun h => I.1.least _ (by omega) h hc'
        omega
      refine s_ret (ev_var rfl) fun H7 e7 => ?_
      have z : (k : Int) + 1 = ((rch ds : Nat) : Int) := by rw [er]; omega
      rw [z]
      exact q1 D _ ((e'.trans e6).trans e7)


/-! ## rows run through a divisor, from any rest on -/
def restR (ds xs : List Int) : List Int := (prun ds xs).2
def stepR (ds R : List Int) (s : Int) : List Int := redR (R ++ [s]) ds
def runR (ds R xs : List Int) : List Int := xs.foldl (stepR ds) R
theorem runR_append (ds R xs ys : List Int) : runR ds R (xs ++ ys) = runR ds (runR ds R xs) ys := List.foldl_append
theorem runR_snoc (ds R xs : List Int) (s : Int) : runR ds R (xs ++ [s]) = stepR ds (runR ds R xs) s := runR_append ds R xs [s]
theorem restR_run (ds xs : List Int) : restR ds xs = runR ds (zer ds) xs := by
  induction xs using snoc_ind with
  | h0 => rfl
  | h1 xs x ih =>
    rw [runR_snoc, ← ih]
    unfold restR
    rw [prun_snoc]
    rfl
theorem restR_snoc (ds xs : List Int) (s : Int) : restR ds (xs ++ [s]) = stepR ds (restR ds xs) s := by rw [restR_run, restR_run, runR_snoc]
theorem restR_append (ds xs ys : List Int) : restR ds (xs ++ ys) = runR ds (restR ds xs) ys := by rw [restR_run, restR_run, runR_append]
theorem step_row {ds R : List Int} {s : Int} (D : IsDiv ds) (h : RowOf (ds.length - 1) R) (hs : s = 0 ∨ s = 1) : RowOf (ds.length - 1) (stepR ds R s) := by
  have h2 := D.two
  have hl : (R ++ [s]).length = ds.length := by
    rw [List.length_append, h.2]
    show _ + 1 = _
    omega
  exact ⟨redR_bits (h.1.append (.one hs)) D.bits, by unfold stepR; rw [redR_len hl, hl]⟩
theorem run_row {ds : List Int} (D : IsDiv ds) : ∀ {xs R : List Int}, RowOf (ds.length - 1) R → Bits xs → RowOf (ds.length - 1) (runR ds R xs)
  | [], _, h, _ => h
  | x :: xs, _, h, hx => run_row D (xs := xs) (step_row D h (hx x List.mem_cons_self)) fun z k => hx z (List.mem_cons_of_mem _ k)
theorem rest_row {ds xs : List Int} (D : IsDiv ds) (hx : Bits xs) : RowOf (ds.length - 1) (restR ds xs) := by
  rw [restR_run]
  exact run_row D zer_row hx
theorem step_getD {ds R : List Int} {s : Int} (D : IsDiv ds) (h : RowOf (ds.length - 1) R) (hs : s = 0 ∨ s = 1) {j : Nat} (hj : j < ds.length - 1) :
    (stepR ds R s).getD j 0 = ((R ++ [s]).getD (j + 1) 0 + R.headD 0 * ds.getD (j + 1) 0) % 2 := by
  have h2 := D.two
  have hl : (R ++ [s]).length = ds.length := by
    rw [List.length_append, h.2]
    show _ + 1 = _
    omega
  have bl : Bits (R ++ [s]) := h.1.append (.one hs)
  have st := step_at hl D.head bl D.bits (by omega) (j + 1) (by omega)
  have hh : (R ++ [s]).headD 0 = R.headD 0 := by
    cases R with
    | nil => exact absurd h.2 (by show ¬ 0 = _; omega)
    | cons x r => rfl
  rw [if_pos (by omega), Nat.add_sub_cancel, hh] at st
  have b1 := bit_getD (redR_bits bl D.bits) j
  have b2 := bit_getD bl (j + 1)
  have b3 := bit_getD D.bits (j + 1)
  have b4 := headD_bit h.1
  show (redR (R ++ [s]) ds).getD j 0 = _
  rcases b1 with a | a <;> rcases b2 with b | b <;> rcases b3 with c | c <;> rcases b4 with d | d <;> rw [a, b, c, d] at st <;> rw [a, b, c, d] <;> first | rfl | exact absurd st (by decide)
/-! ### sums of rows of one length -/
theorem xor_getD : ∀ {A B : List Int}, Bits A → Bits B → A.length = B.length → ∀ j : Nat, (xorR A B).getD j 0 = (A.getD j 0 + B.getD j 0) % 2
  | [], [], _, _, _, _ => rfl
  | [], _ :: _, _, _, h, _ => nomatch h
  | _ :: _, [], _, _, h, _ => nomatch h
  | a :: A, b :: B, ha, hb, hl, j => by
    cases j with
    | zero => exact xor_bit (ha a List.mem_cons_self) (hb b List.mem_cons_self)
    | succ j => exact xor_getD (A := A) (B := B) ha.tail hb.tail (Nat.succ.inj hl) j
theorem xor_len {A B : List Int} (h : A.length = B.length) : (xorR A B).length = A.length := by
  unfold xorR
  rw [List.length_zipWith, h]
  exact Nat.min_self _
theorem xor_row {w : Nat} {A B : List Int} (h : RowOf w A) (k : RowOf w B) : RowOf w (xorR A B) := ⟨xorR_bits h.1 k.1, by rw [xor_len (h.2.trans k.2.symm), h.2]⟩
theorem xor_append {A B A' B' : List Int} (h : A.length = B.length) : xorR (A ++ A') (B ++ B') = xorR A B ++ xorR A' B' := List.zipWith_append h
theorem xor_rows {w : Nat} {A B C : List Int} (h : RowOf w A) (k : RowOf w B) (l : RowOf w C) (e : ∀ j, j < w → C.getD j 0 = (A.getD j 0 + B.getD j 0) % 2) : xorR A B = C :=
  row_ext (xor_row h k) l fun j hj => by rw [e j hj, xor_getD h.1 k.1 (h.2.trans k.2.symm)]
theorem rep_row (w : Nat) : RowOf w (List.replicate w (0 : Int)) := ⟨.rep _ (.inl rfl), List.length_replicate⟩
theorem xor_zero {w : Nat} {A : List Int} (h : RowOf w A) : xorR A (List.replicate w 0) = A := xor_rows h (rep_row w) h fun j _ => by
  rw [zer_getD]
  have := bit_getD h.1 j
  omega
theorem zero_xor {w : Nat} {A : List Int} (h : RowOf w A) : xorR (List.replicate w 0) A = A := xor_rows (rep_row w) h h fun j _ => by
  rw [zer_getD]
  have := bit_getD h.1 j
  omega
theorem xor_self {w : Nat} {A : List Int} (h : RowOf w A) : xorR A A = List.replicate w 0 := xor_rows h h (rep_row w) fun j _ => by
  rw [zer_getD]
  have := bit_getD h.1 j
  omega
theorem xor_eq_zero {w : Nat} {A B : List Int} (h : RowOf w A) (k : RowOf w B) (e : xorR A B = List.replicate w 0) : A = B := row_ext h k fun j hj => by
  have z := xor_getD h.1 k.1 (h.2.trans k.2.symm) j
  rw [e, zer_getD] at z
  have := bit_getD h.1 j
  have := bit_getD k.1 j
  omega
theorem xor_back {w : Nat} {A B : List Int} (h : RowOf w A) (k : RowOf w B) : xorR (xorR A B) B = A := xor_rows (xor_row h k) k h fun j _ => by
  rw [xor_getD h.1 k.1 (h.2.trans k.2.symm)]
  have := bit_getD h.1 j
  have := bit_getD k.1 j
  omega
theorem bxor_bit {a b : Int} (ha : a = 0 ∨ a = 1) (hb : b = 0 ∨ b = 1) : Builtin.bitXor a b = 0 ∨ Builtin.bitXor a b = 1 := by
  rw [xor_bit ha hb]
  exact bit_mod _
theorem step_xor {ds A B : List Int} {a b : Int} (D : IsDiv ds) (hA : RowOf (ds.length - 1) A) (hB : RowOf (ds.length - 1) B) (ha : a = 0 ∨ a = 1) (hb : b = 0 ∨ b = 1) :
    stepR ds (xorR A B) (Builtin.bitXor a b) = xorR (stepR ds A a) (stepR ds B b) := by
  have hx := xor_row hA hB
  have hl := hA.2.trans hB.2.symm
  have sA := step_row D hA ha
  have sB := step_row D hB hb
  refine row_ext (step_row D hx (bxor_bit ha hb)) (xor_row sA sB) fun j hj => ?_
  rw [step_getD D hx (bxor_bit ha hb) hj, xor_getD sA.1 sB.1 (sA.2.trans sB.2.symm), step_getD D hA ha hj, step_getD D hB hb hj]
  have e : xorR A B ++ [Builtin.bitXor a b] = xorR (A ++ [a]) (B ++ [b]) := (xor_append (A' := [a]) (B' := [b]) hl).symm
  rw [e, xor_getD (hA.1.append (.one ha)) (hB.1.append (.one hb)) (by rw [List.length_append, List.length_append, hl]; rfl), headD_getD, xor_getD hA.1 hB.1 hl, headD_getD, headD_getD]
  have b3 := bit_getD D.bits (j + 1)
  rcases b3 with c | c <;> rw [c] <;> omega
theorem run_xor {ds : List Int} (D : IsDiv ds) : ∀ {xs ys A B : List Int}, RowOf (ds.length - 1) A → RowOf (ds.length - 1) B → xs.length = ys.length → Bits xs → Bits ys → runR ds (xorR A B) (xorR xs ys) = xorR (runR ds A xs) (runR ds B ys)
  | [], [], _, _, _, _, _, _, _ => rfl
  | [], _ :: _, _, _, _, _, h, _, _ => nomatch h
  | _ :: _, [], _, _, _, _, h, _, _ => nomatch h
  | x :: xs, y :: ys, A, B, hA, hB, hl, hx, hy => by
    have bx := hx x List.mem_cons_self
    have by_ := hy y List.mem_cons_self
    show runR ds (stepR ds (xorR A B) (Builtin.bitXor x y)) (xorR xs ys) = xorR (runR ds (stepR ds A x) xs) (runR ds (stepR ds B y) ys)
    rw [step_xor D hA hB bx by_]
    exact run_xor D (step_row D hA bx) (step_row D hB by_) (Nat.succ.inj hl) hx.tail hy.tail
theorem rest_xor {ds xs ys : List Int} (D : IsDiv ds) (hl : xs.length = ys.length) (hx : Bits xs) (hy : Bits ys) : restR ds (xorR xs ys) = xorR (restR ds xs) (restR ds ys) := by
  rw [restR_run, restR_run, restR_run, ← run_xor D zer_row zer_row hl hx hy]
  congr 1
  exact (xor_self zer_row).symm
theorem run_zeros (ds R : List Int) : ∀ n, runR ds R (List.replicate n 0) = its ds n R
  | 0 => rfl
  | n + 1 => by
    rw [List.replicate_succ', runR_snoc, run_zeros ds R n]
    rfl
theorem rest_zeros (ds xs : List Int) (n : Nat) : restR ds (xs ++ List.replicate n 0) = its ds n (restR ds xs) := by rw [restR_append, run_zeros]
/-- a row no longer than the width is its own rest -/
theorem run_small {ds : List Int} (D : IsDiv ds) {xs : List Int} (hl : xs.length ≤ ds.length - 1) : restR ds xs = List.replicate (ds.length - 1 - xs.length) 0 ++ xs := by
  induction xs using snoc_ind with
  | h0 =>
    rw [List.append_nil]
    rfl
  | h1 xs x ih =>
    rw [List.length_append] at hl
    have hl' : xs.length + 1 ≤ ds.length - 1 := hl
    rw [restR_snoc, ih (by omega), List.length_append]
    show redR _ ds = List.replicate (ds.length - 1 - (xs.length + 1)) 0 ++ (xs ++ [x])
    rw [show ds.length - 1 - xs.length = (ds.length - 1 - (xs.length + 1)) + 1 by omega, List.replicate_succ]
    unfold redR
    rw [if_pos (by rfl), List.cons_append, List.cons_append, List.tail_cons, List.append_assoc]
theorem rest_of_row {ds R : List Int} (D : IsDiv ds) (h : RowOf (ds.length - 1) R) : restR ds R = R := by
  rw [run_small D (by rw [h.2]; exact Nat.le_refl _), h.2, Nat.sub_self]
  rfl
theorem rest_later {ds R : List Int} (D : IsDiv ds) (h : RowOf (ds.length - 1) R) (n : Nat) : restR ds (R ++ List.replicate n 0) = its ds n R := by rw [rest_zeros, rest_of_row D h]
/-- behind a rest: what it becomes, and the rest of what follows -/
theorem run_from {ds R xs : List Int} (D : IsDiv ds) (h : RowOf (ds.length - 1) R) (hx : Bits xs) : runR ds R xs = xorR (its ds xs.length R) (restR ds xs) := by
  have e := run_xor D (xs := List.replicate xs.length 0) (ys := xs) h zer_row List.length_replicate (.rep _ (.inl rfl)) hx
  rw [show xorR R (zer ds) = R from xor_zero h, zero_xor ⟨hx, rfl⟩, run_zeros] at e
  rw [e, restR_run]
/-! ### the check -/
def chk (ds xs : List Int) : List Int := its ds (ds.length - 1) (restR ds xs)
theorem chk_row {ds xs : List Int} (D : IsDiv ds) (hx : Bits xs) : RowOf (ds.length - 1) (chk ds xs) := its_row D (rest_row D hx) _
theorem sealed_zero {ds xs : List Int} (D : IsDiv ds) (hx : Bits xs) : restR ds (xs ++ chk ds xs) = zer ds := by
  have C := chk_row D hx
  rw [restR_append, run_from D (rest_row D hx) C.1, C.2, rest_of_row D C]
  exact xor_self C
/-! ### one sign alone, and what is turned -/
def unitR (n p : Nat) : List Int := List.replicate p 0 ++ 1 :: List.replicate (n - 1 - p) 0
theorem unit_row {n p : Nat} (h : p < n) : RowOf n (unitR n p) := by
  refine ⟨(Bits.rep _ (.inl rfl)).append (.cons (.inr rfl) (.rep _ (.inl rfl))), ?_⟩
  unfold unitR
  rw [List.length_append, List.length_replicate, List.length_cons, List.length_replicate]
  omega
theorem step_one {ds : List Int} (D : IsDiv ds) : stepR ds (zer ds) 1 = beg ds := by
  rw [← prun_one D]
  rfl
theorem rest_unit {ds : List Int} (D : IsDiv ds) (n p : Nat) : restR ds (unitR n p) = its ds (n - 1 - p) (beg ds) := by
  unfold unitR
  rw [restR_run, runR_append, run_zeros, its_zer D]
  show runR ds (stepR ds (zer ds) 1) _ = _
  rw [step_one D, run_zeros]
theorem unit_getD {n p : Nat} (h : p < n) (j : Nat) : (unitR n p).getD j 0 = if j = p then 1 else 0 := by
  unfold unitR
  by_cases c : j < p
  · rw [getD_left (by rw [List.length_replicate]; omega), zer_getD, if_neg (by omega)]
  · rw [List.getD_eq_getElem?_getD, List.getElem?_append_right (by rw [List.length_replicate]; omega), List.length_replicate]
    by_cases c2 : j = p
    · subst c2
      rw [Nat.sub_self, if_pos rfl]
      rfl
    · rw [if_neg c2, show j - p = (j - p - 1) + 1 by omega, List.getElem?_cons_succ, ← List.getD_eq_getElem?_getD, zer_getD]
def turnR (xs : List Int) (p : Nat) : List Int := xs.take p ++ [1 - xs.getD p 0] ++ xs.drop (p + 1)
theorem turn_bits {xs : List Int} (h : Bits xs) (p : Nat) : Bits (turnR xs p) := ((h.take _).append (.one (by have := bit_getD h p; omega))).append (h.drop _)
theorem turn_len {xs : List Int} {p : Nat} (h : p < xs.length) : (turnR xs p).length = xs.length := by
  unfold turnR
  rw [List.length_append, List.length_append, List.length_take, List.length_drop, List.length_singleton]
  omega
theorem turn_getD {xs : List Int} {p : Nat} (h : p < xs.length) (j : Nat) : (turnR xs p).getD j 0 = if j = p then 1 - xs.getD p 0 else xs.getD j 0 := by
  unfold turnR
  have lt : (xs.take p).length = p := by rw [List.length_take]; omega
  rw [List.append_assoc]
  by_cases c : j < p
  · rw [getD_left (by omega), if_neg (by omega), List.getD_eq_getElem?_getD, List.getElem?_take, if_pos c, List.getD_eq_getElem?_getD]
  · rw [List.getD_eq_getElem?_getD, List.getElem?_append_right (by omega), lt]
    by_cases c2 : j = p
    · subst c2
      rw [Nat.sub_self, if_pos rfl]
      rfl
    · rw [if_neg c2, show j - p = (j - p - 1) + 1 by omega]
      show (((1 - xs.getD p 0) :: xs.drop (p + 1))[j - p - 1 + 1]?).getD 0 = _
      rw [List.getElem?_cons_succ, List.getElem?_drop, show p + 1 + (j - p - 1) = j by omega, ← List.getD_eq_getElem?_getD]
theorem turn_xor {xs : List Int} {p : Nat} (h : p < xs.length) (b : Bits xs) : turnR xs p = xorR xs (unitR xs.length p) :=
  (xor_rows ⟨b, rfl⟩ (unit_row h) ⟨turn_bits b p, turn_len h⟩ fun j _ => by
    rw [turn_getD h, unit_getD h]
    have := bit_getD b j
    split
    · rename_i e
      subst e
      omega
    · omega).symm
theorem turn_rest {ds xs : List Int} {p : Nat} (D : IsDiv ds) (h : p < xs.length) (b : Bits xs) : restR ds (turnR xs p) = xorR (restR ds xs) (its ds (xs.length - 1 - p) (beg ds)) := by
  rw [turn_xor h b, rest_xor D (unit_row h).2.symm b (unit_row h).1, rest_unit D]
theorem turn_turn {xs : List Int} {p : Nat} (h : p < xs.length) (b : Bits xs) : turnR (turnR xs p) p = xs := by
  rw [turn_xor (by rw [turn_len h]; exact h) (turn_bits b p), turn_len h, turn_xor h b]
  exact xor_back ⟨b, rfl⟩ (unit_row h)
/-- one sign alone leaves a yes, two leave unlike rests -/
theorem its_beg_ne {ds : List Int} (D : IsDiv ds) {p q : Nat} (hp : p < rch ds) (hq : q < rch ds) (e : its ds p (beg ds) = its ds q (beg ds)) : p = q := by
  have key : ∀ {a b : Nat}, a < b → b < rch ds → its ds a (beg ds) ≠ its ds b (beg ds) := fun {a b} hab hb z => by
    have I := (rch_is D).1
    rw [show b = a + (b - a) by omega, its_add] at z
    have z2 := its_inj D (beg_row D) (its_row D (beg_row D) (b - a)) a z
    exact I.least (b - a) (by omega) (by omega) z2.symm
  by_cases c : p < q
  · exact absurd e (key c hq)
  · by_cases c2 : q < p
    · exact absurd e.symm (key c2 hp)
    · omega
/-! ### what comes back when the reach is taken out -/
theorem its_xor {ds A B : List Int} (D : IsDiv ds) (hA : RowOf (ds.length - 1) A) (hB : RowOf (ds.length - 1) B) (n : Nat) : its ds n (xorR A B) = xorR (its ds n A) (its ds n B) := by
  rw [← run_zeros, ← run_zeros, ← run_zeros, ← run_xor D hA hB rfl (.rep _ (.inl rfl)) (.rep _ (.inl rfl))]
  congr 1
  exact (xor_self (rep_row n)).symm
theorem its_rch_run {ds : List Int} (D : IsDiv ds) {xs : List Int} (hx : Bits xs) : its ds (rch ds) (restR ds xs) = restR ds xs := by
  induction xs using snoc_ind with
  | h0 => exact its_zer D _
  | h1 xs x ih =>
    have b1 : Bits xs := fun y hy => hx y (List.mem_append_left _ hy)
    have b2 : x = 0 ∨ x = 1 := hx x (List.mem_append_right _ List.mem_cons_self)
    have R := rest_row D b1
    have nx := nxt_row D R
    have ih' := ih b1
    have com : its ds (rch ds) (nxt ds (restR ds xs)) = nxt ds (restR ds xs) := by
      have a := its_add ds (restR ds xs) 1 (rch ds)
      have b := its_add ds (restR ds xs) (rch ds) 1
      rw [Nat.add_comm, b] at a
      have a' : nxt ds (its ds (rch ds) (restR ds xs)) = its ds (rch ds) (nxt ds (restR ds xs)) := a
      rw [← a', ih']
    have I := (rch_is D).1
    rw [restR_snoc]
    rcases b2 with rfl | rfl
    · exact com
    · have e : stepR ds (restR ds xs) 1 = xorR (nxt ds (restR ds xs)) (beg ds) := by
        have z := step_xor (a := 0) (b := 1) D R zer_row (.inl rfl) (.inr rfl)
        rw [show xorR (restR ds xs) (zer ds) = restR ds xs from xor_zero R, step_one D] at z
        exact z
      rw [e, its_xor D nx (beg_row D), com, I.back]
theorem its_rch {ds R : List Int} (D : IsDiv ds) (h : RowOf (ds.length - 1) R) : its ds (rch ds) R = R := by
  have z := its_rch_run D h.1
  rw [rest_of_row D h] at z
  exact z
theorem its_mod {ds R : List Int} (D : IsDiv ds) (h : RowOf (ds.length - 1) R) (n : Nat) : its ds (n % rch ds) R = its ds n R := by
  have m : ∀ q, its ds (rch ds * q) R = R := fun q => by
    induction q with
    | zero => rfl
    | succ q ih => rw [Nat.mul_succ, its_add, its_rch D h, ih]
  conv => rhs; rw [← Nat.mod_add_div n (rch ds), its_add, m]
/-! ### a stretch -/
theorem stretch_ne {ds : List Int} (D : IsDiv ds) {P : List Int} (hb : Bits P) (hl : P.length ≤ ds.length - 1) (h1 : (1 : Int) ∈ P) (a t : Nat) : restR ds (List.replicate a 0 ++ P ++ List.replicate t 0) ≠ zer ds := by
  rw [rest_zeros, restR_append, restR_run, run_zeros, its_zer D, ← restR_run]
  refine its_ne D (rest_row D hb) (fun e => ?_) t
  rw [run_small D hl] at e
  have : (1 : Int) ∈ zer ds := by
    rw [← e]
    exact List.mem_append_right _ h1
  exact absurd (List.mem_replicate.mp this).2 (by decide)
/-! ### an even number of yes -/
theorem xor_sum : ∀ {A B : List Int}, Bits A → Bits B → A.length = B.length → (xorR A B).sum % 2 = (A.sum + B.sum) % 2
  | [], [], _, _, _ => rfl
  | [], _ :: _, _, _, h => nomatch h
  | _ :: _, [], _, _, h => nomatch h
  | a :: A, b :: B, ha, hb, hl => by
    have ih := xor_sum (A := A) (B := B) ha.tail hb.tail (Nat.succ.inj hl)
    show (Builtin.bitXor a b + (xorR A B).sum) % 2 = (a + A.sum + (b + B.sum)) % 2
    rw [xor_bit (ha a List.mem_cons_self) (hb b List.mem_cons_self)]
    omega
theorem red_sum {L ds : List Int} (hL : Bits L) (hd : Bits ds) (hl : L.length = ds.length) (h0 : ds.headD 0 = 1) (he : ds.sum % 2 = 0) : (redR L ds).sum % 2 = L.sum % 2 := by
  cases L with
  | nil =>
    cases ds with
    | nil => rfl
    | cons d e => cases hl
  | cons l r =>
    cases ds with
    | nil => cases hl
    | cons d e =>
      have d1 : d = 1 := h0
      subst d1
      have he' : (1 + e.sum) % 2 = 0 := he
      unfold redR
      show (if l = 0 then r else xorR r e).sum % 2 = (l + r.sum) % 2
      rcases hL l List.mem_cons_self with rfl | rfl
      · rw [if_pos rfl]
        omega
      · rw [if_neg (by decide), xor_sum (fun z k => hL z (List.mem_cons_of_mem _ k)) (fun z k => hd z (List.mem_cons_of_mem _ k)) (Nat.succ.inj hl)]
        omega
theorem rest_sum {ds : List Int} (D : IsDiv ds) (he : ds.sum % 2 = 0) {xs : List Int} (hx : Bits xs) : (restR ds xs).sum % 2 = xs.sum % 2 := by
  induction xs using snoc_ind with
  | h0 =>
    show (zer ds).sum % 2 = 0
    unfold zer
    generalize ds.length - 1 = n
    induction n with
    | zero => rfl
    | succ n ih =>
      show (0 + (List.replicate n (0 : Int)).sum) % 2 = 0
      omega
  | h1 xs x ih =>
    have b1 : Bits xs := fun y hy => hx y (List.mem_append_left _ hy)
    have b2 : x = 0 ∨ x = 1 := hx x (List.mem_append_right _ List.mem_cons_self)
    have R := rest_row D b1
    have h2 := D.two
    rw [restR_snoc]
    unfold stepR
    rw [red_sum (R.1.append (.one b2)) D.bits (by rw [List.length_append, R.2]; show _ + 1 = _; omega) D.head he, List.sum_append, List.sum_append]
    have := ih b1
    show (_ + (x + 0)) % 2 = (_ + (x + 0)) % 2
    omega
theorem odd_ne {ds xs : List Int} (D : IsDiv ds) (he : ds.sum % 2 = 0) (hx : Bits xs) (ho : xs.sum % 2 = 1) : restR ds xs ≠ zer ds := fun e => by
  have a := rest_sum D he hx
  have b := rest_sum (xs := []) D he .nil
  rw [e] at a
  have b' : (zer ds).sum % 2 = 0 := b
  omega


/-! ## Gate: what stands at its address -/
def gfs (r : Int) (da : Addr) (w : Int) (ev : Bool) : List (Str × V) := putF "even" (.bl ev) (putF "width" (.int w) (putF "divisor" (.ref da) (putF "reach" (.int r) [])))
theorem gfs_no {r : Int} {da : Addr} {w : Int} {ev : Bool} {m : Str} (h1 : ¬ m = "even") (h2 : ¬ m = "width") (h3 : ¬ m = "divisor") (h4 : ¬ m = "reach") : (gfs r da w ev).lookup m = none := by
  unfold gfs
  rw [lookup_putF, if_neg h1, lookup_putF, if_neg h2, lookup_putF, if_neg h3, lookup_putF, if_neg h4]
  rfl
theorem gfs_even {r : Int} {da : Addr} {w : Int} {ev : Bool} : (gfs r da w ev).lookup ("even" : Str) = some (V.bl ev) := by
  unfold gfs
  rw [lookup_putF, if_pos rfl]
theorem gfs_width {r : Int} {da : Addr} {w : Int} {ev : Bool} : (gfs r da w ev).lookup ("width" : Str) = some (V.int w) := by
  unfold gfs
  rw [lookup_putF, if_neg (by decide +kernel), lookup_putF, if_pos rfl]
theorem gfs_divisor {r : Int} {da : Addr} {w : Int} {ev : Bool} : (gfs r da w ev).lookup ("divisor" : Str) = some (V.ref da) := by
  unfold gfs
  rw [lookup_putF, if_neg (by decide +kernel), lookup_putF, if_neg (by decide +kernel), lookup_putF, if_pos rfl]
theorem gfs_reach {r : Int} {da : Addr} {w : Int} {ev : Bool} : (gfs r da w ev).lookup ("reach" : Str) = some (V.int r) := by
  unfold gfs
  rw [lookup_putF, if_neg (by decide +kernel), lookup_putF, if_neg (by decide +kernel), lookup_putF, if_neg (by decide +kernel), lookup_putF, if_pos rfl]
theorem putF_len (f : Str) (v : V) : ∀ fs : List (Str × V), (putF f v fs).length ≤ fs.length + 1
  | [] => Nat.le_refl _
  | (g, x) :: r => by
    show (if g = f then (g, v) :: r else (g, x) :: putF f v r).length ≤ _
    have := putF_len f v r
    split
    · exact Nat.le_succ _
    · rw [List.length_cons, List.length_cons]
      omega
def evenB (ds : List Int) : Bool := decide (((ds.count 1 : Nat) : Int) % 2 = 0)
structure GateAt (cs : Cs) (H : Hp) (g da : Addr) (ds : List Int) : Prop where
  D : IsDiv ds
  ob : ∃ dx, H g = some (.ins cs.Gate dx (gfs (rch ds : Nat) da (ds.length - 1 : Nat) (evenB ds)))
  dv : H da = some (.lst (iv ds))
theorem GateAt.mono {H H' : Hp} {g da : Addr} {ds : List Int} (G : GateAt cs H g da ds) (e : Ex H H') : GateAt cs H' g da ds := ⟨G.D, G.ob.imp fun _ h => e _ _ h, e _ _ G.dv⟩
theorem GateAt.kp {H H' : Hp} {g da l : Addr} {ds : List Int} (G : GateAt cs H g da ds) (k : Kp l H H') (n1 : g ≠ l) (n2 : da ≠ l) : GateAt cs H' g da ds := ⟨G.D, G.ob.imp fun _ h => k _ _ n1 h, k _ _ n2 G.dv⟩
def EvG (cs : Cs) (te : TE) (σ : L2.St) (H : Hp) (ds : List Int) : Prop := ∀ H1, Ex H H1 → ∀ Q : VK, (∀ g da H2, H1 g = none → H1 da = none → Ex H1 H2 → GateAt cs H2 g da ds → Q (.ref g) H2) → te σ H1 Q
theorem upd2_ex {H H' : Hp} {y dy : Addr} {o1 o2 : HO} (ny : H y = none) (nd : H dy = none) (k : Kp y (upd (upd H dy o1) y o2) H') : Ex H H' := fun a o h => by
  have h1 : a ≠ y := ne_of_none h ny
  refine k a o h1 ?_
  rw [upd_ne h1, upd_ne (ne_of_none h nd)]
  exact h
theorem upd2_none {H : Hp} {y dy a : Addr} {o1 o2 : HO} (h : upd (upd H dy o1) y o2 a = none) : H a = none ∧ a ≠ y ∧ a ≠ dy := by
  have h1 : a ≠ y := fun e => by rw [e, upd_same] at h; cases h
  rw [upd_ne h1] at h
  have h2 : a ≠ dy := fun e => by rw [e, upd_same] at h; cases h
  rw [upd_ne h2] at h
  exact ⟨h, h1, h2⟩
theorem upd2_at {H : Hp} {y dy a : Addr} {o o1 o2 : HO} (ny : H y = none) (nd : H dy = none) (h : H a = some o) : upd (upd H dy o1) y o2 a = some o := by
  rw [upd_ne (ne_of_none h ny), upd_ne (ne_of_none h nd)]
  exact h
theorem q_fldW {σ : L2.St} {H : Hp} {ta te : TE} {f : Str} {D : Ends} {tz : TS}
    (h : te σ H fun y H1 => ta σ H1 fun x H2 => ∃ a C dx fs, x = .ref a ∧ H2 a = some (.ins C dx fs) ∧ Cls K C ∧ NoAttr K C f ∧ fs.length < 1000 ∧ tz D σ (upd H2 a (.ins C dx (putF f y fs)))) : tSeq (sFld K ta te f) tz D σ H := h
theorem var_go {σ : L2.St} {H : Hp} {i : Nat} {v : V} {Q : VK} (h : σ[i]? = some (some v)) (k : Q v H) : tVar i σ H Q := ⟨v, h, k⟩
def sp_Gate___init__ (cs : Cs) : Sp := fun vs H Q E => ∃ (p dx b : Addr) (ds : List Int), vs = [.ref p, .ref b] ∧ H p = some (.ins cs.Gate dx []) ∧ H b = some (.lst (iv ds)) ∧ Bits ds ∧
  (IsDiv ds → ∀ da H', H da = none → Kp p H H' → GateAt cs H' p da ds → Q .non H') ∧ (¬ IsDiv ds → ∀ H', Ex H H' → E (.ref cs.NoDivisor) none H')
theorem has_Gate___init__ (T : Txt K mg cs) : HasI P w K mg base 6 cs.Gate ["self", "divisor"] (sp_Gate___init__ cs) := by
  refine T.i_Gate.ok sc_Gate___init__ (fun vs H Q E h => ?_) (fun f cdv A outer s H vs Q E hr h => ?_)
  · obtain ⟨p, dx, b, ds, rfl, _⟩ := h
    rfl
  · obtain ⟨p, dx, b, ds, rfl, hp, hb, bd, q1, q2⟩ := h
    refine ⟨_, (pss_cons (ps_fld (pv 0) (pe_callH (has_reach T) (hr.mono (by decide)) (passes_call (takes_of rfl rfl rfl rfl) (fun _ _ _ _ h => h)) (pa_cons (pv 1) pa_nil)) rfl)
      (pss_cons (ps_fld (pv 0) (pe_callTy (kk_list K) (by rfl) T.z_list b_list (pa_cons (pv 1) pa_nil)) rfl)
      (pss_cons (ps_fld (pv 0) (pe_op op_sub (pe_callB (kk_len K) (by rfl) T.z_len b_len (pa_cons (pv 1) pa_nil)) pe_int) rfl)
      (pss_one (ps_fld (pv 0) (pe_cmpR op_eqII (pe_op op_mod (pe_bm PySem.F.plainAttrs_list PySem.F.slot_list_count PySem.F.type_list_count (kk_count K) (pv 1) (pa_cons pe_int pa_nil)) pe_int) pe_int (nomark _)) rfl))))), ?_⟩
    have npb : b ≠ p := ne_of hb hp (by intro z; cases z)
    refine q_fldW (call_go (ea_go (by walk_at "cg ea") fun H1 e1 => ⟨b, ds, rfl, e1 _ _ hb, bd, fun D H2 e2 => var_go rfl ⟨p, cs.Gate, dx, [], rfl, e2 _ _ (e1 _ _ hp), T.c_Gate.cl, T.n_Gate_reach, by decide, ?_⟩, fun D H2 e2 => q2 D H2 (e1.trans e2)⟩))
    have k3 : Kp p H (upd H2 p (.ins cs.Gate dx (putF "reach" (.int (rch ds : Nat)) []))) := (Kp.of (e1.trans e2)).trans .upd
    have h3 : (upd H2 p (.ins cs.Gate dx (putF "reach" (.int (rch ds : Nat)) []))) p = some (.ins cs.Gate dx (putF "reach" (.int (rch ds : Nat)) [])) := upd_same
    generalize (upd H2 p (.ins cs.Gate dx (putF "reach" (.int (rch ds : Nat)) []))) = H3 at k3 h3 ⊢
    have b3 : H3 b = some (.lst (iv ds)) := k3 _ _ npb hb
    clear e1 e2
    refine q_fldL (el_listR (er_var rfl b3)) (ev_var rfl) h3 T.c_Gate.cl T.n_Gate_divisor (Nat.lt_of_le_of_lt (putF_len _ _ _) (by show 1 < 1000; decide)) fun da H4 n4 e4 h4 => ?_
    have nda : H da = none := by
      cases hd : H da with
      | none => rfl
      | some o =>
        by_cases c : da = p
        · rw [c, h3] at n4
          cases n4
        · rw [k3 _ _ c hd] at n4
          cases n4
    have ndp : da ≠ p := (ne_of_none h3 n4).symm
    have npd : p ≠ da := fun e => ndp e.symm
    have k5 : Kp p H (upd H4 p (.ins cs.Gate dx (putF "divisor" (.ref da) (putF "reach" (.int (rch ds : Nat)) [])))) := (k3.trans (Kp.of e4)).trans .upd
    have h5 : (upd H4 p (.ins cs.Gate dx (putF "divisor" (.ref da) (putF "reach" (.int (rch ds : Nat)) [])))) p = some (.ins cs.Gate dx (putF "divisor" (.ref da) (putF "reach" (.int (rch ds : Nat)) []))) := upd_same
    have d5 : (upd H4 p (.ins cs.Gate dx (putF "divisor" (.ref da) (putF "reach" (.int (rch ds : Nat)) [])))) da = some (.lst (iv ds)) := by rw [upd_ne ndp]; exact h4
    generalize (upd H4 p (.ins cs.Gate dx (putF "divisor" (.ref da) (putF "reach" (.int (rch ds : Nat)) [])))) = H5 at k5 h5 d5 ⊢
    have b5 : H5 b = some (.lst (iv ds)) := k5 _ _ npb hb
    have two := D.two
    clear k3 b3 e4 h4 h3
    refine q_fld (v := .int ((ds.length - 1 : Nat) : Int)) (ev_is (v := .int ((ds.length : Int) - 1)) (ev_i0 (ev_lenI (er_var rfl b5)) ev_c) (congrArg V.int (by omega))) (ev_var rfl) h5 T.c_Gate.cl T.n_Gate_width (Nat.lt_of_le_of_lt (putF_len _ _ _) (by show 2 < 1000; decide)) fun H6 e6 => ?_
    have k7 : Kp p H (upd H6 p (.ins cs.Gate dx (putF "width" (.int ((ds.length - 1 : Nat) : Int)) (putF "divisor" (.ref da) (putF "reach" (.int (rch ds : Nat)) []))))) := (k5.trans (Kp.of e6)).trans .upd
    have h7 : (upd H6 p (.ins cs.Gate dx (putF "width" (.int ((ds.length - 1 : Nat) : Int)) (putF "divisor" (.ref da) (putF "reach" (.int (rch ds : Nat)) []))))) p = some (.ins cs.Gate dx (putF "width" (.int ((ds.length - 1 : Nat) : Int)) (putF "divisor" (.ref da) (putF "reach" (.int (rch ds : Nat)) [])))) := upd_same
    have d7 : (upd H6 p (.ins cs.Gate dx (putF "width" (.int ((ds.length - 1 : Nat) : Int)) (putF "divisor" (.ref da) (putF "reach" (.int (rch ds : Nat)) []))))) da = some (.lst (iv ds)) := by rw [upd_ne ndp]; exact e6 _ _ d5
    generalize (upd H6 p (.ins cs.Gate dx (putF "width" (.int ((ds.length - 1 : Nat) : Int)) (putF "divisor" (.ref da) (putF "reach" (.int (rch ds : Nat)) []))))) = H7 at k7 h7 d7 ⊢
    have b7 : H7 b = some (.lst (iv ds)) := k7 _ _ npb hb
    clear k5 b5 e6 h5 d5
    refine s_fld (v := .bl (evenB ds)) (ev_is (ev_i0 (ev_mod (ev_count (er_var rfl b7) ev_c) ev_c (by walk_at "cg ar")) ev_c) rfl) (ev_var rfl) h7 T.c_Gate.cl T.n_Gate_even (Nat.lt_of_le_of_lt (putF_len _ _ _) (Nat.lt_of_le_of_lt (Nat.succ_le_succ (putF_len _ _ _)) (by show 3 < 1000; decide))) fun H8 e8 => ?_
    refine q1 D da _ nda ((k7.trans (Kp.of e8)).trans .upd) ⟨D, ⟨dx, upd_same⟩, ?_⟩
    rw [upd_ne ndp]
    exact e8 _ _ d7
theorem eg_make {E : XK} {σ : L2.St} {H : Hp} {tx : TE} {ds : List Int} (D : IsDiv ds) (h : EvR tx σ H (iv ds)) : EvG cs (tMake cs.Gate (sp_Gate___init__ cs) [] E (tCons tx tNil)) σ H ds := fun H1 e Q q =>
  h H1 e _ fun b H2 e2 h2 => fun y dy ny nd ne => ⟨y, dy, b, ds, rfl, upd_same, upd2_at ny nd h2, D.bits, fun D da H' nda k G =>
    ⟨rfl, q y da H' (fresh_back e2 ny) (fresh_back e2 (upd2_none nda).1) (e2.trans (upd2_ex ny nd k)) G⟩, fun n => absurd D n⟩


/-! ## Gate.rest -/
theorem gfs_rest {r : Int} {da : Addr} {w : Int} {ev : Bool} : (gfs r da w ev).lookup ("rest" : Str) = none := gfs_no (by decide +kernel) (by decide +kernel) (by decide +kernel) (by decide +kernel)
def sp_Gate_rest (cs : Cs) : Sp := fun vs H Q _ => ∃ (g da a : Addr) (ds xs : List Int), vs = [.ref g, .ref a] ∧ GateAt cs H g da ds ∧ H a = some (.lst (iv xs)) ∧ Bits xs ∧ xs.length ≤ 10000 ∧ RetL (iv (restR ds xs)) H Q
theorem has_Gate_rest (T : Txt K mg cs) : HasM P w K mg base 5 cs.Gate "rest" ["self", "row"] (sp_Gate_rest cs) := by
  refine T.m_Gate_rest.ok sc_Gate_rest (fun vs H Q E h => ?_) (fun f cdv A outer s H vs Q E hr h => ?_)
  · obtain ⟨g, da, a, ds, xs, rfl, _⟩ := h
    rfl
  · obtain ⟨g, da, a, ds, xs, rfl, G, ha, bx, lx, q⟩ := h
    refine ⟨_, (pss_cons (ps_asg (pe_callH (has_parted T) (hr.mono (by decide)) (passes_call (takes_of rfl rfl rfl rfl) (fun _ _ _ _ h => h)) (pa_cons (pv 1) (pa_cons (pe_fld (pv 0) rfl) pa_nil))) (pg_tup rfl (pgs_cons (pg_name (i := 2) sc_Gate_rest.nd rfl (Or.inl rfl)) (pgs_cons (pg_name (i := 3) sc_Gate_rest.nd rfl (Or.inl rfl)) pgs_nil))))
      (pss_one (ps_ret (pv 3)))), ?_⟩
    obtain ⟨dx, ho⟩ := G.ob
    have top := G.D.top
    refine q_asgG (call_go (ea_go (vs := [.ref a, .ref da]) (ea_cons (ev_var rfl) (ea_one (ev_fld (ev_var rfl) ho T.c_Gate.cl T.n_Gate_divisor gfs_divisor))) fun H1 e1 => ?_))
    refine ⟨a, da, xs, ds, rfl, e1 _ _ ha, e1 _ _ G.dv, bx, G.D.bits, lx, by omega, fun _ pt pq pr H2 e2 _ nr _ ht _ hR => ?_, fun h => absurd G.D.head h⟩
    refine tup2_go (st_of ht) ?_
    exact s_ret (ev_var rfl) fun H3 e3 => q pr H3 (fresh_back e1 nr) ((e1.trans e2).trans e3) (e3 _ _ hR)
theorem el_rest {E : XK} {σ : L2.St} {H : Hp} {ta te : TE} {g da : Addr} {ds xs : List Int} (ha : Ev ta σ H (.ref g)) (G : GateAt cs H g da ds) (h : EvR te σ H (iv xs)) (bx : Bits xs) (lx : xs.length ≤ 10000) : EvL (tMeth cs.Gate "rest" (sp_Gate_rest cs) [] E ta (tCons te tNil)) σ H (iv (restR ds xs)) := by
  obtain ⟨dx, ho⟩ := G.ob
  refine el_meth ha ho gfs_rest (eap_er h eap_nil) fun vs H1 e1 hv Q q => ?_
  obtain ⟨p, _, rfl, hp, rfl⟩ := hv
  exact ⟨g, da, p, ds, xs, rfl, G.mono e1, hp, bx, lx, q⟩


/-! ## Gate.check -/
theorem gfs_check {r : Int} {da : Addr} {w : Int} {ev : Bool} : (gfs r da w ev).lookup ("check" : Str) = none := gfs_no (by decide +kernel) (by decide +kernel) (by decide +kernel) (by decide +kernel)
def sp_Gate_check (cs : Cs) : Sp := fun vs H Q _ => ∃ (g da a : Addr) (ds xs : List Int), vs = [.ref g, .ref a] ∧ GateAt cs H g da ds ∧ H a = some (.lst (iv xs)) ∧ Bits xs ∧ xs.length ≤ 9000 ∧ RetL (iv (chk ds xs)) H Q
theorem has_Gate_check (T : Txt K mg cs) : HasM P w K mg base 6 cs.Gate "check" ["self", "row"] (sp_Gate_check cs) := by
  refine T.m_Gate_check.ok sc_Gate_check (fun vs H Q E h => ?_) (fun f cdv A outer s H vs Q E hr h => ?_)
  · obtain ⟨g, da, a, ds, xs, rfl, _⟩ := h
    rfl
  · obtain ⟨g, da, a, ds, xs, rfl, G, ha, bx, lx, q⟩ := h
    refine ⟨_, (pss_cons (ps_expr (pe_callH (has_need_row T) (hr.mono (by decide)) (passes_call (takes_of rfl rfl rfl rfl) (fun _ _ _ _ h => h)) (pa_cons (pv 1) pa_nil)))
      (pss_one (ps_ret (pe_methH (pv 0) T.c_Gate.cl (has_Gate_rest T) (hr.mono (by decide)) (passes_call (takes_of rfl rfl rfl rfl) (fun _ _ _ _ h => h)) (pa_cons (pe_op op_cat (pv 1) (pe_op op_rep (pe_lst (pa_cons pe_int pa_nil)) (pe_fld (pv 0) rfl))) pa_nil))))), ?_⟩
    have top := G.D.top
    refine q_dropC (by walk_at "cg ea") fun H1 e1 => ⟨a, xs, rfl, e1 _ _ ha, bx, fun H2 e2 => ?_⟩
    have e := e1.trans e2
    have a2 : H2 a = some (.lst (iv xs)) := e _ _ ha
    have G2 := G.mono e
    obtain ⟨dx, ho⟩ := G2.ob
    clear e1 e2
    refine s_retL (xs := iv (chk ds xs)) (el_is (el_rest (xs := xs ++ List.replicate (ds.length - 1) 0) (ev_var rfl) G2 (er_L (el_catI (by walk_at "cg er") (er_L (el_repN ev_c (ev_fld (ev_var rfl) ho T.c_Gate.cl T.n_Gate_width gfs_width) (by omega))) (by rw [List.length_replicate]; omega))) (bx.append (.rep _ (.inl rfl))) (by rw [List.length_append, List.length_replicate]; omega)) ?_) fun p H3 n3 e3 h3 => q p H3 (fresh_back e n3) (e.trans e3) h3
    rw [rest_zeros]
    rfl
theorem el_check {E : XK} {σ : L2.St} {H : Hp} {ta te : TE} {g da : Addr} {ds xs : List Int} (ha : Ev ta σ H (.ref g)) (G : GateAt cs H g da ds) (h : EvR te σ H (iv xs)) (bx : Bits xs) (lx : xs.length ≤ 9000) : EvL (tMeth cs.Gate "check" (sp_Gate_check cs) [] E ta (tCons te tNil)) σ H (iv (chk ds xs)) := by
  obtain ⟨dx, ho⟩ := G.ob
  refine el_meth ha ho gfs_check (eap_er h eap_nil) fun vs H1 e1 hv Q q => ?_
  obtain ⟨p, _, rfl, hp, rfl⟩ := hv
  exact ⟨g, da, p, ds, xs, rfl, G.mono e1, hp, bx, lx, q⟩


/-! ## _law_reach_by -/
def sp__law_reach_by : Sp := fun vs H Q _ => ∃ (b : Addr) (ds : List Int), vs = [.ref b] ∧ H b = some (.lst (iv ds)) ∧ IsDiv ds ∧ RetV (.int (rch ds : Nat)) H Q
theorem has__law_reach_by (T : Txt K mg cs) : Has P w K mg base 2 "_law_reach_by" ["_law_divisor"] sp__law_reach_by := by
  refine T.d__law_reach_by.ok sc__law_reach_by (fun vs H Q E h => ?_) (fun f cdv A outer s H vs Q E hr h => ?_)
  · obtain ⟨b, ds, rfl, _⟩ := h
    rfl
  · obtain ⟨b, ds, rfl, hb, D, q⟩ := h
    refine ⟨_, (pss_cons (ps_set (i := 1) sc__law_reach_by.nd rfl (Or.inl rfl) (pe_op op_cat (pe_op op_rep (pe_lst (pa_cons pe_int pa_nil)) (pe_op op_sub (pe_callB (kk_len K) (by rfl) T.z_len b_len (pa_cons (pv 0) pa_nil)) pe_int)) (pe_lst (pa_cons pe_int pa_nil))))
      (pss_cons (ps_set (i := 2) sc__law_reach_by.nd rfl (Or.inl rfl) (pv 1))
      (pss_cons (ps_for (passes_of rfl) rfl (pi_range2 (by rfl) T.z_range (pa_cons pe_int (pa_cons pe_int pa_nil))) (pg_name (i := 3) sc__law_reach_by.nd rfl (Or.inl rfl)) (pss_cons (ps_set (i := 2) sc__law_reach_by.nd rfl (Or.inl rfl) (pe_callH (has__law_step_by T) (hr.mono (by decide)) passL (pa_cons (pv 2) (pa_cons pe_int (pa_cons (pv 0) pa_nil)))))
      (pss_one (ps_if (pt_cmpR (kk_eqD K hr.units) (pv 2) (pv 1) (nomark _)) (pss_one (ps_ret (pv 3))) pss_nil))))
      (pss_one (ps_ret pe_int))))), ?_⟩
    have h2 := D.two
    have ht := D.top
    have I := rch_is D
    have it := rch_top D
    refine q_asgL (xs := iv (beg ds)) (el_catI (xs := List.replicate (ds.length - 2) 0) (ys := [1]) (er_L (el_repN ev_c (ev_is (v := .int ((ds.length : Int) - 2)) (by walk_at "cg ev") (congrArg V.int (by omega))) (by omega))) (er_L (el_oneI ev_c)) (by rw [List.length_replicate]; show _ + 1 ≤ _; omega)) fun p H1 n1 e1 h1 => ?_
    refine q_asg (ev_var rfl) fun H2 e2 => ?_
    refine q_forR2 (lo := 1) (n := 4096) (by walk_at "cg ea") (by omega) (fun i σ' H' => Ex H H' ∧ H' p = some (.lst (iv (beg ds))) ∧ (∀ k, 1 ≤ k → k ≤ i → its ds k (beg ds) ≠ beg ds) ∧ ∃ (p2 : Addr) (v : Option V), σ' = [some (.ref b), some (.ref p), some (.ref p2), v] ∧ H' p2 = some (.lst (iv (its ds i (beg ds))))) ?_ ?_ ?_
    · exact fun H3 e3 => ⟨(e1.trans e2).trans e3, e3 _ _ (e2 _ _ h1), fun k h1 h2 => by omega, p, none, rfl, e3 _ _ (e2 _ _ h1)⟩
    · rintro i σ' H' hi ⟨e', hp, no, p2, v, rfl, hp2⟩
      have R := its_row D (beg_row D) i
      refine q_asgC (by walk_at "cg ea") fun H8 e8 => ⟨p2, b, its ds i (beg ds), ds, 0, rfl, e8 _ _ hp2, e8 _ _ (e' _ _ hb), R.1, D.bits, .inl rfl, by rw [R.2]; omega, fun p3 H9 n9 e9 h9 => ?_⟩
      have hp9 : H9 p = some (.lst (iv (beg ds))) := e9 _ _ (e8 _ _ hp)
      have h9' : H9 p3 = some (.lst (iv (its ds (i + 1) (beg ds)))) := h9
      refine s_when (et_test (ev_eqR (er_var rfl h9') (er_var rfl hp9))) (fun hc H10 e10 => ?_) (fun hc H10 e10 => ?_)
      · refine s_ret (ev_var rfl) fun H11 e11 => ?_
        have hc' : its ds (i + 1) (beg ds) = beg ds := of_decide_eq_true hc
        have er : rch ds = i + 1 := by
          have a : ¬ rch ds < i + 1 := fun h => no _ I.1.pos (by omega) I.1.back
          have b : ¬ i + 1 < rch ds := fun h => I.1.least _ (by omega) h hc'
          omega
        have z : (1 : Int) + (i : Int) = ((rch ds : Nat) : Int) := by rw [er]; omega
        rw [z]
        exact q _ ((((e'.trans e8).trans e9).trans e10).trans e11)
      · refine ⟨(((e'.trans e8).trans e9).trans e10), e10 _ _ hp9, fun k h1 h2 => ?_, p3, _, rfl, e10 _ _ h9'⟩
        by_cases hk : k ≤ i
        · exact no k h1 hk
        · have : k = i + 1 := by omega
          subst this
          exact of_decide_eq_false hc
    · rintro σ' H' ⟨e', hp, no, _⟩
      exact absurd I.1.back (no _ I.1.pos (by omega))


/-! ## _law_rest_by -/
def sp__law_rest_by : Sp := fun vs H Q _ => ∃ (a b : Addr) (xs ds : List Int), vs = [.ref a, .ref b] ∧ H a = some (.lst (iv xs)) ∧ H b = some (.lst (iv ds)) ∧ Bits xs ∧ Bits ds ∧ 0 < ds.length ∧ ds.length ≤ 100 ∧ RetL (iv (restR ds xs)) H Q
theorem has__law_rest_by (T : Txt K mg cs) : Has P w K mg base 2 "_law_rest_by" ["_law_row", "_law_divisor"] sp__law_rest_by := by
  refine T.d__law_rest_by.ok sc__law_rest_by (fun vs H Q E h => ?_) (fun f cdv A outer s H vs Q E hr h => ?_)
  · obtain ⟨a, b, xs, ds, rfl, _⟩ := h
    rfl
  · obtain ⟨a, b, xs, ds, rfl, ha, hb, bx, bd, hp, ld, q⟩ := h
    refine ⟨_, (pss_cons (ps_set (i := 2) sc__law_rest_by.nd rfl (Or.inl rfl) (pe_op op_rep (pe_lst (pa_cons pe_int pa_nil)) (pe_op op_sub (pe_callB (kk_len K) (by rfl) T.z_len b_len (pa_cons (pv 1) pa_nil)) pe_int)))
      (pss_cons (ps_for (passes_of rfl) rfl (pi_list (pv 0)) (pg_name (i := 3) sc__law_rest_by.nd rfl (Or.inl rfl)) (pss_one (ps_set (i := 2) sc__law_rest_by.nd rfl (Or.inl rfl) (pe_callH (has__law_step_by T) (hr.mono (by decide)) passL (pa_cons (pv 2) (pa_cons (pv 3) (pa_cons (pv 1) pa_nil)))))))
      (pss_one (ps_ret (pv 2))))), ?_⟩
    refine q_asgL (xs := iv (List.replicate (ds.length - 1) 0)) (el_repN ev_c (ev_is (v := .int ((ds.length : Int) - 1)) (by walk_at "cg ev") (congrArg V.int (by omega))) (by omega)) fun p H1 n1 e1 h1 => ?_
    refine q_forLn (ev_var rfl) (by walk_at "cg sq") (fun i σ' H' => Ex H H' ∧ ∃ (p : Addr) (v : Option V), σ' = [some (.ref a), some (.ref b), some (.ref p), v] ∧ H p = none ∧ H' p = some (.lst (iv (prun ds (xs.take i)).2))) ?_ (fun i σ' H' _ h => sq_of (h.1 _ _ ha)) ?_ ?_
    · exact fun H2 e2 => ⟨e1.trans e2, p, none, rfl, n1, e2 _ _ h1⟩
    · rintro i x σ' H' hx ⟨e', p, v, rfl, np, hpp⟩
      obtain ⟨n, hn, rfl⟩ := iv_at hx
      have L := prun_len hp (xs.take i)
      have B := prun_bits bd (bx.take i)
      have step : prun ds (xs.take (i + 1)) = pstep ds (prun ds (xs.take i)) n := by
        rw [List.take_add_one, hn]
        exact prun_snoc _ _ _
      refine s_asgC (by walk_at "cg ea") fun H8 e8 => ⟨p, b, (prun ds (xs.take i)).2, ds, n, rfl, e8 _ _ hpp, e8 _ _ (e' _ _ hb), B.2, bd, bx.get hn, by omega, fun p2 H9 n9 e9 h9 => ⟨(e'.trans e8).trans e9, p2, _, rfl, fresh_back (e'.trans e8) n9, ?_⟩⟩
      rw [step]
      exact h9
    · rintro σ' H' ⟨e', p, v, rfl, np, hpp⟩
      rw [iv_len, List.take_length] at hpp
      exact s_ret (ev_var rfl) fun H8 e8 => q p _ np (e'.trans e8) (e8 _ _ hpp)


/-! ## is_count, Gate.later -/
def countB : V → Option Bool
  | .int i => some (decide (0 ≤ i) && decide (i ≤ 1000000000000000000))
  | .bl _ => some false
  | .non => some false
  | _ => none
def sp_is_count : Sp := fun vs H Q _ => ∃ (v : V) (b : Bool), vs = [v] ∧ countB v = some b ∧ RetV (.bl b) H Q
theorem has_is_count (T : Txt K mg cs) : Has P w K mg base 1 "is_count" ["value"] sp_is_count := by
  refine T.d_is_count.ok sc_is_count (fun vs H Q E h => ?_) (fun f cdv A outer s H vs Q E hr h => ?_)
  · obtain ⟨v, b, rfl, _⟩ := h
    rfl
  · obtain ⟨v, b, rfl, hv, q⟩ := h
    refine ⟨_, (pss_cons (ps_if (PW.pt (pw_or (pt_not (pt_val (pe_callB (kk_isi K) (by rfl) T.z_isinstance b_isinstance (pa_cons (pv 0) (pa_cons (pe_bltn (v := .ty "int") (u := .type "int") (by rfl) T.z_int b_int rfl) pa_nil))))) (pw_or1 (pt_val (pe_callB (kk_isi K) (by rfl) T.z_isinstance b_isinstance (pa_cons (pv 0) (pa_cons (pe_bltn (v := .ty "bool") (u := .type "bool") (by rfl) T.z_bool b_bool rfl) pa_nil))))))) (pss_one (ps_ret pe_bl)) pss_nil)
      (pss_one (ps_ret (pe_chain op_le op_le pe_int (pv 0) (pe_globI T.g_MOST_NOUGHTS))))), ?_⟩
    cases v with
    | int i =>
      cases hv
      refine q_when (b := false) (et_is (et_or (a := false) (et_is (et_not (et_B (ev_isiF (ev_var rfl) rfl kit_int_int))) rfl) (fun _ => et_B (ev_isiF (ev_var rfl) rfl kit_int_bool))) rfl) (fun h => nomatch h) (fun _ H1 e1 => ?_)
      obtain ⟨t, gm⟩ := T.g_MOST_NOUGHTS
      exact s_ret (ev_chain ev_c (ev_var rfl) ev_c) fun H2 e2 => q H2 (e1.trans e2)
    | bl k =>
      cases hv
      refine q_when (b := true) (et_is (et_or (a := false) (et_is (et_not (et_B (ev_isiF (ev_var rfl) rfl kit_bool_int))) rfl) (fun _ => et_B (ev_isiF (ev_var rfl) rfl kit_bool_bool))) rfl) (fun _ H1 e1 => ?_) (fun h => nomatch h)
      exact s_ret ev_c fun H2 e2 => q H2 (e1.trans e2)
    | non =>
      cases hv
      refine q_when (b := true) (et_is (et_or (a := true) (et_is (et_not (et_B (ev_isiF (ev_var rfl) rfl kit_NoneType_int))) rfl) (b := false) (fun h => nomatch h)) rfl) (fun _ H1 e1 => ?_) (fun h => nomatch h)
      exact s_ret ev_c fun H2 e2 => q H2 (e1.trans e2)
    | str _ => cases hv
    | byt _ => cases hv
    | flt _ => cases hv
    | ref _ => cases hv
    | ty _ => cases hv
theorem gfs_later {r : Int} {da : Addr} {w : Int} {ev : Bool} : (gfs r da w ev).lookup ("later" : Str) = none := gfs_no (by decide +kernel) (by decide +kernel) (by decide +kernel) (by decide +kernel)
def sp_Gate_later (cs : Cs) : Sp := fun vs H Q E => ∃ (g da a : Addr) (v : V) (ds R : List Int), vs = [.ref g, .ref a, v] ∧ GateAt cs H g da ds ∧ H a = some (.lst (iv R)) ∧ RowOf (ds.length - 1) R ∧
  ((∃ m : Nat, v = .int (m : Int) ∧ m ≤ 1000000000000000000 ∧ RetL (iv (its ds (m % rch ds) R)) H Q) ∨ (countB v = some false ∧ ∀ H', Ex H H' → E (.ref cs.NoCount) none H'))
theorem has_Gate_later (T : Txt K mg cs) : HasM P w K mg base 6 cs.Gate "later" ["self", "rest", "many"] (sp_Gate_later cs) := by
  refine T.m_Gate_later.ok sc_Gate_later (fun vs H Q E h => ?_) (fun f cdv A outer s H vs Q E hr h => ?_)
  · obtain ⟨g, da, a, v, ds, R, rfl, _⟩ := h
    rfl
  · obtain ⟨g, da, a, v, ds, R, rfl, G, ha, bR, hor⟩ := h
    refine ⟨_, (pss_cons (ps_expr (pe_callH (has_need_row T) (hr.mono (by decide)) (passes_call (takes_of rfl rfl rfl rfl) (fun _ _ _ _ h => h)) (pa_cons (pv 1) pa_nil)))
      (pss_cons (ps_if (pt_cmpR op_neII (pe_callB (kk_len K) (by rfl) T.z_len b_len (pa_cons (pv 1) pa_nil)) (pe_fld (pv 0) rfl) (nomark _)) (pss_one ps_never) pss_nil)
      (pss_cons (ps_if (pt_not (pt_val (pe_callH (has_is_count T) (hr.mono (by decide)) (passes_call (takes_of rfl rfl rfl rfl) (fun _ _ _ _ h => h)) (pa_cons (pv 2) pa_nil)))) (pss_one (ps_raise rfl (takes_of rfl rfl rfl rfl) (pmk_own PySem.F.excBase_ValueError T.e_NoCount.x T.e_NoCount.g T.e_NoCount.k T.e_NoCount.r (by exact rfl)))) pss_nil)
      (pss_one (ps_ret (pe_methH (pv 0) T.c_Gate.cl (has_Gate_rest T) (hr.mono (by decide)) (passes_call (takes_of rfl rfl rfl rfl) (fun _ _ _ _ h => h)) (pa_cons (pe_op op_cat (pv 1) (pe_op op_rep (pe_lst (pa_cons pe_int pa_nil)) (pe_op op_mod (pv 2) (pe_fld (pv 0) rfl)))) pa_nil))))))), ?_⟩
    have top := G.D.top
    have it := rch_top G.D
    have ip := (rch_is G.D).1.pos
    refine q_dropC (by walk_at "cg ea") fun H1 e1 => ⟨a, R, rfl, e1 _ _ ha, bR.1, fun H2 e2 => ?_⟩
    have e := e1.trans e2
    have a2 : H2 a = some (.lst (iv R)) := e _ _ ha
    have G2 := G.mono e
    obtain ⟨dx, ho⟩ := G2.ob
    clear e1 e2
    refine q_when (b := false) (et_is (et_test (ev_i0 (ev_lenI (er_var rfl a2)) (ev_fld (ev_var rfl) ho T.c_Gate.cl T.n_Gate_width gfs_width))) (by rw [bR.2]; simp)) (fun h => nomatch h) (fun _ H3 e3 => ?_)
    rcases hor with ⟨m, rfl, hm, q⟩ | ⟨hv, q⟩
    · have cb : countB (.int (m : Int)) = some true := by
        show some (decide ((0 : Int) ≤ (m : Int)) && decide ((m : Int) ≤ 1000000000000000000)) = some true
        rw [decide_eq_true (by omega), decide_eq_true (by omega)]
        rfl
      refine q_when (b := false) (et_is (et_not (et_B (ev_call (vs := [.int (m : Int)]) (by walk_at "cg ea") fun H1 e1 Q q _ => ⟨_, true, rfl, cb, q⟩))) rfl) (fun h => nomatch h) (fun _ H4 e4 => ?_)
      have eH := (e.trans e3).trans e4
      have G4 := G.mono eH
      obtain ⟨dx4, ho4⟩ := G4.ob
      have em : ((m : Int) % ((rch ds : Nat) : Int)) = ((m % rch ds : Nat) : Int) := rfl
      have lm : m % rch ds < rch ds := Nat.mod_lt _ (by omega)
      refine s_retL (xs := iv (its ds (m % rch ds) R)) (el_is (el_rest (xs := R ++ List.replicate (m % rch ds) 0) (ev_var rfl) G4 (er_L (el_catI (er_var rfl (eH _ _ ha)) (er_L (el_repN ev_c (ev_is (ev_mod (ev_var rfl) (ev_fld (ev_var rfl) ho4 T.c_Gate.cl T.n_Gate_reach gfs_reach) (by show (0 : Int) < _; omega)) (congrArg V.int em)) (by omega))) (by rw [List.length_replicate, bR.2]; omega))) (bR.1.append (.rep _ (.inl rfl))) (by rw [List.length_append, List.length_replicate, bR.2]; omega)) ?_) fun p H5 n5 e5 h5 => q p H5 (fresh_back eH n5) (eH.trans e5) h5
      rw [rest_later G.D bR]
    · refine q_when (b := true) (et_is (et_not (et_B (ev_call (vs := [v]) (by walk_at "cg ea") fun H1 e1 Q q _ => ⟨_, false, rfl, hv, q⟩))) rfl) (fun _ H4 e4 => ?_) (fun h => nomatch h)
      exact q H4 ((e.trans e3).trans e4)
theorem el_later {E : XK} {σ : L2.St} {H : Hp} {ta te tm : TE} {g da : Addr} {ds R : List Int} {m : Nat} (ha : Ev ta σ H (.ref g)) (G : GateAt cs H g da ds) (h : EvR te σ H (iv R)) (hm : Ev tm σ H (.int (m : Int))) (bR : RowOf (ds.length - 1) R) (lm : m ≤ 1000000000000000000) : EvL (tMeth cs.Gate "later" (sp_Gate_later cs) [] E ta (tCons te (tCons tm tNil))) σ H (iv (its ds (m % rch ds) R)) := by
  obtain ⟨dx, ho⟩ := G.ob
  refine el_meth ha ho gfs_later (eap_er h (eap_ev hm eap_nil)) fun vs H1 e1 hv Q q => ?_
  obtain ⟨p, _, rfl, hp, _, rfl, rfl⟩ := hv
  exact ⟨g, da, p, _, ds, R, rfl, G.mono e1, hp, bR, .inl ⟨m, rfl, lm, q⟩⟩


/-! ## a number by a length -/
theorem mod_place (c : Int) {n : Nat} (h : 0 < n) : ∃ k : Nat, c % (n : Int) = (k : Int) ∧ k < n := ⟨(c % (n : Int)).toNat, by
  have := Int.emod_nonneg c (show (n : Int) ≠ 0 by omega)
  omega, by
  have := Int.emod_lt_of_pos c (show (0 : Int) < (n : Int) by omega)
  omega⟩
theorem str_eq (x y : Str) : decide (V.str x = V.str y) = decide (x = y) := by
  by_cases h : x = y
  · subst h; simp
  · have : ¬ V.str x = V.str y := fun e => h (V.str.inj e)
    simp [h, this]


/-! ## how many yes -/
theorem count_sum : ∀ {xs : List Int}, Bits xs → ((xs.count 1 : Nat) : Int) = xs.sum
  | [], _ => rfl
  | x :: r, h => by
    have ih := count_sum (xs := r) h.tail
    rcases h x List.mem_cons_self with rfl | rfl
    · rw [List.count_cons_of_ne (by decide), ih]
      show _ = 0 + r.sum
      omega
    · rw [List.count_cons_self]
      show _ = 1 + r.sum
      omega


/-! ## _law_kept -/
def sp__law_kept : Sp := fun vs H Q _ => ∃ (hd : Addr) (L : List Addr) (n : Nat), vs = [.ref hd] ∧ HeldAt H hd L n ∧ RetV (.bl true) H Q
theorem has__law_kept (T : Txt K mg cs) : Has P w K mg base 1 "_law_kept" ["_law_held"] sp__law_kept := by
  refine T.d__law_kept.ok sc__law_kept (fun vs H Q E h => ?_) (fun f cdv A outer s H vs Q E hr h => ?_)
  · obtain ⟨hd, L, n, rfl, _⟩ := h
    rfl
  · obtain ⟨hd, L, n, rfl, ⟨ts, h1, h2, h3⟩, q⟩ := h
    refine ⟨_, (pss_cons (ps_for (passes_of rfl) rfl (pi_list (pv 0)) (pg_tup rfl (pgs_cons (pg_name (i := 1) sc__law_kept.nd rfl (Or.inl rfl)) (pgs_cons (pg_name (i := 2) sc__law_kept.nd rfl (Or.inl rfl)) pgs_nil))) (pss_one (ps_if (pt_cmpR (kk_neD K hr.units) (pv 1) (pv 2) (nomark _)) (pss_one (ps_ret pe_bl)) pss_nil)))
      (pss_one (ps_ret pe_bl))), ?_⟩
    refine q_forL (ev_var rfl) (sq_of h1) (fun i σ' H' => Ex H H' ∧ ∃ v1 v2, σ' = [some (.ref hd), v1, v2]) (fun H1 e1 => ⟨e1, none, none, rfl⟩) (fun i σ' H' _ h => sq_of (h.1 _ _ h1)) ?_ ?_
    · rintro i x σ' H' hx ⟨e, v1, v2, rfl⟩
      rw [List.getElem?_map] at hx
      cases ht : ts[i]? with
      | none => rw [ht] at hx; cases hx
      | some t =>
        rw [ht] at hx
        cases hx
        obtain ⟨a, b, ws, k1, k2, k3, _⟩ := h3 t (List.mem_of_getElem? ht)
        refine tup2_go (st_of (e _ _ k1)) ?_
        refine s_when (et_test (ev_neR (xs := ws) (ys := ws) (er_var rfl (e _ _ k2)) (er_var rfl (e _ _ k3)))) (fun hb => by simp at hb) (fun _ H2 e2 => ⟨e.trans e2, _, _, rfl⟩)
    · rintro σ' H' ⟨e, v1, v2, rfl⟩
      exact s_ret ev_c fun H2 e2 => q H2 (e.trans e2)


/-! ## _law_told, _law_made, _law_rested, _law_checked, _law_refused, _law_later -/
theorem even_sum {ds : List Int} (h : Bits ds) : evenB ds = decide (ds.sum % 2 = 0) := by
  unfold evenB
  rw [count_sum h]
def sp__law_told (cs : Cs) : Sp := fun vs H Q _ => ∃ (g da b : Addr) (ds : List Int), vs = [.ref g, .ref b, .int (rch ds : Nat)] ∧ GateAt cs H g da ds ∧ H b = some (.lst (iv ds)) ∧ RetV (.bl true) H Q
theorem has__law_told (T : Txt K mg cs) : Has P w K mg base 2 "_law_told" ["_law_gate", "_law_divisor", "_law_due"] (sp__law_told cs) := by
  refine T.d__law_told.ok sc__law_told (fun vs H Q E h => ?_) (fun f cdv A outer s H vs Q E hr h => ?_)
  · obtain ⟨g, da, b, ds, rfl, _⟩ := h
    rfl
  · obtain ⟨g, da, b, ds, rfl, G, hb, q⟩ := h
    refine ⟨_, (pss_cons (ps_if (PW.pt (pw_or (pt_not (pt_val (pe_callH (has__law_is_row T) (hr.mono (by decide)) passL (pa_cons (pe_fld (pv 0) rfl) (pa_cons (pe_callB (kk_len K) (by rfl) T.z_len b_len (pa_cons (pv 1) pa_nil)) pa_nil))))) (pw_or1 (pt_cmpR (kk_neD K hr.units) (pe_fld (pv 0) rfl) (pv 1) (nomark _))))) (pss_one (ps_ret pe_bl)) pss_nil)
      (pss_cons (ps_if (PW.pt (pw_or (pt_not (pt_val (pe_callB (kk_isi K) (by rfl) T.z_isinstance b_isinstance (pa_cons (pe_fld (pv 0) rfl) (pa_cons (pe_bltn (v := .ty "int") (u := .type "int") (by rfl) T.z_int b_int rfl) pa_nil))))) (pw_or (pt_val (pe_callB (kk_isi K) (by rfl) T.z_isinstance b_isinstance (pa_cons (pe_fld (pv 0) rfl) (pa_cons (pe_bltn (v := .ty "bool") (u := .type "bool") (by rfl) T.z_bool b_bool rfl) pa_nil)))) (pw_or1 (pt_cmpR op_neII (pe_fld (pv 0) rfl) (pe_op op_sub (pe_callB (kk_len K) (by rfl) T.z_len b_len (pa_cons (pv 1) pa_nil)) pe_int) (nomark _)))))) (pss_one (ps_ret pe_bl)) pss_nil)
      (pss_cons (ps_if (PW.pt (pw_or (pt_not (pt_val (pe_callB (kk_isi K) (by rfl) T.z_isinstance b_isinstance (pa_cons (pe_fld (pv 0) rfl) (pa_cons (pe_bltn (v := .ty "int") (u := .type "int") (by rfl) T.z_int b_int rfl) pa_nil))))) (pw_or (pt_val (pe_callB (kk_isi K) (by rfl) T.z_isinstance b_isinstance (pa_cons (pe_fld (pv 0) rfl) (pa_cons (pe_bltn (v := .ty "bool") (u := .type "bool") (by rfl) T.z_bool b_bool rfl) pa_nil)))) (pw_or1 (pt_cmpR op_neII (pe_fld (pv 0) rfl) (pv 2) (nomark _)))))) (pss_one (ps_ret pe_bl)) pss_nil)
      (pss_one (ps_ret (pe_and (pe_callB (kk_isi K) (by rfl) T.z_isinstance b_isinstance (pa_cons (pe_fld (pv 0) rfl) (pa_cons (pe_bltn (v := .ty "bool") (u := .type "bool") (by rfl) T.z_bool b_bool rfl) pa_nil))) (pe_one (pe_cmpR op_eq (pe_fld (pv 0) rfl) (pe_cmpR op_eqII (pe_op op_mod (pe_callB (kk_sum K rfl) (by rfl) T.z_sum b_sum (pa_cons (pv 1) pa_nil)) pe_int) pe_int (nomark _)) (nomark _))))))))), ?_⟩
    have D := G.D
    have top := D.top
    have two := D.two
    obtain ⟨dx, ho⟩ := G.ob
    have fd : ∀ {H' : Hp}, Ex H H' → EvR (tFld K (tVar 0) "divisor") [some (.ref g), some (.ref b), some (.int (rch ds : Nat))] H' (iv ds) := fun e => er_ev (ev_fld (ev_var rfl) (e _ _ ho) T.c_Gate.cl T.n_Gate_divisor gfs_divisor) (e _ _ G.dv)
    refine q_when (b := false) (et_is (et_or (a := false) (et_is (et_not (et_B (et_is_row (ns := ds) (fd (.refl _)) (ev_lenI (er_var rfl hb)) D.bits (by omega)))) rfl) (fun _ => et_test (ev_neR (xs := ds) (ys := ds) (fd (.refl _)) (er_var rfl hb)))) (by simp)) (fun h => nomatch h) (fun _ H1 e1 => ?_)
    have fw : ∀ {H' : Hp}, Ex H H' → Ev (tFld K (tVar 0) "width") [some (.ref g), some (.ref b), some (.int (rch ds : Nat))] H' (.int ((ds.length - 1 : Nat) : Int)) := fun e => ev_fld (ev_var rfl) (e _ _ ho) T.c_Gate.cl T.n_Gate_width gfs_width
    have fr : ∀ {H' : Hp}, Ex H H' → Ev (tFld K (tVar 0) "reach") [some (.ref g), some (.ref b), some (.int (rch ds : Nat))] H' (.int ((rch ds : Nat) : Int)) := fun e => ev_fld (ev_var rfl) (e _ _ ho) T.c_Gate.cl T.n_Gate_reach gfs_reach
    have fe : ∀ {H' : Hp}, Ex H H' → Ev (tFld K (tVar 0) "even") [some (.ref g), some (.ref b), some (.int (rch ds : Nat))] H' (.bl (evenB ds)) := fun e => ev_fld (ev_var rfl) (e _ _ ho) T.c_Gate.cl T.n_Gate_even gfs_even
    refine q_when (b := false) (et_is (et_or (a := false) (et_is (et_not (et_B (ev_isiF (fw e1) rfl kit_int_int))) rfl) (fun _ => et_or (a := false) (et_B (ev_isiF (fw e1) rfl kit_int_bool)) (fun _ => et_test (ev_i0 (fw e1) (ev_i0 (ev_lenI (er_var rfl (e1 _ _ hb))) ev_c))))) ?_) (fun h => nomatch h) (fun _ H2 e2 => ?_)
    · have z : ((ds.length - 1 : Nat) : Int) = (ds.length : Int) - 1 := by omega
      simp [z]
    have e12 := e1.trans e2
    refine q_when (b := false) (et_is (et_or (a := false) (et_is (et_not (et_B (ev_isiF (fr e12) rfl kit_int_int))) rfl) (fun _ => et_or (a := false) (et_B (ev_isiF (fr e12) rfl kit_int_bool)) (fun _ => et_test (ev_i0 (fr e12) (ev_var rfl))))) (by simp)) (fun h => nomatch h) (fun _ H3 e3 => ?_)
    have e13 := e12.trans e3
    refine s_ret (ev_is (ev_andV (a := true) (ev_isiF (fe e13) rfl kit_bool_bool) (fun _ => ev_one (ev_eqS (fe e13) (ev_i0 (ev_mod (ev_sumR (ns := ds) (er_var rfl (e13 _ _ hb))) ev_c (by walk_at "cg ar")) ev_c) rfl))) ?_) fun H4 e4 => q H4 (e13.trans e4)
    rw [even_sum D.bits]
    simp
def sp__law_made (cs : Cs) : Sp := fun vs H Q _ => ∃ (c n : Int), vs = [.int c, .int n] ∧ ∀ ds t p g da H', IsDiv ds → Ex H H' → H p = none → H' t = some (.tup [.ref p, .ref g]) → H' p = some (.lst (iv ds)) → GateAt cs H' g da ds → Q (.ref t) H'
theorem has__law_made (T : Txt K mg cs) : Has P w K mg base 8 "_law_made" ["_law_cell", "_law_bits"] (sp__law_made cs) := by
  refine T.d__law_made.ok sc__law_made (fun vs H Q E h => ?_) (fun f cdv A outer s H vs Q E hr h => ?_)
  · obtain ⟨c, n, rfl, _⟩ := h
    rfl
  · obtain ⟨c, n, rfl, q⟩ := h
    refine ⟨_, (pss_cons (ps_set (i := 2) sc__law_made.nd rfl (Or.inl rfl) (pe_callH (has__law_divisor_by T) (hr.mono (by decide)) passL (pa_cons (pv 0) (pa_cons (pv 1) pa_nil))))
      (pss_cons (ps_set (i := 3) sc__law_made.nd rfl (Or.inl rfl) (pe_callTy (kk_list K) (by rfl) T.z_list b_list (pa_cons (pv 2) pa_nil)))
      (pss_cons (ps_set (i := 4) sc__law_made.nd rfl (Or.inl rfl) (pe_makeH (has_Gate___init__ T) (hr.mono (by decide)) T.c_Gate.g passL (pa_cons (pv 3) pa_nil)))
      (pss_cons (ps_expr (pe_bm PySem.F.plainAttrs_list PySem.F.slot_list_append PySem.F.type_list_append mt_append (pv 3) (pa_cons pe_int pa_nil)))
      (pss_one (ps_ret (pe_tup (pa_cons (pv 2) (pa_cons (pv 4) pa_nil))))))))), ?_⟩
    refine q_asgC (by walk_at "cg ea") fun H1 e1 => ⟨_, _, rfl, fun ds D p H2 n2 e2 h2 => ?_⟩
    have two := D.two
    have top := D.top
    refine q_asgL (el_listR (xs := iv ds) (er_var rfl h2)) fun l H3 n3 e3 h3 => ?_
    refine q_asgW ?_
    refine eg_make (cs := cs) D (er_var rfl h3) H3 (Ex.refl H3) _ fun g da H4 ng nda e4 G => ?_
    have npl : p ≠ l := ne_of_none h2 n3
    have ngl : g ≠ l := (ne_of_none h3 ng).symm
    have ndl : da ≠ l := (ne_of_none h3 nda).symm
    have nl : H l = none := fresh_back (e1.trans e2) n3
    have eH := ((e1.trans e2).trans e3).trans e4
    refine q_appK (e4 _ _ h3) (ev_var rfl) ev_c (by omega) fun H5 k5 _ => ?_
    have e5 := k5.ex nl eH
    have p5 := k5 _ _ npl (e4 _ _ (e3 _ _ h2))
    have G5 := G.kp k5 ngl ndl
    exact s_retU (eu_tup (ea_two (ev_var rfl) (ev_var rfl)) (by show 2 ≤ 100000; decide)) fun t H6 n6 e6 h6 => q ds t p g da H6 D (e5.trans e6) (fresh_back e1 n2) h6 (e6 _ _ p5) (G5.mono e6)
def sp__law_rested (cs : Cs) : Sp := fun vs H Q _ => ∃ (g da a b hd : Addr) (ds xs : List Int) (n : Nat), vs = [.ref g, .ref a, .ref b, .ref hd] ∧ GateAt cs H g da ds ∧ a ≠ hd ∧ b ≠ hd ∧ H a = some (.lst (iv xs)) ∧ H b = some (.lst (iv ds)) ∧ Bits xs ∧ xs.length ≤ 9000 ∧ HeldAt H hd [] n ∧ n ≤ 1000 ∧
  ∀ H' m, Kp hd H H' → HeldAt H' hd [] m → m ≤ n + 1 → Q (.bl true) H'
theorem has__law_rested (T : Txt K mg cs) : Has P w K mg base 6 "_law_rested" ["_law_gate", "_law_row", "_law_divisor", "_law_held"] (sp__law_rested cs) := by
  refine T.d__law_rested.ok sc__law_rested (fun vs H Q E h => ?_) (fun f cdv A outer s H vs Q E hr h => ?_)
  · obtain ⟨g, da, a, b, hd, ds, xs, n, rfl, _⟩ := h
    rfl
  · obtain ⟨g, da, a, b, hd, ds, xs, n, rfl, G, nah, nbh, ha, hb, bx, lx, hh, hn, q⟩ := h
    refine ⟨_, (pss_cons (ps_set (i := 4) sc__law_rested.nd rfl (Or.inl rfl) (pe_callTy (kk_list K) (by rfl) T.z_list b_list (pa_cons (pv 1) pa_nil)))
      (pss_cons (ps_set (i := 5) sc__law_rested.nd rfl (Or.inl rfl) (pe_methH (pv 0) T.c_Gate.cl (has_Gate_rest T) (hr.mono (by decide)) passL (pa_cons (pv 4) pa_nil)))
      (pss_cons (ps_set (i := 6) sc__law_rested.nd rfl (Or.inl rfl) (pe_callH (has__law_rest_by T) (hr.mono (by decide)) passL (pa_cons (pv 1) (pa_cons (pv 2) pa_nil))))
      (pss_cons (ps_if (PW.pt (pw_or (pt_not (pt_val (pe_callH (has__law_is_row T) (hr.mono (by decide)) passL (pa_cons (pv 5) (pa_cons (pe_callB (kk_len K) (by rfl) T.z_len b_len (pa_cons (pv 6) pa_nil)) pa_nil))))) (pw_or1 (pt_cmpR (kk_neD K hr.units) (pv 5) (pv 6) (nomark _))))) (pss_one (ps_ret pe_bl)) pss_nil)
      (pss_cons (ps_expr (pe_bm PySem.F.plainAttrs_list PySem.F.slot_list_append PySem.F.type_list_append mt_append (pv 5) (pa_cons pe_int pa_nil)))
      (pss_cons (ps_expr (pe_bm PySem.F.plainAttrs_list PySem.F.slot_list_append PySem.F.type_list_append mt_append (pv 3) (pa_cons (pe_tup (pa_cons (pv 5) (pa_cons (pe_callTy (kk_list K) (by rfl) T.z_list b_list (pa_cons (pv 5) pa_nil)) pa_nil))) pa_nil)))
      (pss_one (ps_ret (pe_cmpR (kk_eqD K hr.units) (pv 4) (pv 1) (nomark _)))))))))), ?_⟩
    have D := G.D
    have top := D.top
    have two := D.two
    have R := rest_row D bx
    obtain ⟨ts, hh0, _⟩ := id hh
    refine q_asgL (el_listR (xs := iv xs) (er_var rfl ha)) fun p H1 n1 e1 h1 => ?_
    have nph : p ≠ hd := (ne_of_none hh0 n1).symm
    have held1 := hh.mono e1
    obtain ⟨ts1, hh1, _⟩ := id held1
    refine q_asgL (el_rest (ev_var rfl) (G.mono e1) (er_var rfl h1) bx (by omega)) fun fo H2 n2 e2 h2 => ?_
    have npf : p ≠ fo := ne_of_none h1 n2
    have nfh : fo ≠ hd := (ne_of_none hh1 n2).symm
    have nf : H fo = none := fresh_back e1 n2
    have held2 := (held1.more n2).mono e2
    have e := e1.trans e2
    have p2 := e2 _ _ h1
    clear e1 e2 h1 n2 held1 hh1
    refine q_asgC (ea_two (ev_var rfl) (ev_var rfl)) fun H3 e3 => ⟨a, b, xs, ds, rfl, e3 _ _ (e _ _ ha), e3 _ _ (e _ _ hb), bx, D.bits, by omega, by omega, fun du H4 n4 e4 h4 => ?_⟩
    have e' := (e.trans e3).trans e4
    have p4 := e4 _ _ (e3 _ _ p2)
    have f4 := e4 _ _ (e3 _ _ h2)
    have held4 := (held2.mono e3).mono e4
    clear e e3 e4 p2 h2 held2 n4
    refine q_when (b := false) (et_is (et_or (a := false) (et_is (et_not (et_B (et_is_row (ns := restR ds xs) (er_var rfl f4) (ev_lenI (er_var rfl h4)) R.1 (by rw [R.2]; omega)))) rfl) (fun _ => et_test (ev_neR (xs := restR ds xs) (ys := restR ds xs) (er_var rfl f4) (er_var rfl h4)))) (by simp)) (fun h => nomatch h) (fun _ H5 e5 => ?_)
    have eH5 := e'.trans e5
    have p5 := e5 _ _ p4
    have f5 := e5 _ _ f4
    have held5 := held4.mono e5
    clear e' e5 p4 f4 held4 h4
    refine q_appK f5 (ev_var rfl) ev_c (by rw [R.2]; omega) fun H6 k6 f6 => ?_
    have eH6 := k6.ex nf eH5
    have p6 := k6 _ _ npf p5
    have held6 := (held5.kp k6 List.mem_cons_self nfh ⟨_, f5⟩).less
    clear k6 p5 f5 held5 eH5
    refine q_held (B := but hd H) but_same ((Kp.of eH6).but) held6 (fun z hz => by cases hz) (by omega) rfl rfl f6 nfh (fun z => by cases z) fun H7 eB7 k7 held7 => ?_
    have a7 : H7 a = some (.lst (iv xs)) := k7 _ _ nah (eH6 _ _ ha)
    exact s_ret (ev_is (ev_eqR (xs := xs) (ys := xs) (er_var rfl (k7 _ _ nph p6)) (er_var rfl a7)) (by simp)) fun H8 e8 => q H8 _ (((Kp.of eH6).trans k7).trans (Kp.of e8)) (held7.mono e8) (by omega)
def sp__law_checked (cs : Cs) : Sp := fun vs H Q _ => ∃ (g da a c b hd : Addr) (ds xs : List Int) (n : Nat), vs = [.ref g, .ref a, .ref c, .ref b, .ref hd] ∧ GateAt cs H g da ds ∧ a ≠ hd ∧ b ≠ hd ∧ H a = some (.lst (iv xs)) ∧ H c = some (.lst (iv (restR ds xs))) ∧ H b = some (.lst (iv ds)) ∧ Bits xs ∧ xs.length ≤ 8000 ∧ HeldAt H hd [] n ∧ n ≤ 1000 ∧
  ∀ H' m, Kp hd H H' → HeldAt H' hd [] m → m ≤ n + 1 → Q (.bl true) H'
theorem has__law_checked (T : Txt K mg cs) : Has P w K mg base 7 "_law_checked" ["_law_gate", "_law_row", "_law_due", "_law_divisor", "_law_held"] (sp__law_checked cs) := by
  refine T.d__law_checked.ok sc__law_checked (fun vs H Q E h => ?_) (fun f cdv A outer s H vs Q E hr h => ?_)
  · obtain ⟨g, da, a, c, b, hd, ds, xs, n, rfl, _⟩ := h
    rfl
  · obtain ⟨g, da, a, c, b, hd, ds, xs, n, rfl, G, nah, nbh, ha, hc, hb, bx, lx, hh, hn, q⟩ := h
    refine ⟨_, (pss_cons (ps_for (passes_of rfl) rfl (pi_range1 (by rfl) T.z_range (pa_cons (pe_op op_sub (pe_callB (kk_len K) (by rfl) T.z_len b_len (pa_cons (pv 3) pa_nil)) pe_int) pa_nil)) (pg_name (i := 5) sc__law_checked.nd rfl (Or.inl rfl)) (pss_one (ps_set (i := 2) sc__law_checked.nd rfl (Or.inl rfl) (pe_callH (has__law_step_by T) (hr.mono (by decide)) passL (pa_cons (pv 2) (pa_cons pe_int (pa_cons (pv 3) pa_nil)))))))
      (pss_cons (ps_set (i := 6) sc__law_checked.nd rfl (Or.inl rfl) (pe_callTy (kk_list K) (by rfl) T.z_list b_list (pa_cons (pv 1) pa_nil)))
      (pss_cons (ps_set (i := 7) sc__law_checked.nd rfl (Or.inl rfl) (pe_methH (pv 0) T.c_Gate.cl (has_Gate_check T) (hr.mono (by decide)) passL (pa_cons (pv 6) pa_nil)))
      (pss_cons (ps_expr (pe_bm PySem.F.plainAttrs_list PySem.F.slot_list_append PySem.F.type_list_append mt_append (pv 4) (pa_cons (pe_tup (pa_cons (pv 7) (pa_cons (pe_callTy (kk_list K) (by rfl) T.z_list b_list (pa_cons (pv 7) pa_nil)) pa_nil))) pa_nil)))
      (pss_one (ps_ret (pe_and (pe_callH (has__law_is_row T) (hr.mono (by decide)) passL (pa_cons (pv 7) (pa_cons (pe_op op_sub (pe_callB (kk_len K) (by rfl) T.z_len b_len (pa_cons (pv 3) pa_nil)) pe_int) pa_nil))) (pe_and (pe_cmpR (kk_eqD K hr.units) (pv 7) (pv 2) (nomark _)) (pe_one (pe_cmpR (kk_eqD K hr.units) (pv 6) (pv 1) (nomark _))))))))))), ?_⟩
    have D := G.D
    have top := D.top
    have two := D.two
    have R := rest_row D bx
    have C := chk_row D bx
    obtain ⟨ts, hh0, _⟩ := id hh
    refine q_forR1 (n := ((ds.length - 1 : Nat) : Int)) (ea_one (ev_is (v := .int ((ds.length : Int) - 1)) (ev_i0 (ev_lenI (er_var rfl hb)) ev_c) (congrArg V.int (by omega)))) (by omega) (fun i σ' H' => Ex H H' ∧ ∃ (pl : Addr) (v : Option V), σ' = [some (.ref g), some (.ref a), some (.ref pl), some (.ref b), some (.ref hd), v, none, none] ∧ pl ≠ hd ∧ H' pl = some (.lst (iv (its ds i (restR ds xs))))) ?_ ?_ ?_
    · refine fun H1 e1 => ⟨e1, c, none, rfl, fun z => ?_, e1 _ _ hc⟩
      rw [z, hh0] at hc
      have hc' := HO.lst.inj (Option.some.inj hc)
      have l1 : 0 < (iv (restR ds xs)).length := by rw [iv_len, R.2]; omega
      cases hts : ts with
      | nil => rw [hts] at hc'; rw [← hc'] at l1; exact absurd l1 (by decide)
      | cons t r =>
        rw [hts] at hc'
        cases hr' : restR ds xs with
        | nil => rw [hr'] at hc'; cases hc'
        | cons y s => rw [hr'] at hc'; cases hc'
    · rintro i σ' H' hi ⟨e', pl, v, rfl, nph, hpl⟩
      have R' := its_row D R i
      refine s_asgC (ea_cons (ev_var rfl) (ea_two ev_c (ev_var rfl))) fun H7 e7 => ⟨pl, b, its ds i (restR ds xs), ds, 0, rfl, e7 _ _ hpl, e7 _ _ (e' _ _ hb), R'.1, D.bits, .inl rfl, by rw [R'.2]; omega, fun l H8 n8 e8 h8 => ⟨(e'.trans e7).trans e8, l, _, rfl, ?_, h8⟩⟩
      exact (ne_of_none (e7 _ _ (e' _ _ hh0)) n8).symm
    · rintro σ' H1 ⟨e1, pl, v, rfl, nplh, hpl⟩
      rw [Int.toNat_natCast] at hpl
      have hpl' : H1 pl = some (.lst (iv (chk ds xs))) := hpl
      refine q_asgL (el_listR (xs := iv xs) (er_var rfl (e1 _ _ ha))) fun p H2 n2 e2 h2 => ?_
      have nph : p ≠ hd := (ne_of_none (e1 _ _ hh0) n2).symm
      have e12 := e1.trans e2
      refine q_asgL (el_check (ev_var rfl) (G.mono e12) (er_var rfl h2) bx (by omega)) fun ck H3 n3 e3 h3 => ?_
      have nch : ck ≠ hd := (ne_of_none (e12 _ _ hh0) n3).symm
      have e13 := e12.trans e3
      refine q_held (B := but hd H) but_same ((Kp.of e13).but) (hh.mono e13) (fun z hz => by cases hz) (by omega) rfl rfl h3 nch (fun z => by cases z) fun H4 eB4 k4 held4 => ?_
      have a4 : H4 a = some (.lst (iv xs)) := k4 _ _ nah (e13 _ _ ha)
      have b4 : H4 b = some (.lst (iv ds)) := k4 _ _ nbh (e13 _ _ hb)
      have c4 := k4 _ _ nch h3
      have d4 := k4 _ _ nplh (e3 _ _ (e2 _ _ hpl'))
      have p4 := k4 _ _ nph (e3 _ _ h2)
      refine s_ret (ev_is (ev_andV (a := true) (et_is_row (ns := chk ds xs) (er_var rfl c4) (ev_is (v := .int ((ds.length : Int) - 1)) (ev_i0 (ev_lenI (er_var rfl b4)) ev_c) (congrArg V.int (by rw [C.2]; omega))) C.1 (by rw [C.2]; omega)) (fun _ => ev_andV (a := true) (ev_is (ev_eqR (xs := chk ds xs) (ys := chk ds xs) (er_var rfl c4) (er_var rfl d4)) (by simp)) (fun _ => ev_one (ev_eqR (xs := xs) (ys := xs) (er_var rfl p4) (er_var rfl a4))))) (by simp)) fun H5 e5 => q H5 _ (((Kp.of e13).trans k4).trans (Kp.of e5)) (held4.mono e5) (by omega)
def sp__law_refused (cs : Cs) : Sp := fun vs H Q _ => ∃ (g da a : Addr) (v : V) (ds R : List Int), vs = [.ref g, .ref a, v] ∧ GateAt cs H g da ds ∧ H a = some (.lst (iv R)) ∧ RowOf (ds.length - 1) R ∧ countB v = some false ∧ RetV (.bl true) H Q
theorem has__law_refused (T : Txt K mg cs) : Has P w K mg base 7 "_law_refused" ["_law_gate", "_law_rest", "_law_many"] (sp__law_refused cs) := by
  refine T.d__law_refused.ok sc__law_refused (fun vs H Q E h => ?_) (fun f cdv A outer s H vs Q E hr h => ?_)
  · obtain ⟨g, da, a, v, ds, R, rfl, _⟩ := h
    rfl
  · obtain ⟨g, da, a, v, ds, R, rfl, G, ha, bR, hv, q⟩ := h
    refine ⟨_, (pss_cons (ps_set (i := 3) sc__law_refused.nd rfl (Or.inl rfl) pe_bl)
      (pss_cons (ps_try_only rfl rfl ⟨rfl, by decide, .inl T.e_NoCount.g⟩ takes0 (fun W pn xe tk pOwn => (pss_one (ps_expr (pe_methZ (pv 0) T.c_Gate.cl (has_Gate_later T) (hr.mono (by decide)) (fun σ => passAt tk σ) (pa_cons (pv 1) (pa_cons (pv 2) pa_nil)))))) (fun a oe cls d pn _ _ => (pss_one (ps_set (i := 3) sc__law_refused.nd rfl (Or.inl rfl) pe_bl))))
      (pss_cons (ps_if (pt_not (pt_val (pv 3))) (pss_one (ps_ret pe_bl)) pss_nil)
      (pss_cons (ps_try_as (i := 4) rfl rfl sc__law_refused.nd rfl rfl ⟨rfl, by decide, .inl T.e_GateError.g⟩ takes0 (fun W pn xe tk pOwn => (pss_one (ps_expr (pe_methZ (pv 0) T.c_Gate.cl (has_Gate_later T) (hr.mono (by decide)) (fun σ => passAt tk σ) (pa_cons (pv 1) (pa_cons (pv 2) pa_nil)))))) (fun a oe cls d pn hz hf => (pss_one (ps_ret (pe_callB (call_isX hz hf) (by rfl) T.z_isinstance b_isinstance (pa_cons (pv 4) (pa_cons (pe_bltn (v := .ty "ValueError") (u := .type "ValueError") (by rfl) T.z_ValueError b_ValueError rfl) pa_nil)))))))
      (pss_one (ps_ret pe_bl)))))), ?_⟩
    refine q_asg ev_c fun H1 e1 => ?_
    have G1 := G.mono e1
    obtain ⟨dx, ho⟩ := G1.ob
    refine s_dropW (methZ_go (ev_var rfl) ho gfs_later fun H2 e2 => ea_go (vs := [.ref a, v]) (by walk_at "cg ea") fun H3 e3 => ⟨g, da, a, v, ds, R, rfl, (G1.mono e2).mono e3, e3 _ _ (e2 _ _ (e1 _ _ ha)), bR, .inr ⟨hv, fun H4 e4 => ⟨true, T.e_NoCount.exm T.p_NoCount_NoCount, fun _ z hz => ?_, fun h => nomatch h⟩⟩⟩)
    refine s_asg ev_c fun H5 e5 => ?_
    dsimp only
    refine q_when (by walk_at "cg et") (fun hb _ _ => by simp at hb) (fun _ H6 e6 => ?_)
    have e := ((((e1.trans e2).trans e3).trans e4).trans e5).trans e6
    clear e1 e2 e3 e4 e5 e6 G1 ho
    have G1 := G.mono e
    obtain ⟨dx, ho⟩ := G1.ob
    refine s_dropW (methZ_go (ev_var rfl) ho gfs_later fun H2 e2 => ea_go (vs := [.ref a, v]) (by walk_at "cg ea") fun H3 e3 => ⟨g, da, a, v, ds, R, rfl, (G1.mono e2).mono e3, e3 _ _ (e2 _ _ (e _ _ ha)), bR, .inr ⟨hv, fun H4 e4 => ⟨true, T.e_GateError.exm T.p_NoCount_GateError, fun _ z hz => ?_, fun h => nomatch h⟩⟩⟩)
    exact s_ret (ev_isV (ev_var rfl) T.e_NoCount) fun H5 e5 => q H5 ((((e.trans e2).trans e3).trans e4).trans e5)
def sp__law_later (cs : Cs) : Sp := fun vs H Q _ => ∃ (g da a b hd : Addr) (ds R : List Int) (m n : Nat), vs = [.ref g, .ref a, .int (m : Int), .int (rch ds : Nat), .ref b, .ref hd] ∧ GateAt cs H g da ds ∧ a ≠ hd ∧ b ≠ hd ∧ H a = some (.lst (iv R)) ∧ H b = some (.lst (iv ds)) ∧ RowOf (ds.length - 1) R ∧ m ≤ 1000000000000000000 ∧ HeldAt H hd [] n ∧ n ≤ 1000 ∧
  ∀ H' m, Kp hd H H' → HeldAt H' hd [] m → m ≤ n + 1 → Q (.bl true) H'
theorem has__law_later (T : Txt K mg cs) : Has P w K mg base 7 "_law_later" ["_law_gate", "_law_rest", "_law_many", "_law_most", "_law_divisor", "_law_held"] (sp__law_later cs) := by
  refine T.d__law_later.ok sc__law_later (fun vs H Q E h => ?_) (fun f cdv A outer s H vs Q E hr h => ?_)
  · obtain ⟨g, da, a, b, hd, ds, R, m, n, rfl, _⟩ := h
    rfl
  · obtain ⟨g, da, a, b, hd, ds, R, m, n, rfl, G, nah, nbh, ha, hb, bR, lm, hh, hn, q⟩ := h
    refine ⟨_, (pss_cons (ps_set (i := 6) sc__law_later.nd rfl (Or.inl rfl) (pe_callTy (kk_list K) (by rfl) T.z_list b_list (pa_cons (pv 1) pa_nil)))
      (pss_cons (ps_set (i := 7) sc__law_later.nd rfl (Or.inl rfl) (pe_methH (pv 0) T.c_Gate.cl (has_Gate_later T) (hr.mono (by decide)) passL (pa_cons (pv 6) (pa_cons (pv 2) pa_nil))))
      (pss_cons (ps_set (i := 8) sc__law_later.nd rfl (Or.inl rfl) (pv 1))
      (pss_cons (ps_for (passes_of rfl) rfl (pi_range1 (by rfl) T.z_range (pa_cons (pe_op op_mod (pv 2) (pe_callB (kk_max rfl) (by rfl) T.z_max b_max (pa_cons pe_int (pa_cons (pv 3) pa_nil)))) pa_nil)) (pg_name (i := 9) sc__law_later.nd rfl (Or.inl rfl)) (pss_one (ps_set (i := 8) sc__law_later.nd rfl (Or.inl rfl) (pe_callH (has__law_step_by T) (hr.mono (by decide)) passL (pa_cons (pv 8) (pa_cons pe_int (pa_cons (pv 4) pa_nil)))))))
      (pss_cons (ps_if (PW.pt (pw_or (pt_not (pt_val (pe_callH (has__law_is_row T) (hr.mono (by decide)) passL (pa_cons (pv 7) (pa_cons (pe_callB (kk_len K) (by rfl) T.z_len b_len (pa_cons (pv 1) pa_nil)) pa_nil))))) (pw_or1 (pt_cmpR (kk_neD K hr.units) (pv 7) (pv 8) (nomark _))))) (pss_one (ps_ret pe_bl)) pss_nil)
      (pss_cons (ps_expr (pe_bm PySem.F.plainAttrs_list PySem.F.slot_list_append PySem.F.type_list_append mt_append (pv 7) (pa_cons pe_int pa_nil)))
      (pss_cons (ps_expr (pe_bm PySem.F.plainAttrs_list PySem.F.slot_list_append PySem.F.type_list_append mt_append (pv 5) (pa_cons (pe_tup (pa_cons (pv 7) (pa_cons (pe_callTy (kk_list K) (by rfl) T.z_list b_list (pa_cons (pv 7) pa_nil)) pa_nil))) pa_nil)))
      (pss_one (ps_ret (pe_cmpR (kk_eqD K hr.units) (pv 6) (pv 1) (nomark _))))))))))), ?_⟩
    have D := G.D
    have top := D.top
    have two := D.two
    have it := rch_top D
    have ip := (rch_is D).1.pos
    have lmod : m % rch ds < rch ds := Nat.mod_lt _ (by omega)
    obtain ⟨ts, hh0, _⟩ := id hh
    refine q_asgL (el_listR (xs := iv R) (er_var rfl ha)) fun p H1 n1 e1 h1 => ?_
    have nph : p ≠ hd := (ne_of_none hh0 n1).symm
    have held1 := hh.mono e1
    obtain ⟨ts1, hh1, _⟩ := id held1
    refine q_asgL (el_later (ev_var rfl) (G.mono e1) (er_var rfl h1) (ev_var rfl) bR lm) fun fo H2 n2 e2 h2 => ?_
    have L := its_row D bR (m % rch ds)
    have npf : p ≠ fo := ne_of_none h1 n2
    have nfh : fo ≠ hd := (ne_of_none hh1 n2).symm
    have nf : H fo = none := fresh_back e1 n2
    have held2 := (held1.more n2).mono e2
    have e := e1.trans e2
    have p2 := e2 _ _ h1
    clear e1 e2 h1 n2 held1 hh1
    refine q_asg (ev_var rfl) fun H3 e3 => ?_
    have eH3 := e.trans e3
    have f3 := e3 _ _ h2
    have p3 := e3 _ _ p2
    have held3 := held2.mono e3
    clear e e3 h2 p2 held2
    have em : ((m : Int) % ((rch ds : Nat) : Int)) = ((m % rch ds : Nat) : Int) := rfl
    refine q_forR1 (n := ((m % rch ds : Nat) : Int)) (ea_one (ev_is (ev_mod (ev_var rfl) (ev_is (ev_max2 ev_c (ev_var rfl)) (w := .int ((rch ds : Nat) : Int)) (congrArg V.int (by split <;> omega))) (by show (0 : Int) < _; omega)) (congrArg V.int em))) (by omega) (fun i σ' H' => Ex H3 H' ∧ ∃ (pl : Addr) (v : Option V), σ' = [some (.ref g), some (.ref a), some (.int (m : Int)), some (.int ((rch ds : Nat) : Int)), some (.ref b), some (.ref hd), some (.ref p), some (.ref fo), some (.ref pl), v] ∧ H' pl = some (.lst (iv (its ds i R)))) ?_ ?_ ?_
    · exact fun H1 e1 => ⟨e1, a, none, rfl, e1 _ _ (eH3 _ _ ha)⟩
    · rintro i σ' H' hi ⟨e', pl, v, rfl, hpl⟩
      have R' := its_row D bR i
      exact s_asgC (ea_cons (ev_var rfl) (ea_two ev_c (ev_var rfl))) fun H7 e7 => ⟨pl, b, its ds i R, ds, 0, rfl, e7 _ _ hpl, e7 _ _ (e' _ _ (eH3 _ _ hb)), R'.1, D.bits, .inl rfl, by rw [R'.2]; omega, fun l H8 n8 e8 h8 => ⟨(e'.trans e7).trans e8, l, _, rfl, h8⟩⟩
    · rintro σ' H4 ⟨e4, pl, v, rfl, hpl⟩
      rw [Int.toNat_natCast] at hpl
      have eH4 := eH3.trans e4
      have f4 := e4 _ _ f3
      have p4 := e4 _ _ p3
      have held4 := held3.mono e4
      refine q_when (b := false) (et_is (et_or (a := false) (et_is (et_not (et_B (et_is_row (ns := its ds (m % rch ds) R) (er_var rfl f4) (ev_is (ev_lenI (er_var rfl (eH4 _ _ ha))) (congrArg V.int (by rw [L.2, bR.2]))) L.1 (by rw [L.2]; omega)))) rfl) (fun _ => et_test (ev_neR (xs := its ds (m % rch ds) R) (ys := its ds (m % rch ds) R) (er_var rfl f4) (er_var rfl hpl)))) (by simp)) (fun h => nomatch h) (fun _ H5 e5 => ?_)
      have eH5 := eH4.trans e5
      have p5 := e5 _ _ p4
      have f5 := e5 _ _ f4
      have held5 := held4.mono e5
      clear e4 e5 p4 f4 held4 eH4
      refine q_appK f5 (ev_var rfl) ev_c (by rw [L.2]; omega) fun H6 k6 f6 => ?_
      have eH6 := k6.ex nf eH5
      have p6 := k6 _ _ npf p5
      have held6 := (held5.kp k6 List.mem_cons_self nfh ⟨_, f5⟩).less
      refine q_held (B := but hd H) but_same ((Kp.of eH6).but) held6 (fun z hz => by cases hz) (by omega) rfl rfl f6 nfh (fun z => by cases z) fun H7 eB7 k7 held7 => ?_
      have a7 : H7 a = some (.lst (iv R)) := k7 _ _ nah (eH6 _ _ ha)
      exact s_ret (ev_is (ev_eqR (xs := R) (ys := R) (er_var rfl (k7 _ _ nph p6)) (er_var rfl a7)) (by simp)) fun H8 e8 => q H8 _ (((Kp.of eH6).trans k7).trans (Kp.of e8)) (held7.mono e8) (by omega)
def sp_law (K : PySem.W.Frag) : Sp := fun vs H Q _ => ∃ (a : Addr) (ns : List Int), vs = [.ref a] ∧ SqL K H a (iv ns) ∧ ns.length ≤ 63 ∧ ∀ H', Q (.bl true) H'
theorem ok_law {f : Addr} {fd : FuncData} (F : Fun K "law" "law" s_law f fd) (T : Txt K mg cs) : FnOk P w K mg base (L2.CX P w) 9 f fd ["_law_script"] (sp_law K) := by
  refine F.okX sc_law (fun vs H Q E h => ?_) (fun cdv A outer s H vs Q E hr h => ?_)
  · obtain ⟨a, ns, rfl, _⟩ := h
    rfl
  · obtain ⟨a, ns, rfl, hS, hlen, q⟩ := h
    refine ⟨_, (pss_cons (ps_asg (pe_callH (has__law_made T) (hr.mono (by decide)) passL (pa_cons (pe_callH (has__law_cell_at T) (hr.mono (by decide)) passL (pa_cons (pv 0) (pa_cons pe_int pa_nil))) (pa_cons (pe_callH (has__law_cell_at T) (hr.mono (by decide)) passL (pa_cons (pv 0) (pa_cons pe_int pa_nil))) pa_nil))) (pg_tup rfl (pgs_cons (pg_name (i := 1) sc_law.nd rfl (Or.inl rfl)) (pgs_cons (pg_name (i := 2) sc_law.nd rfl (Or.inl rfl)) pgs_nil))))
      (pss_cons (ps_asg (pe_callH (has__law_made T) (hr.mono (by decide)) passL (pa_cons (pe_callH (has__law_cell_at T) (hr.mono (by decide)) passL (pa_cons (pv 0) (pa_cons pe_int pa_nil))) (pa_cons (pe_callH (has__law_cell_at T) (hr.mono (by decide)) passL (pa_cons (pv 0) (pa_cons pe_int pa_nil))) pa_nil))) (pg_tup rfl (pgs_cons (pg_name (i := 3) sc_law.nd rfl (Or.inl rfl)) (pgs_cons (pg_name (i := 4) sc_law.nd rfl (Or.inl rfl)) pgs_nil))))
      (pss_cons (ps_set (i := 5) sc_law.nd rfl (Or.inl rfl) (pe_callH (has__law_reach_by T) (hr.mono (by decide)) passL (pa_cons (pv 1) pa_nil)))
      (pss_cons (ps_if (PW.pt (pw_or (pt_not (pt_val (pe_callH (has__law_told T) (hr.mono (by decide)) passL (pa_cons (pv 2) (pa_cons (pv 1) (pa_cons (pv 5) pa_nil)))))) (pw_or1 (pt_not (pt_val (pe_callH (has__law_told T) (hr.mono (by decide)) passL (pa_cons (pv 4) (pa_cons (pv 3) (pa_cons (pe_callH (has__law_reach_by T) (hr.mono (by decide)) passL (pa_cons (pv 3) pa_nil)) pa_nil))))))))) (pss_one (ps_ret pe_bl)) pss_nil)
      (pss_cons (ps_set (i := 6) sc_law.nd rfl (Or.inl rfl) (pe_op op_mod (pe_callH (has__law_cell_at T) (hr.mono (by decide)) passL (pa_cons (pv 0) (pa_cons pe_int pa_nil))) pe_int))
      (pss_cut (ps_if (pt_cmpR op_eqII (pe_op op_mod (pe_op op_fdiv (pe_callH (has__law_cell_at T) (hr.mono (by decide)) passL (pa_cons (pv 0) (pa_cons pe_int pa_nil))) pe_int) pe_int) pe_int (nomark _)) (pss_one (ps_set (i := 6) sc_law.nd rfl (Or.inl rfl) (pe_op op_mod (pe_op op_fdiv (pe_callH (has__law_cell_at T) (hr.mono (by decide)) passL (pa_cons (pv 0) (pa_cons pe_int pa_nil))) pe_int) pe_int))) pss_nil)
      (pss_cut (ps_if (pt_cmpR op_eqII (pe_op op_mod (pe_op op_fdiv (pe_callH (has__law_cell_at T) (hr.mono (by decide)) passL (pa_cons (pv 0) (pa_cons pe_int pa_nil))) pe_int) pe_int) pe_int (nomark _)) (pss_one (ps_set (i := 6) sc_law.nd rfl (Or.inl rfl) (pe_op op_mod (pe_op op_mul (pe_op op_fdiv (pe_callH (has__law_cell_at T) (hr.mono (by decide)) passL (pa_cons (pv 0) (pa_cons pe_int pa_nil))) pe_int) pe_int) pe_int))) pss_nil)
      (pss_cons (ps_set (i := 7) sc_law.nd rfl (Or.inl rfl) (pe_callH (has__law_row_by T) (hr.mono (by decide)) passL (pa_cons (pe_callH (has__law_cell_at T) (hr.mono (by decide)) passL (pa_cons (pv 0) (pa_cons pe_int pa_nil))) (pa_cons (pv 6) pa_nil))))
      (pss_cons (ps_set (i := 8) sc_law.nd rfl (Or.inl rfl) (pe_callH (has__law_rest_by T) (hr.mono (by decide)) passL (pa_cons (pv 7) (pa_cons (pv 1) pa_nil))))
      (pss_cons (ps_set (i := 9) sc_law.nd rfl (Or.inl rfl) (pe_lst pa_nil))
      (pss_cons (ps_for (passes_of rfl) rfl (pi_list (pe_lst (pa_cons (pe_lst pa_nil) (pa_cons (pv 7) (pa_cons (pe_lst pa_nil) (pa_cons (pv 7) pa_nil)))))) (pg_name (i := 10) sc_law.nd rfl (Or.inl rfl)) (pss_one (ps_if (PW.pt (pw_or (pt_not (pt_val (pe_callH (has__law_rested T) (hr.mono (by decide)) passL (pa_cons (pv 2) (pa_cons (pv 10) (pa_cons (pv 1) (pa_cons (pv 9) pa_nil))))))) (pw_or1 (pt_not (pt_val (pe_callH (has__law_rested T) (hr.mono (by decide)) passL (pa_cons (pv 4) (pa_cons (pv 10) (pa_cons (pv 3) (pa_cons (pv 9) pa_nil)))))))))) (pss_one (ps_ret pe_bl)) pss_nil)))
      (pss_cons (ps_if (pt_not (pt_val (pe_callH (has__law_checked T) (hr.mono (by decide)) passL (pa_cons (pv 2) (pa_cons (pv 7) (pa_cons (pv 8) (pa_cons (pv 1) (pa_cons (pv 9) pa_nil)))))))) (pss_one (ps_ret pe_bl)) pss_nil)
      (pss_cons (ps_set (i := 11) sc_law.nd rfl (Or.inl rfl) (pe_op op_mod (pe_callH (has__law_cell_at T) (hr.mono (by decide)) passL (pa_cons (pv 0) (pa_cons pe_int pa_nil))) pe_int))
      (pss_cons (ps_if (pt_cmpR op_lt (pv 11) pe_int (nomark _)) (pss_cons (ps_set (i := 12) sc_law.nd rfl (Or.inl rfl) (pe_op op_sub (pe_un un_neg pe_int) (pe_op op_mod (pe_callH (has__law_cell_at T) (hr.mono (by decide)) passL (pa_cons (pv 0) (pa_cons pe_int pa_nil))) pe_int)))
      (pss_cons (ps_if (pt_not (pt_val (pe_callH (has__law_refused T) (hr.mono (by decide)) passL (pa_cons (pv 2) (pa_cons (pv 8) (pa_cons (pe_ix (kk_ixl K) (pe_lst (pa_cons (pv 12) (pa_cons (pe_op op_add (pe_op op_pow pe_int pe_int) pe_int) (pa_cons pe_bl (pa_cons pe_bl (pa_cons pe_non pa_nil)))))) (pv 11) (fun _ _ => rfl)) pa_nil)))))) (pss_one (ps_ret pe_bl)) pss_nil)
      (pss_one (ps_ret (pe_callH (has__law_kept T) (hr.mono (by decide)) passL (pa_cons (pv 9) pa_nil)))))) pss_nil)
      (pss_cons (ps_set (i := 13) sc_law.nd rfl (Or.inl rfl) (pe_op op_mod (pe_callH (has__law_cell_at T) (hr.mono (by decide)) passL (pa_cons (pv 0) (pa_cons pe_int pa_nil))) pe_int))
      (pss_cut (ps_if (pt_cmpR op_gt (pv 11) pe_int (nomark _)) (pss_one (ps_set (i := 13) sc_law.nd rfl (Or.inl rfl) (pe_op op_mod (pe_callH (has__law_cell_at T) (hr.mono (by decide)) passL (pa_cons (pv 0) (pa_cons pe_int pa_nil))) (pe_op op_add (pe_op op_pow pe_int pe_int) pe_int)))) pss_nil)
      (pss_cut (ps_if (pt_cmpR op_eqII (pv 11) pe_int (nomark _)) (pss_one (ps_set (i := 13) sc_law.nd rfl (Or.inl rfl) (pe_op op_pow pe_int pe_int))) pss_nil)
      (pss_cons (ps_set (i := 14) sc_law.nd rfl (Or.inl rfl) (pe_callH (has__law_row_by T) (hr.mono (by decide)) passL (pa_cons (pe_callH (has__law_cell_at T) (hr.mono (by decide)) passL (pa_cons (pv 0) (pa_cons pe_int pa_nil))) (pa_cons (pe_callB (kk_len K) (by rfl) T.z_len b_len (pa_cons (pv 8) pa_nil)) pa_nil))))
      (pss_cons (ps_for (passes_of rfl) rfl (pi_list (pe_lst (pa_cons (pv 8) (pa_cons (pv 14) (pa_cons (pv 8) pa_nil))))) (pg_name (i := 10) sc_law.nd rfl (Or.inl rfl)) (pss_one (ps_if (pt_not (pt_val (pe_callH (has__law_later T) (hr.mono (by decide)) passL (pa_cons (pv 2) (pa_cons (pv 10) (pa_cons (pv 13) (pa_cons (pv 5) (pa_cons (pv 1) (pa_cons (pv 9) pa_nil))))))))) (pss_one (ps_ret pe_bl)) pss_nil)))
      (pss_cons (ps_if (pt_not (pt_val (pe_callH (has__law_checked T) (hr.mono (by decide)) passL (pa_cons (pv 2) (pa_cons (pv 14) (pa_cons (pe_callH (has__law_rest_by T) (hr.mono (by decide)) passL (pa_cons (pv 14) (pa_cons (pv 1) pa_nil))) (pa_cons (pv 1) (pa_cons (pv 9) pa_nil)))))))) (pss_one (ps_ret pe_bl)) pss_nil)
      (pss_one (ps_ret (pe_and (pe_callH (has__law_told T) (hr.mono (by decide)) passL (pa_cons (pv 2) (pa_cons (pv 1) (pa_cons (pv 5) pa_nil)))) (pe_one (pe_callH (has__law_kept T) (hr.mono (by decide)) passL (pa_cons (pv 9) pa_nil)))))))))))))))))))))))))), ?_⟩
    refine q_asgG (call_go (ea_go (ea_two (ev_cell (ev_var rfl) ev_c hS (by decide)) (ev_cell (ev_var rfl) ev_c hS (by decide))) fun H1 e1 => ⟨_, _, rfl, fun ds t1 p1 g1 d1 H2 D e2 _ ht1 h1 G1 => tup2_go (st_of ht1) ?_⟩))
    have f2 := e1.trans e2
    clear e1 e2 ht1
    have hS2 := ex_l f2 hS
    refine q_asgG (call_go (ea_go (ea_two (ev_cell (ev_var rfl) ev_c hS2 (by decide)) (ev_cell (ev_var rfl) ev_c hS2 (by decide))) fun H3 e3 => ⟨_, _, rfl, fun es t2 p2 g2 d2 H4 D' e4 _ ht2 h2 G2 => tup2_go (st_of ht2) ?_⟩))
    have e34 := e3.trans e4
    have h14 := e34 _ _ h1
    have G14 := G1.mono e34
    have hS4 := ex_l e34 hS2
    clear e3 e4 e34 ht2 h1 G1 hS2 f2 hS
    have two := D.two
    have top := D.top
    have it := rch_top D
    have iw := rch_wide D
    have two' := D'.two
    have top' := D'.top
    refine q_asgC (ea_one (ev_var rfl)) fun H5 e5 => ⟨p1, ds, rfl, e5 _ _ h14, D, fun H6 e6 => ?_⟩
    have e56 := e5.trans e6
    have h16 := e56 _ _ h14
    have h26 := e56 _ _ h2
    have G16 := G14.mono e56
    have G26 := G2.mono e56
    have hS6 := ex_l e56 hS4
    clear e5 e6 e56 h14 h2 G14 G2 hS4
    refine q_when (b := false) (et_is (et_or (a := false) (et_is (et_not (et_B (ev_call (vs := [.ref g1, .ref p1, .int (rch ds : Nat)]) (ea_cons (ev_var rfl) (ea_two (ev_var rfl) (ev_var rfl))) fun H1 e1 Q q _ => ⟨g1, d1, p1, ds, rfl, G16.mono e1, e1 _ _ h16, q⟩))) rfl) (fun _ => et_not (et_B (ev_call (vs := [.ref g2, .ref p2, .int (rch es : Nat)]) (ea_cons (ev_var rfl) (ea_two (ev_var rfl) (ev_call (vs := [.ref p2]) (ea_one (ev_var rfl)) fun H1 e1 Q q _ => ⟨p2, es, rfl, e1 _ _ h26, D', q⟩))) fun H1 e1 Q q _ => ⟨g2, d2, p2, es, rfl, G26.mono e1, e1 _ _ h26, q⟩)))) rfl) (fun h => nomatch h) (fun _ H7 e7 => ?_)
    refine q_asg (ev_mod (ev_cell (ev_var rfl) ev_c (ex_l e7 hS6) (by decide)) ev_c (by walk_at "cg ar")) fun H8 e8 => ?_
    have hS8 := ex_l e8 (ex_l e7 hS6)
    refine q_cut (M := fun σ' H' => ∃ sz : Int, σ' = [some (.ref a), some (.ref p1), some (.ref g1), some (.ref p2), some (.ref g2), some (.int (rch ds : Nat)), some (.int sz), none, none, none, none, none, none, none, none] ∧ 0 ≤ sz ∧ sz ≤ 4200 ∧ Ex H8 H') ?_ ?_
    · refine s_when (et_test (ev_i0 (ev_mod (ev_mod (ev_cell (ev_var rfl) ev_c hS8 (by decide)) ev_c (by walk_at "cg ar")) ev_c (by walk_at "cg ar")) ev_c)) (fun _ H9 e9 => ?_) (fun _ H9 e9 => ⟨_, rfl, by omega, by omega, e9⟩)
      exact s_asg (ev_mod (ev_mod (ev_cell (ev_var rfl) ev_c (ex_l e9 hS8) (by decide)) ev_c (by walk_at "cg ar")) ev_c (by walk_at "cg ar")) fun H10 e10 => ⟨_, rfl, by omega, by omega, e9.trans e10⟩
    rintro σ' H9 ⟨sz, rfl, s0, s1, e9⟩
    have hS9 := ex_l e9 hS8
    refine q_cut (M := fun σ' H' => ∃ sz : Nat, σ' = [some (.ref a), some (.ref p1), some (.ref g1), some (.ref p2), some (.ref g2), some (.int (rch ds : Nat)), some (.int (sz : Int)), none, none, none, none, none, none, none, none] ∧ sz ≤ 4200 ∧ Ex H9 H') ?_ ?_
    · refine s_when (et_test (ev_i0 (ev_mod (ev_mod (ev_cell (ev_var rfl) ev_c hS9 (by decide)) ev_c (by walk_at "cg ar")) ev_c (by walk_at "cg ar")) ev_c)) (fun _ H10 e10 => ?_) (fun _ H10 e10 => ⟨sz.toNat, by rw [Int.toNat_of_nonneg s0], by omega, e10⟩)
      refine s_asg (v := .int (((cellV ns 2 / 984 * 48271 % 4201).toNat : Nat) : Int)) (ev_is (ev_mod (ev_mod (ev_mod (ev_cell (ev_var rfl) ev_c (ex_l e10 hS9) (by decide)) ev_c (by walk_at "cg ar")) ev_c (by walk_at "cg ar")) ev_c (by walk_at "cg ar")) (congrArg V.int (by omega))) fun H11 e11 => ⟨_, rfl, by omega, e10.trans e11⟩
    rintro σ' H10 ⟨n, rfl, hn, e10⟩
    have e610 := ((e7.trans e8).trans e9).trans e10
    have hS10 := ex_l e10 hS9
    have h110 := e610 _ _ h16
    have h210 := e610 _ _ h26
    have G110 := G16.mono e610
    have G210 := G26.mono e610
    clear e7 e8 e9 e10 e610 hS6 hS8 hS9 h16 h26 G16 G26 s0 s1 sz
    refine q_asgC (ea_two (ev_cell (ev_var rfl) ev_c hS10 (by decide)) (ev_var rfl)) fun H11 e11 => ⟨_, _, rfl, by omega, by omega, fun xs bx lx px H12 n12 e12 h12 => ?_⟩
    have lx' : xs.length = n := by omega
    have e1112 := e11.trans e12
    refine q_asgC (ea_two (ev_var rfl) (ev_var rfl)) fun H13 e13 => ⟨px, p1, xs, ds, rfl, e13 _ _ h12, e13 _ _ (e1112 _ _ h110), bx, D.bits, by omega, by omega, fun pr H14 n14 e14 h14 => ?_⟩
    have e1014 := e1112.trans (e13.trans e14)
    have x14 := e14 _ _ (e13 _ _ h12)
    have hS14 := ex_l e1014 hS10
    have h114 := e1014 _ _ h110
    have h214 := e1014 _ _ h210
    have G114 := G110.mono e1014
    have G214 := G210.mono e1014
    clear e11 e12 e13 e14 e1112 e1014 h12 n12 n14 hS10 h110 h210 G110 G210 lx
    have R := rest_row D bx
    refine q_asgL el_nilI fun hd H15 nhd e15 h15 => ?_
    have away : ∀ {z : Addr} {o : HO}, H14 z = some o → z ≠ hd := fun {z o} h => ne_of_none h nhd
    have hs : ∀ {X : Hp}, Kp hd H15 X → SqL K X a (iv ns) := fun {X} k => sq_but hS14 nhd e15 k
    have at14 : ∀ {z : Addr} {o : HO} {X : Hp}, H14 z = some o → Kp hd H15 X → X z = some o := fun {z o X} h k => k _ _ (away h) (e15 _ _ h)
    have gd1 : ∀ {X : Hp}, Kp hd H15 X → GateAt cs X g1 d1 ds := fun {X} k => by
      obtain ⟨dx, ho⟩ := G114.ob
      exact (G114.mono e15).kp k (away ho) (away G114.dv)
    have gd2 : ∀ {X : Hp}, Kp hd H15 X → GateAt cs X g2 d2 es := fun {X} k => by
      obtain ⟨dx, ho⟩ := G214.ob
      exact (G214.mono e15).kp k (away ho) (away G214.dv)
    have held15 : HeldAt H15 hd [] 0 := HeldAt.nil h15
    clear h15
    refine q_forF ?_
    refine el_lstP (eap_el el_nilI (eap_ev (ev_var rfl) (eap_el el_nilI (eap_ev (ev_var rfl) eap_nil)))) fun vs H16 e16 hv => ?_
    obtain ⟨z1, _, rfl, nz1, hz1, _, rfl, z2, _, rfl, nz2, hz2, _, rfl, rfl⟩ := hv
    refine ⟨by show 4 ≤ _; decide, fun l nl => ⟨l, rfl, ⟨_, sq_of upd_same⟩, ?_⟩⟩
    have k16 : Kp hd H15 H16 := Kp.of e16
    have nlh : l ≠ hd := by
      obtain ⟨ts, z, _⟩ := held15
      exact (ne_of_none (e16 _ _ z) nl).symm
    have nz1h : z1 ≠ hd := by
      obtain ⟨ts, z, _⟩ := held15
      exact (ne_of_none z nz1).symm
    have nz2h : z2 ≠ hd := by
      obtain ⟨ts, z, _⟩ := held15
      exact (ne_of_none z nz2).symm
    have eL : Ex H16 (upd H16 l (.lst [V.ref z1, .ref px, .ref z2, .ref px])) := Ex.new nl
    have k17 : Kp hd H15 (upd H16 l (.lst [V.ref z1, .ref px, .ref z2, .ref px])) := k16.trans (Kp.of eL)
    have held17 := (held15.mono e16).mono eL
    have l17 : (upd H16 l (.lst [V.ref z1, .ref px, .ref z2, .ref px])) l = some (.lst [V.ref z1, .ref px, .ref z2, .ref px]) := upd_same
    have items : ∀ (i : Nat) (x : V), ([V.ref z1, .ref px, .ref z2, .ref px] : List V)[i]? = some x → ∃ (c : Addr) (zs : List Int), x = V.ref c ∧ c ≠ hd ∧ (upd H16 l (.lst [V.ref z1, .ref px, .ref z2, .ref px])) c = some (.lst (iv zs)) ∧ Bits zs ∧ zs.length ≤ 9000 := by
      intro i x hx
      match i, hx with
      | 0, hx => exact ⟨z1, [], (Option.some.inj hx).symm, nz1h, eL _ _ hz1, .nil, by decide⟩
      | 1, hx => exact ⟨px, xs, (Option.some.inj hx).symm, away x14, at14 x14 k17, bx, by omega⟩
      | 2, hx => exact ⟨z2, [], (Option.some.inj hx).symm, nz2h, eL _ _ hz2, .nil, by decide⟩
      | 3, hx => exact ⟨px, xs, (Option.some.inj hx).symm, away x14, at14 x14 k17, bx, by omega⟩
      | n + 4, hx => cases hx
    generalize (upd H16 l (.lst [V.ref z1, .ref px, .ref z2, .ref px])) = H17 at k17 held17 l17 items eL ⊢
    clear eL k16 nz1 nz2 hz1 hz2 e16 nl held15
    refine floop (fun i σ' H' => Kp hd H17 H' ∧ (∃ m, HeldAt H' hd [] m ∧ m ≤ 2 * i) ∧ ∃ v, σ' = [some (.ref a), some (.ref p1), some (.ref g1), some (.ref p2), some (.ref g2), some (.int (rch ds : Nat)), some (.int (n : Int)), some (.ref px), some (.ref pr), some (.ref hd), v, none, none, none, none]) ⟨.refl _ _, ⟨0, held17, Nat.zero_le _⟩, none, rfl⟩ (fun i σ' H' _ h => sq_of (h.1 _ _ nlh l17)) ?_ ?_
    · rintro i x σ' H' hx ⟨kh, ⟨m, held, hm⟩, v, rfl⟩
      have hi : i < 4 := (List.getElem?_eq_some_iff.mp hx).1
      obtain ⟨c, zs, rfl, nch, hc, bz, lz⟩ := items i x hx
      have kX := k17.trans kh
      refine s_ifW (or_go (nb_go (call_go (ea_go (vs := [.ref g1, .ref c, .ref p1, .ref hd]) (ea_cons (ev_var rfl) (ea_cons (ev_var rfl) (ea_two (ev_var rfl) (ev_var rfl)))) fun H18 e18 => ?_))))
      have k18 := kX.trans (Kp.of e18)
      refine ⟨g1, d1, c, p1, hd, ds, zs, m, rfl, gd1 k18, nch, away h114, (kh.trans (Kp.of e18)) _ _ nch hc, at14 h114 k18, bz, lz, held.mono e18, by omega, fun H19 m19 k19 held19 hm19 => ⟨true, rfl, if_no (nb_go (call_go (ea_go (vs := [.ref g2, .ref c, .ref p2, .ref hd]) (ea_cons (ev_var rfl) (ea_cons (ev_var rfl) (ea_two (ev_var rfl) (ev_var rfl)))) fun H20 e20 => ?_)))⟩⟩
      have kh20 := ((kh.trans (Kp.of e18)).trans k19).trans (Kp.of e20)
      have k20 := k17.trans kh20
      refine ⟨g2, d2, c, p2, hd, es, zs, m19, rfl, gd2 k20, nch, away h214, kh20 _ _ nch hc, at14 h214 k20, bz, lz, held19.mono e20, by omega, fun H21 m21 k21 held21 hm21 => ⟨true, rfl, if_no ?_⟩⟩
      exact ⟨kh20.trans k21, ⟨m21, held21, by omega⟩, _, rfl⟩
    · rintro σ' H18 ⟨kh, ⟨m18, held18, hm18⟩, v, rfl⟩
      have k18 := k17.trans kh
      have hm18' : m18 ≤ 8 := hm18
      clear kh k17 held17 l17 items hm18
      dsimp only
      refine q_ifW (nb_go (call_go (ea_go (vs := [.ref g1, .ref px, .ref pr, .ref p1, .ref hd]) (ea_cons (ev_var rfl) (ea_cons (ev_var rfl) (ea_cons (ev_var rfl) (ea_two (ev_var rfl) (ev_var rfl))))) fun H19 e19 => ?_)))
      have k19 := k18.trans (Kp.of e19)
      refine ⟨g1, d1, px, pr, p1, hd, ds, xs, m18, rfl, gd1 k19, away x14, away h114, at14 x14 k19, at14 h14 k19, at14 h114 k19, bx, by omega, held18.mono e19, by omega, fun H20 m20 k20' held20 hm20 => ⟨true, rfl, if_no ?_⟩⟩
      have k20 := k19.trans k20'
      have hm20' : m20 ≤ 9 := by omega
      clear k19 k20' k18 held18 e19 hm20 hm18'
      have w0 : 0 ≤ cellV ns 4 % 36 ∧ cellV ns 4 % 36 < 36 := by omega
      refine q_asg (ev_mod (ev_cell (ev_var rfl) ev_c (hs k20) (by decide)) ev_c (by walk_at "cg ar")) fun H21 e21 => ?_
      generalize cellV ns 4 % 36 = way at w0 ⊢
      have k21 := k20.trans (Kp.of e21)
      have held21 := held20.mono e21
      clear k20 held20 e21
      have kept : ∀ {X X' : Hp} {m : Nat} {E : XK} {σ : L2.St}, HeldAt X hd [] m → Ex X X' → σ[9]? = some (some (.ref hd)) → Ev (tCall sp__law_kept [] E (tCons (tVar 9) tNil)) σ X' (.bl true) := fun {X X' m E σ} hh e h9 =>
        ev_call (ea_one (ev_var h9)) fun H1 e1 Q q _ => ⟨hd, [], m, rfl, (hh.mono e).mono e1, q⟩
      refine q_when (et_test (ev_i0 (ev_var rfl) ev_c)) (fun hc H22 e22 => ?_) (fun hc H22 e22 => ?_)
      · have hw : way < 5 := of_decide_eq_true hc
        have k22 := k21.trans (Kp.of e22)
        have held22 := held21.mono e22
        refine q_asg (ev_i0 (ev_un ev_c ru_neg) (ev_mod (ev_cell (ev_var rfl) ev_c (hs k22) (by decide)) ev_c (by walk_at "cg ar"))) fun H23 e23 => ?_
        have k23 := k22.trans (Kp.of e23)
        have held23 := held22.mono e23
        obtain ⟨v, hv, cv⟩ : ∃ v : V, ([.int (-1 - cellV ns 5 % 9), .int ((10 : Int) ^ (18 : Int).toNat + 1), .bl true, .bl false, .non] : List V)[way.toNat]? = some v ∧ countB v = some false := by
          rcases (show way = 0 ∨ way = 1 ∨ way = 2 ∨ way = 3 ∨ way = 4 by omega) with rfl | rfl | rfl | rfl | rfl
          · refine ⟨_, rfl, ?_⟩
            show some (decide (0 ≤ -1 - cellV ns 5 % 9) && _) = some false
            rw [decide_eq_false (by omega)]
            rfl
          · exact ⟨_, rfl, by decide +kernel⟩
          · exact ⟨_, rfl, rfl⟩
          · exact ⟨_, rfl, rfl⟩
          · exact ⟨_, rfl, rfl⟩
        have hat : atI ([.int (-1 - cellV ns 5 % 9), .int ((10 : Int) ^ (18 : Int).toNat + 1), .bl true, .bl false, .non] : List V) way = some v := by
          rw [show way = ((way.toNat : Nat) : Int) by omega]
          exact atI_nat hv
        refine q_when (b := false) (et_is (et_not (et_B (ev_call (vs := [.ref g1, .ref pr, v]) (ea_cons (ev_var rfl) (ea_two (ev_var rfl) (ev_ixR (er_L (el_lst (ea_cons (ev_var rfl) (ea_cons (ev_i0 (ev_mod (g := fun i j => .int (i ^ j.toNat)) ev_c ev_c ⟨by decide, by decide, by decide⟩) ev_c) (ea_cons ev_c (ea_two ev_c ev_c)))) (by show 5 ≤ 100000; decide))) (ev_var rfl) hat))) fun H1 e1 Q q _ => ⟨g1, d1, pr, v, ds, _, rfl, (gd1 k23).mono e1, e1 _ _ (at14 h14 k23), R, cv, q⟩))) rfl) (fun h => nomatch h) (fun _ H24 e24 => ?_)
        exact s_ret (kept held23 e24 rfl) fun H25 _ => q H25
      have hw : ¬ way < 5 := of_decide_eq_false hc
      have k22 := k21.trans (Kp.of e22)
      have held22 := held21.mono e22
      refine q_asg (ev_mod (ev_cell (ev_var rfl) ev_c (hs k22) (by decide)) ev_c (by walk_at "cg ar")) fun H23 e23 => ?_
      have k23 := k22.trans (Kp.of e23)
      have held23 := held22.mono e23
      clear k21 k22 held21 held22 e22 e23 hc
      refine q_cut (M := fun σ' H' => ∃ mn : Int, σ' = [some (.ref a), some (.ref p1), some (.ref g1), some (.ref p2), some (.ref g2), some (.int (rch ds : Nat)), some (.int (n : Int)), some (.ref px), some (.ref pr), some (.ref hd), v, some (.int way), none, some (.int mn), none] ∧ 0 ≤ mn ∧ mn ≤ 1000000000000000000 ∧ Ex H23 H') ?_ ?_
      · refine s_when (et_test (ev_i0 (ev_var rfl) ev_c)) (fun _ H24 e24 => ?_) (fun _ H24 e24 => ⟨_, rfl, by omega, by omega, e24⟩)
        refine s_asg (v := .int (cellV ns 5 % ((10 : Int) ^ (18 : Int).toNat + 1))) (ev_mod (ev_cell (ev_var rfl) ev_c (hs (k23.trans (Kp.of e24))) (by decide)) (ev_i0 (ev_mod (g := fun i j => .int (i ^ j.toNat)) ev_c ev_c ⟨by decide, by decide, by decide⟩) ev_c) (by show (0 : Int) < _; decide)) fun H25 e25 => ⟨_, rfl, ?_, ?_, e24.trans e25⟩
        · exact Int.emod_nonneg _ (by decide)
        · have z := Int.emod_lt_of_pos (cellV ns 5) (show (0 : Int) < (10 : Int) ^ (18 : Int).toNat + 1 by decide)
          have z2 : (10 : Int) ^ (18 : Int).toNat + 1 = 1000000000000000001 := by decide +kernel
          rw [z2] at z ⊢
          omega
      rintro σ' H24 ⟨mn, rfl, n0, n1, e24⟩
      refine q_cut (M := fun σ' H' => ∃ mn : Nat, σ' = [some (.ref a), some (.ref p1), some (.ref g1), some (.ref p2), some (.ref g2), some (.int (rch ds : Nat)), some (.int (n : Int)), some (.ref px), some (.ref pr), some (.ref hd), v, some (.int way), none, some (.int (mn : Int)), none] ∧ mn ≤ 1000000000000000000 ∧ Ex H24 H') ?_ ?_
      · refine s_when (et_test (ev_i0 (ev_var rfl) ev_c)) (fun _ H25 e25 => ?_) (fun _ H25 e25 => ⟨mn.toNat, by rw [Int.toNat_of_nonneg n0], by omega, e25⟩)
        exact s_asg (v := .int ((1000000000000000000 : Nat) : Int)) (ev_is (ev_mod (g := fun i j => .int (i ^ j.toNat)) ev_c ev_c ⟨by decide, by decide, by decide⟩) (congrArg V.int (by decide +kernel))) fun H26 e26 => ⟨_, rfl, Nat.le_refl _, e25.trans e26⟩
      rintro σ' H25 ⟨many, rfl, hmany, e25⟩
      have k25 := (k23.trans (Kp.of e24)).trans (Kp.of e25)
      have held25 := (held23.mono e24).mono e25
      clear k23 held23 e24 e25 n0 n1 mn
      refine q_asgC (ea_two (ev_cell (ev_var rfl) ev_c (hs k25) (by decide)) (ev_lenI (er_var rfl (at14 h14 k25)))) fun H26 e26 => ⟨_, _, rfl, by omega, by rw [R.2]; omega, fun ys by_ ly py H27 n27 e27 h27 => ?_⟩
      have bY : RowOf (ds.length - 1) ys := ⟨by_, by rw [R.2] at ly; omega⟩
      have nyh : py ≠ hd := by
        obtain ⟨ts, z, _⟩ := held25
        exact (ne_of_none (e26 _ _ z) n27).symm
      have k27 := (k25.trans (Kp.of e26)).trans (Kp.of e27)
      have held27 := (held25.mono e26).mono e27
      clear k25 held25 e26 e27 n27 ly
      refine q_forNLn (xs := [.ref pr, .ref py, .ref pr]) (el_lst (ea_cons (ev_var rfl) (ea_two (ev_var rfl) (ev_var rfl))) (by show 3 ≤ 100000; decide)) (fun l i σ' H' => Kp hd H27 H' ∧ l ≠ hd ∧ H' l = some (.lst [.ref pr, .ref py, .ref pr]) ∧ (∃ m, HeldAt H' hd [] m ∧ m ≤ 9 + i) ∧ ∃ v, σ' = [some (.ref a), some (.ref p1), some (.ref g1), some (.ref p2), some (.ref g2), some (.int (rch ds : Nat)), some (.int (n : Int)), some (.ref px), some (.ref pr), some (.ref hd), v, some (.int way), none, some (.int (many : Int)), some (.ref py)]) ?_ (fun l i σ' H' _ h => sq_of h.2.2.1) ?_ ?_
      · refine fun l H28 n28 e28 h28 => ⟨Kp.of e28, ?_, h28, ⟨m20, held27.mono e28, by omega⟩, v, rfl⟩
        obtain ⟨ts, z, _⟩ := held27
        exact (ne_of_none z n28).symm
      · rintro l i x σ' H' hx ⟨kh, nlh, hl, ⟨m, held, hm⟩, v, rfl⟩
        have hi : i < 3 := (List.getElem?_eq_some_iff.mp hx).1
        have kX := k27.trans kh
        obtain ⟨c, zs, rfl, nch, hc, bz⟩ : ∃ (c : Addr) (zs : List Int), x = V.ref c ∧ c ≠ hd ∧ H' c = some (.lst (iv zs)) ∧ RowOf (ds.length - 1) zs := by
          match i, hx with
          | 0, hx => exact ⟨pr, _, (Option.some.inj hx).symm, away h14, at14 h14 kX, R⟩
          | 1, hx => exact ⟨py, _, (Option.some.inj hx).symm, nyh, kh _ _ nyh h27, bY⟩
          | 2, hx => exact ⟨pr, _, (Option.some.inj hx).symm, away h14, at14 h14 kX, R⟩
          | n + 3, hx => cases hx
        refine s_ifW (nb_go (call_go (ea_go (vs := [.ref g1, .ref c, .int (many : Int), .int (rch ds : Nat), .ref p1, .ref hd]) (ea_cons (ev_var rfl) (ea_cons (ev_var rfl) (ea_cons (ev_var rfl) (ea_cons (ev_var rfl) (ea_two (ev_var rfl) (ev_var rfl)))))) fun H28 e28 => ?_)))
        have k28 := kX.trans (Kp.of e28)
        refine ⟨g1, d1, c, p1, hd, ds, zs, many, m, rfl, gd1 k28, nch, away h114, e28 _ _ hc, at14 h114 k28, bz, hmany, held.mono e28, by omega, fun H29 m29 k29 held29 hm29 => ⟨true, rfl, if_no ?_⟩⟩
        exact ⟨(kh.trans (Kp.of e28)).trans k29, nlh, k29 _ _ nlh (e28 _ _ hl), ⟨m29, held29, by omega⟩, _, rfl⟩
      · rintro l σ' H28 ⟨kh, nlh, hl, ⟨m28, held28, hm28⟩, v, rfl⟩
        have k28 := k27.trans kh
        have y28 := kh _ _ nyh h27
        have hm28' : m28 ≤ 12 := hm28
        refine q_ifW (nb_go (call_go (ap_go (eap_ev (ev_var rfl) (eap_ev (ev_var rfl) (eap_el (xs := iv (restR ds ys)) (el_callP (eap_ev (ev_var rfl) (eap_ev (ev_var rfl) eap_nil)) ?hrest) (eap_ev (ev_var rfl) (eap_ev (ev_var rfl) eap_nil))))) fun vs H29 e29 hv => ?_)))
        case hrest =>
          rintro vs H1 e1 ⟨_, rfl, _, rfl, rfl⟩ Q' q'
          exact ⟨py, p1, ys, ds, rfl, e1 _ _ y28, e1 _ _ (at14 h114 k28), by_, D.bits, by omega, by omega, q'⟩
        obtain ⟨_, rfl, _, rfl, r, _, rfl, nr, hr29, _, rfl, _, rfl, rfl⟩ := hv
        have k29 := k28.trans (Kp.of e29)
        refine ⟨g1, d1, py, r, p1, hd, ds, ys, m28, rfl, gd1 k29, nyh, away h114, e29 _ _ y28, hr29, at14 h114 k29, by_, by rw [bY.2]; omega, held28.mono e29, by omega, fun H30 m30 k30' held30 hm30 => ⟨true, rfl, if_no ?_⟩⟩
        have k30 := k29.trans k30'
        exact s_ret (ev_andV (a := true) (ev_call (vs := [.ref g1, .ref p1, .int (rch ds : Nat)]) (ea_cons (ev_var rfl) (ea_two (ev_var rfl) (ev_var rfl))) fun H1 e1 Q q _ => ⟨g1, d1, p1, ds, rfl, (gd1 k30).mono e1, e1 _ _ (at14 h114 k30), q⟩) (fun _ => ev_one (kept held30 (.refl _) rfl))) fun H31 _ => q H31


end
theorem all_mk {l : PySem.W.OpenLaw} {w : World} {K : PySem.W.Frag} {h : Heap} {mg : Str → Option Value} {fa f0 f1 f2 f3 f4 f5 f6 f7 f8 f9 f10 f11 f12 f13 f14 f15 f16 f17 f18 f19 f20 f21 f22 f23 f24 f25 f26 x0 x1 x2 x3 kGate : Addr} (X : K.In h) (G : h.Ns mainGlobals mg) (hfa : mg "law" = some (.ref fa))
    {od0 an0 od1 an1 od2 an2 od3 an3 od4 an4 od5 an5 od6 an6 od7 an7 od8 an8 od9 an9 od10 an10 od11 an11 od12 an12 od13 an13 od14 an14 od15 an15 od16 an16 od17 an17 od18 an18 od19 an19 od20 an20 od21 an21 od22 an22 od23 an23 od24 an24 od25 an25 od26 an26 : Option Addr} {sl0 sl1 sl2 sl3 sl4 sl5 sl6 sl7 sl8 sl9 sl10 sl11 sl12 sl13 sl14 sl15 sl16 sl17 sl18 sl19 sl20 sl21 sl22 sl23 sl24 sl25 sl26 : Array (Option Value)} {oc0 kV0 dc0 pm0 cd0 ct0 oc1 kV1 dc1 pm1 cd1 ct1 oc2 kV2 dc2 pm2 cd2 ct2 oc3 kV3 dc3 pm3 cd3 ct3 oc4 kV4 dc4 pm4 cd4 ct4 oc5 kV5 dc5 pm5 cd5 ct5 oc6 kV6 dc6 pm6 cd6 ct6 oc7 kV7 dc7 pm7 cd7 ct7 oc8 kV8 dc8 pm8 cd8 ct8 oc9 kV9 dc9 pm9 cd9 ct9 oc10 kV10 dc10 pm10 cd10 ct10 oc11 kV11 dc11 pm11 cd11 ct11 oc12 kV12 dc12 pm12 cd12 ct12 oc13 kV13 dc13 pm13 cd13 ct13 oc14 kV14 dc14 pm14 cd14 ct14 oc15 kV15 dc15 pm15 cd15 ct15 oc16 kV16 dc16 pm16 cd16 ct16 oc17 kV17 dc17 pm17 cd17 ct17 oc18 kV18 dc18 pm18 cd18 ct18 oc19 kV19 dc19 pm19 cd19 ct19 oc20 kV20 dc20 pm20 cd20 ct20 oc21 kV21 dc21 pm21 cd21 ct21 oc22 kV22 dc22 pm22 cd22 ct22 oc23 kV23 dc23 pm23 cd23 ct23 oc24 kV24 dc24 pm24 cd24 ct24 oc25 kV25 dc25 pm25 cd25 ct25 oc26 kV26 dc26 pm26 cd26 ct26 : Value} {tk0 tk1 tk2 : Tok}
    (a0 : PySem.W.nsIn K mainGlobals "is_sign" = some (some (.ref f0))) (l0 : K.lookup f0 = some ⟨oc0, od0, .func (PySem.W.fnOf "is_sign" "is_sign" (defArgs s_is_sign) (defBody s_is_sign) (defScope s_is_sign) .none kV0 dc0 pm0 an0 cd0 ct0), sl0⟩) (c0 : PySem.W.codeIn K cd0 "is_sign" = true) (k0 : PySem.W.keepIn K (.ref f0) = true)
    (a1 : PySem.W.nsIn K mainGlobals "need_row" = some (some (.ref f1))) (l1 : K.lookup f1 = some ⟨oc1, od1, .func (PySem.W.fnOf "need_row" "need_row" (defArgs s_need_row) (defBody s_need_row) (defScope s_need_row) .none kV1 dc1 pm1 an1 cd1 ct1), sl1⟩) (c1 : PySem.W.codeIn K cd1 "need_row" = true) (k1 : PySem.W.keepIn K (.ref f1) = true)
    (a2 : PySem.W.nsIn K mainGlobals "need_divisor" = some (some (.ref f2))) (l2 : K.lookup f2 = some ⟨oc2, od2, .func (PySem.W.fnOf "need_divisor" "need_divisor" (defArgs s_need_divisor) (defBody s_need_divisor) (defScope s_need_divisor) .none kV2 dc2 pm2 an2 cd2 ct2), sl2⟩) (c2 : PySem.W.codeIn K cd2 "need_divisor" = true) (k2 : PySem.W.keepIn K (.ref f2) = true)
    (a3 : PySem.W.nsIn K mainGlobals "reduced" = some (some (.ref f3))) (l3 : K.lookup f3 = some ⟨oc3, od3, .func (PySem.W.fnOf "reduced" "reduced" (defArgs s_reduced) (defBody s_reduced) (defScope s_reduced) .none kV3 dc3 pm3 an3 cd3 ct3), sl3⟩) (c3 : PySem.W.codeIn K cd3 "reduced" = true) (k3 : PySem.W.keepIn K (.ref f3) = true)
    (a4 : PySem.W.nsIn K mainGlobals "parted" = some (some (.ref f4))) (l4 : K.lookup f4 = some ⟨oc4, od4, .func (PySem.W.fnOf "parted" "parted" (defArgs s_parted) (defBody s_parted) (defScope s_parted) .none kV4 dc4 pm4 an4 cd4 ct4), sl4⟩) (c4 : PySem.W.codeIn K cd4 "parted" = true) (k4 : PySem.W.keepIn K (.ref f4) = true)
    (a5 : PySem.W.nsIn K mainGlobals "need_gate_divisor" = some (some (.ref f5))) (l5 : K.lookup f5 = some ⟨oc5, od5, .func (PySem.W.fnOf "need_gate_divisor" "need_gate_divisor" (defArgs s_need_gate_divisor) (defBody s_need_gate_divisor) (defScope s_need_gate_divisor) .none kV5 dc5 pm5 an5 cd5 ct5), sl5⟩) (c5 : PySem.W.codeIn K cd5 "need_gate_divisor" = true) (k5 : PySem.W.keepIn K (.ref f5) = true)
    (a6 : PySem.W.nsIn K mainGlobals "reach" = some (some (.ref f6))) (l6 : K.lookup f6 = some ⟨oc6, od6, .func (PySem.W.fnOf "reach" "reach" (defArgs s_reach) (defBody s_reach) (defScope s_reach) .none kV6 dc6 pm6 an6 cd6 ct6), sl6⟩) (c6 : PySem.W.codeIn K cd6 "reach" = true) (k6 : PySem.W.keepIn K (.ref f6) = true)
    (a7 : PySem.W.nsIn K mainGlobals "is_count" = some (some (.ref f7))) (l7 : K.lookup f7 = some ⟨oc7, od7, .func (PySem.W.fnOf "is_count" "is_count" (defArgs s_is_count) (defBody s_is_count) (defScope s_is_count) .none kV7 dc7 pm7 an7 cd7 ct7), sl7⟩) (c7 : PySem.W.codeIn K cd7 "is_count" = true) (k7 : PySem.W.keepIn K (.ref f7) = true)
    (a8 : PySem.W.findIn K (.ref kGate) "__init__" = some (some (.ref f8))) (i8 : PySem.W.isFn K (.ref f8) = true) (l8 : K.lookup f8 = some ⟨oc8, od8, .func (PySem.W.fnOf "__init__" "Gate.__init__" (defArgs s_Gate___init__) (defBody s_Gate___init__) (defScope s_Gate___init__) .none kV8 dc8 pm8 an8 cd8 ct8), sl8⟩) (c8 : PySem.W.codeIn K cd8 "Gate.__init__" = true) (k8 : PySem.W.keepIn K (.ref f8) = true)
    (a9 : PySem.W.findIn K (.ref kGate) "rest" = some (some (.ref f9))) (i9 : PySem.W.isFn K (.ref f9) = true) (l9 : K.lookup f9 = some ⟨oc9, od9, .func (PySem.W.fnOf "rest" "Gate.rest" (defArgs s_Gate_rest) (defBody s_Gate_rest) (defScope s_Gate_rest) .none kV9 dc9 pm9 an9 cd9 ct9), sl9⟩) (c9 : PySem.W.codeIn K cd9 "Gate.rest" = true) (k9 : PySem.W.keepIn K (.ref f9) = true)
    (a10 : PySem.W.findIn K (.ref kGate) "later" = some (some (.ref f10))) (i10 : PySem.W.isFn K (.ref f10) = true) (l10 : K.lookup f10 = some ⟨oc10, od10, .func (PySem.W.fnOf "later" "Gate.later" (defArgs s_Gate_later) (defBody s_Gate_later) (defScope s_Gate_later) .none kV10 dc10 pm10 an10 cd10 ct10), sl10⟩) (c10 : PySem.W.codeIn K cd10 "Gate.later" = true) (k10 : PySem.W.keepIn K (.ref f10) = true)
    (a11 : PySem.W.findIn K (.ref kGate) "check" = some (some (.ref f11))) (i11 : PySem.W.isFn K (.ref f11) = true) (l11 : K.lookup f11 = some ⟨oc11, od11, .func (PySem.W.fnOf "check" "Gate.check" (defArgs s_Gate_check) (defBody s_Gate_check) (defScope s_Gate_check) .none kV11 dc11 pm11 an11 cd11 ct11), sl11⟩) (c11 : PySem.W.codeIn K cd11 "Gate.check" = true) (k11 : PySem.W.keepIn K (.ref f11) = true)
    (a12 : PySem.W.nsIn K mainGlobals "_law_cell_at" = some (some (.ref f12))) (l12 : K.lookup f12 = some ⟨oc12, od12, .func (PySem.W.fnOf "_law_cell_at" "_law_cell_at" (defArgs s__law_cell_at) (defBody s__law_cell_at) (defScope s__law_cell_at) .none kV12 dc12 pm12 an12 cd12 ct12), sl12⟩) (c12 : PySem.W.codeIn K cd12 "_law_cell_at" = true) (k12 : PySem.W.keepIn K (.ref f12) = true)
    (a13 : PySem.W.nsIn K mainGlobals "_law_row_by" = some (some (.ref f13))) (l13 : K.lookup f13 = some ⟨oc13, od13, .func (PySem.W.fnOf "_law_row_by" "_law_row_by" (defArgs s__law_row_by) (defBody s__law_row_by) (defScope s__law_row_by) .none kV13 dc13 pm13 an13 cd13 ct13), sl13⟩) (c13 : PySem.W.codeIn K cd13 "_law_row_by" = true) (k13 : PySem.W.keepIn K (.ref f13) = true)
    (a14 : PySem.W.nsIn K mainGlobals "_law_is_row" = some (some (.ref f14))) (l14 : K.lookup f14 = some ⟨oc14, od14, .func (PySem.W.fnOf "_law_is_row" "_law_is_row" (defArgs s__law_is_row) (defBody s__law_is_row) (defScope s__law_is_row) .none kV14 dc14 pm14 an14 cd14 ct14), sl14⟩) (c14 : PySem.W.codeIn K cd14 "_law_is_row" = true) (k14 : PySem.W.keepIn K (.ref f14) = true)
    (a15 : PySem.W.nsIn K mainGlobals "_law_step_by" = some (some (.ref f15))) (l15 : K.lookup f15 = some ⟨oc15, od15, .func (PySem.W.fnOf "_law_step_by" "_law_step_by" (defArgs s__law_step_by) (defBody s__law_step_by) (defScope s__law_step_by) .none kV15 dc15 pm15 an15 cd15 ct15), sl15⟩) (c15 : PySem.W.codeIn K cd15 "_law_step_by" = true) (k15 : PySem.W.keepIn K (.ref f15) = true)
    (a16 : PySem.W.nsIn K mainGlobals "_law_rest_by" = some (some (.ref f16))) (l16 : K.lookup f16 = some ⟨oc16, od16, .func (PySem.W.fnOf "_law_rest_by" "_law_rest_by" (defArgs s__law_rest_by) (defBody s__law_rest_by) (defScope s__law_rest_by) .none kV16 dc16 pm16 an16 cd16 ct16), sl16⟩) (c16 : PySem.W.codeIn K cd16 "_law_rest_by" = true) (k16 : PySem.W.keepIn K (.ref f16) = true)
    (a17 : PySem.W.nsIn K mainGlobals "_law_divisor_by" = some (some (.ref f17))) (l17 : K.lookup f17 = some ⟨oc17, od17, .func (PySem.W.fnOf "_law_divisor_by" "_law_divisor_by" (defArgs s__law_divisor_by) (defBody s__law_divisor_by) (defScope s__law_divisor_by) .none kV17 dc17 pm17 an17 cd17 ct17), sl17⟩) (c17 : PySem.W.codeIn K cd17 "_law_divisor_by" = true) (k17 : PySem.W.keepIn K (.ref f17) = true)
    (a18 : PySem.W.nsIn K mainGlobals "_law_reach_by" = some (some (.ref f18))) (l18 : K.lookup f18 = some ⟨oc18, od18, .func (PySem.W.fnOf "_law_reach_by" "_law_reach_by" (defArgs s__law_reach_by) (defBody s__law_reach_by) (defScope s__law_reach_by) .none kV18 dc18 pm18 an18 cd18 ct18), sl18⟩) (c18 : PySem.W.codeIn K cd18 "_law_reach_by" = true) (k18 : PySem.W.keepIn K (.ref f18) = true)
    (a19 : PySem.W.nsIn K mainGlobals "_law_told" = some (some (.ref f19))) (l19 : K.lookup f19 = some ⟨oc19, od19, .func (PySem.W.fnOf "_law_told" "_law_told" (defArgs s__law_told) (defBody s__law_told) (defScope s__law_told) .none kV19 dc19 pm19 an19 cd19 ct19), sl19⟩) (c19 : PySem.W.codeIn K cd19 "_law_told" = true) (k19 : PySem.W.keepIn K (.ref f19) = true)
    (a20 : PySem.W.nsIn K mainGlobals "_law_made" = some (some (.ref f20))) (l20 : K.lookup f20 = some ⟨oc20, od20, .func (PySem.W.fnOf "_law_made" "_law_made" (defArgs s__law_made) (defBody s__law_made) (defScope s__law_made) .none kV20 dc20 pm20 an20 cd20 ct20), sl20⟩) (c20 : PySem.W.codeIn K cd20 "_law_made" = true) (k20 : PySem.W.keepIn K (.ref f20) = true)
    (a21 : PySem.W.nsIn K mainGlobals "_law_rested" = some (some (.ref f21))) (l21 : K.lookup f21 = some ⟨oc21, od21, .func (PySem.W.fnOf "_law_rested" "_law_rested" (defArgs s__law_rested) (defBody s__law_rested) (defScope s__law_rested) .none kV21 dc21 pm21 an21 cd21 ct21), sl21⟩) (c21 : PySem.W.codeIn K cd21 "_law_rested" = true) (k21 : PySem.W.keepIn K (.ref f21) = true)
    (a22 : PySem.W.nsIn K mainGlobals "_law_checked" = some (some (.ref f22))) (l22 : K.lookup f22 = some ⟨oc22, od22, .func (PySem.W.fnOf "_law_checked" "_law_checked" (defArgs s__law_checked) (defBody s__law_checked) (defScope s__law_checked) .none kV22 dc22 pm22 an22 cd22 ct22), sl22⟩) (c22 : PySem.W.codeIn K cd22 "_law_checked" = true) (k22 : PySem.W.keepIn K (.ref f22) = true)
    (a23 : PySem.W.nsIn K mainGlobals "_law_refused" = some (some (.ref f23))) (l23 : K.lookup f23 = some ⟨oc23, od23, .func (PySem.W.fnOf "_law_refused" "_law_refused" (defArgs s__law_refused) (defBody s__law_refused) (defScope s__law_refused) .none kV23 dc23 pm23 an23 cd23 ct23), sl23⟩) (c23 : PySem.W.codeIn K cd23 "_law_refused" = true) (k23 : PySem.W.keepIn K (.ref f23) = true)
    (a24 : PySem.W.nsIn K mainGlobals "_law_later" = some (some (.ref f24))) (l24 : K.lookup f24 = some ⟨oc24, od24, .func (PySem.W.fnOf "_law_later" "_law_later" (defArgs s__law_later) (defBody s__law_later) (defScope s__law_later) .none kV24 dc24 pm24 an24 cd24 ct24), sl24⟩) (c24 : PySem.W.codeIn K cd24 "_law_later" = true) (k24 : PySem.W.keepIn K (.ref f24) = true)
    (a25 : PySem.W.nsIn K mainGlobals "_law_kept" = some (some (.ref f25))) (l25 : K.lookup f25 = some ⟨oc25, od25, .func (PySem.W.fnOf "_law_kept" "_law_kept" (defArgs s__law_kept) (defBody s__law_kept) (defScope s__law_kept) .none kV25 dc25 pm25 an25 cd25 ct25), sl25⟩) (c25 : PySem.W.codeIn K cd25 "_law_kept" = true) (k25 : PySem.W.keepIn K (.ref f25) = true)
    (a26 : PySem.W.nsIn K mainGlobals "law" = some (some (.ref f26))) (l26 : K.lookup f26 = some ⟨oc26, od26, .func (PySem.W.fnOf "law" "law" (defArgs s_law) (defBody s_law) (defScope s_law) .none kV26 dc26 pm26 an26 cd26 ct26), sl26⟩) (c26 : PySem.W.codeIn K cd26 "law" = true) (k26 : PySem.W.keepIn K (.ref f26) = true)
    (oGate_g : PySem.W.nsIn K mainGlobals "Gate" = some (some (.ref kGate)))
    (oGate_pg : PySem.W.plainGet K kGate Str.empty = true)
    (oGate_hd : PySem.W.hasDictIn K kGate = true)
    (oGate_po : PySem.W.plainOver K kGate = true)
    (oGate_sa : PySem.W.findIn K (.ref kGate) "__setattr__" = some (some (.builtin "object.__setattr__")))
    (oGate_mk : PySem.W.makesIn K kGate = true)
    (oGate_kp : PySem.W.keepIn K (.ref kGate) = true)
    (oGate_n_reach : PySem.W.findIn K (.ref kGate) "reach" = some none)
    (oGate_n_divisor : PySem.W.findIn K (.ref kGate) "divisor" = some none)
    (oGate_n_width : PySem.W.findIn K (.ref kGate) "width" = some none)
    (oGate_n_even : PySem.W.findIn K (.ref kGate) "even" = some none)
    (u0_1 : PySem.W.nsIn K mainGlobals "GateError" = some (some (.ref x0))) (u0_2 : PySem.W.excIn K x0 veBase "ValueError.__new__" = true) (u0_3 : PySem.W.keepIn K (.ref x0) = true) (u0_4 : PySem.W.subIn K (.ref x0) (.type "BaseException") = some true) (u0_5 : PySem.W.typeIn K (.ref x0) = some (.type "type")) (u0_6 : PySem.W.isClsIn K x0 = true) (u0_7 : PySem.W.subIn K (.ref x0) (.type "ValueError") = some true)
    (u0_8 : PySem.W.findIn K (.ref x0) "__getattribute__" = some (some (.builtin "BaseException.__getattribute__"))) (u0_9 : PySem.W.findIn K (.ref x0) "__getattr__" = some none) (u0_10 : PySem.W.hasDictIn K x0 = true) (u0_11 : PySem.W.findIn K (.ref x0) "__class__" = some (some (.builtin "object.__class__"))) (u0_12 : PySem.W.mroIn K x0 (.type "object") = some true)
    (u1_1 : PySem.W.nsIn K mainGlobals "NoRow" = some (some (.ref x1))) (u1_2 : PySem.W.excIn K x1 veBase "ValueError.__new__" = true) (u1_3 : PySem.W.keepIn K (.ref x1) = true) (u1_4 : PySem.W.subIn K (.ref x1) (.type "BaseException") = some true) (u1_5 : PySem.W.typeIn K (.ref x1) = some (.type "type")) (u1_6 : PySem.W.isClsIn K x1 = true) (u1_7 : PySem.W.subIn K (.ref x1) (.type "ValueError") = some true)
    (u1_8 : PySem.W.findIn K (.ref x1) "__getattribute__" = some (some (.builtin "BaseException.__getattribute__"))) (u1_9 : PySem.W.findIn K (.ref x1) "__getattr__" = some none) (u1_10 : PySem.W.hasDictIn K x1 = true) (u1_11 : PySem.W.findIn K (.ref x1) "__class__" = some (some (.builtin "object.__class__"))) (u1_12 : PySem.W.mroIn K x1 (.type "object") = some true)
    (u2_1 : PySem.W.nsIn K mainGlobals "NoDivisor" = some (some (.ref x2))) (u2_2 : PySem.W.excIn K x2 veBase "ValueError.__new__" = true) (u2_3 : PySem.W.keepIn K (.ref x2) = true) (u2_4 : PySem.W.subIn K (.ref x2) (.type "BaseException") = some true) (u2_5 : PySem.W.typeIn K (.ref x2) = some (.type "type")) (u2_6 : PySem.W.isClsIn K x2 = true) (u2_7 : PySem.W.subIn K (.ref x2) (.type "ValueError") = some true)
    (u2_8 : PySem.W.findIn K (.ref x2) "__getattribute__" = some (some (.builtin "BaseException.__getattribute__"))) (u2_9 : PySem.W.findIn K (.ref x2) "__getattr__" = some none) (u2_10 : PySem.W.hasDictIn K x2 = true) (u2_11 : PySem.W.findIn K (.ref x2) "__class__" = some (some (.builtin "object.__class__"))) (u2_12 : PySem.W.mroIn K x2 (.type "object") = some true)
    (u3_1 : PySem.W.nsIn K mainGlobals "NoCount" = some (some (.ref x3))) (u3_2 : PySem.W.excIn K x3 veBase "ValueError.__new__" = true) (u3_3 : PySem.W.keepIn K (.ref x3) = true) (u3_4 : PySem.W.subIn K (.ref x3) (.type "BaseException") = some true) (u3_5 : PySem.W.typeIn K (.ref x3) = some (.type "type")) (u3_6 : PySem.W.isClsIn K x3 = true) (u3_7 : PySem.W.subIn K (.ref x3) (.type "ValueError") = some true)
    (u3_8 : PySem.W.findIn K (.ref x3) "__getattribute__" = some (some (.builtin "BaseException.__getattribute__"))) (u3_9 : PySem.W.findIn K (.ref x3) "__getattr__" = some none) (u3_10 : PySem.W.hasDictIn K x3 = true) (u3_11 : PySem.W.findIn K (.ref x3) "__class__" = some (some (.builtin "object.__class__"))) (u3_12 : PySem.W.mroIn K x3 (.type "object") = some true)
    (q1 : PySem.W.specialIn K (.builtin "object.__class__") "__get__" = some (some (.builtin "getset_descriptor.__get__"))) (q2 : PySem.W.takesIn K (.builtin "object.__class__") = some true)
    (p0_0 : PySem.W.subIn K (.ref x0) (.ref x0) = some true)
    (p0_3 : PySem.W.subIn K (.ref x0) (.ref x3) = some false)
    (p1_0 : PySem.W.subIn K (.ref x1) (.ref x0) = some true)
    (p1_3 : PySem.W.subIn K (.ref x1) (.ref x3) = some false)
    (p2_0 : PySem.W.subIn K (.ref x2) (.ref x0) = some true)
    (p2_3 : PySem.W.subIn K (.ref x2) (.ref x3) = some false)
    (p3_0 : PySem.W.subIn K (.ref x3) (.ref x0) = some true)
    (p3_3 : PySem.W.subIn K (.ref x3) (.ref x3) = some true)
    (z_ValueError : PySem.W.nsIn K mainGlobals "ValueError" = some none)
    (z_all : PySem.W.nsIn K mainGlobals "all" = some none)
    (z_bool : PySem.W.nsIn K mainGlobals "bool" = some none)
    (z_int : PySem.W.nsIn K mainGlobals "int" = some none)
    (z_isinstance : PySem.W.nsIn K mainGlobals "isinstance" = some none)
    (z_len : PySem.W.nsIn K mainGlobals "len" = some none)
    (z_list : PySem.W.nsIn K mainGlobals "list" = some none)
    (z_max : PySem.W.nsIn K mainGlobals "max" = some none)
    (z_range : PySem.W.nsIn K mainGlobals "range" = some none)
    (z_sum : PySem.W.nsIn K mainGlobals "sum" = some none)
    (z_zip : PySem.W.nsIn K mainGlobals "zip" = some none)
    (v0 : PySem.W.nsIn K mainGlobals "FEWEST_SIGNS" = some (some (.int 2 tk0)))
    (v1 : PySem.W.nsIn K mainGlobals "MOST_SIGNS" = some (some (.int 13 tk1)))
    (v2 : PySem.W.nsIn K mainGlobals "MOST_NOUGHTS" = some (some (.int 1000000000000000000 tk2))) :
    ∃ fd : FuncData, (∀ (s : Shared) (v : Value), BindsTo s fd ⟨[v], []⟩ [("_law_script", v)]) ∧ ∀ base : Heap, K.In base → base.Ns mainGlobals mg → FnOk l.prog w K mg base (L2.CX l.prog w) 9 fa fd ["_law_script"] (sp_law K) := by
  have e := hfa.symm.trans (PySem.W.mg_of X G a26)
  cases e
  have R0 : Raw K mg "is_sign" "is_sign" s_is_sign ["value"] := ⟨f0, _, fun_mk (st := s_is_sign) l0 c0 k0, (fun_mk (st := s_is_sign) l0 c0 k0).binds fun _ _ _ _ _ _ us hl => match us, hl with | [_], _ => rfl, PySem.W.mg_of X G a0⟩
  have R1 : Raw K mg "need_row" "need_row" s_need_row ["row"] := ⟨f1, _, fun_mk (st := s_need_row) l1 c1 k1, (fun_mk (st := s_need_row) l1 c1 k1).binds fun _ _ _ _ _ _ us hl => match us, hl with | [_], _ => rfl, PySem.W.mg_of X G a1⟩
  have R2 : Raw K mg "need_divisor" "need_divisor" s_need_divisor ["divisor"] := ⟨f2, _, fun_mk (st := s_need_divisor) l2 c2 k2, (fun_mk (st := s_need_divisor) l2 c2 k2).binds fun _ _ _ _ _ _ us hl => match us, hl with | [_], _ => rfl, PySem.W.mg_of X G a2⟩
  have R3 : Raw K mg "reduced" "reduced" s_reduced ["row", "divisor"] := ⟨f3, _, fun_mk (st := s_reduced) l3 c3 k3, (fun_mk (st := s_reduced) l3 c3 k3).binds fun _ _ _ _ _ _ us hl => match us, hl with | [_, _], _ => rfl, PySem.W.mg_of X G a3⟩
  have R4 : Raw K mg "parted" "parted" s_parted ["row", "divisor"] := ⟨f4, _, fun_mk (st := s_parted) l4 c4 k4, (fun_mk (st := s_parted) l4 c4 k4).binds fun _ _ _ _ _ _ us hl => match us, hl with | [_, _], _ => rfl, PySem.W.mg_of X G a4⟩
  have R5 : Raw K mg "need_gate_divisor" "need_gate_divisor" s_need_gate_divisor ["divisor"] := ⟨f5, _, fun_mk (st := s_need_gate_divisor) l5 c5 k5, (fun_mk (st := s_need_gate_divisor) l5 c5 k5).binds fun _ _ _ _ _ _ us hl => match us, hl with | [_], _ => rfl, PySem.W.mg_of X G a5⟩
  have R6 : Raw K mg "reach" "reach" s_reach ["divisor"] := ⟨f6, _, fun_mk (st := s_reach) l6 c6 k6, (fun_mk (st := s_reach) l6 c6 k6).binds fun _ _ _ _ _ _ us hl => match us, hl with | [_], _ => rfl, PySem.W.mg_of X G a6⟩
  have R7 : Raw K mg "is_count" "is_count" s_is_count ["value"] := ⟨f7, _, fun_mk (st := s_is_count) l7 c7 k7, (fun_mk (st := s_is_count) l7 c7 k7).binds fun _ _ _ _ _ _ us hl => match us, hl with | [_], _ => rfl, PySem.W.mg_of X G a7⟩
  have R8 : RawI K kGate "Gate.__init__" s_Gate___init__ ["self", "divisor"] := ⟨f8, _, fun_mk (st := s_Gate___init__) l8 c8 k8, (fun_mk (st := s_Gate___init__) l8 c8 k8).binds fun _ _ _ _ _ _ us hl => match us, hl with | [_, _], _ => rfl, ⟨oGate_mk, a8, i8, oGate_kp⟩⟩
  have R9 : RawM K kGate "rest" "Gate.rest" s_Gate_rest ["self", "row"] := ⟨f9, _, fun_mk (st := s_Gate_rest) l9 c9 k9, (fun_mk (st := s_Gate_rest) l9 c9 k9).binds fun _ _ _ _ _ _ us hl => match us, hl with | [_, _], _ => rfl, ⟨a9, i9, k9⟩⟩
  have R10 : RawM K kGate "later" "Gate.later" s_Gate_later ["self", "rest", "many"] := ⟨f10, _, fun_mk (st := s_Gate_later) l10 c10 k10, (fun_mk (st := s_Gate_later) l10 c10 k10).binds fun _ _ _ _ _ _ us hl => match us, hl with | [_, _, _], _ => rfl, ⟨a10, i10, k10⟩⟩
  have R11 : RawM K kGate "check" "Gate.check" s_Gate_check ["self", "row"] := ⟨f11, _, fun_mk (st := s_Gate_check) l11 c11 k11, (fun_mk (st := s_Gate_check) l11 c11 k11).binds fun _ _ _ _ _ _ us hl => match us, hl with | [_, _], _ => rfl, ⟨a11, i11, k11⟩⟩
  have R12 : Raw K mg "_law_cell_at" "_law_cell_at" s__law_cell_at ["_law_script", "_law_k"] := ⟨f12, _, fun_mk (st := s__law_cell_at) l12 c12 k12, (fun_mk (st := s__law_cell_at) l12 c12 k12).binds fun _ _ _ _ _ _ us hl => match us, hl with | [_, _], _ => rfl, PySem.W.mg_of X G a12⟩
  have R13 : Raw K mg "_law_row_by" "_law_row_by" s__law_row_by ["_law_cell", "_law_size"] := ⟨f13, _, fun_mk (st := s__law_row_by) l13 c13 k13, (fun_mk (st := s__law_row_by) l13 c13 k13).binds fun _ _ _ _ _ _ us hl => match us, hl with | [_, _], _ => rfl, PySem.W.mg_of X G a13⟩
  have R14 : Raw K mg "_law_is_row" "_law_is_row" s__law_is_row ["_law_found", "_law_size"] := ⟨f14, _, fun_mk (st := s__law_is_row) l14 c14 k14, (fun_mk (st := s__law_is_row) l14 c14 k14).binds fun _ _ _ _ _ _ us hl => match us, hl with | [_, _], _ => rfl, PySem.W.mg_of X G a14⟩
  have R15 : Raw K mg "_law_step_by" "_law_step_by" s__law_step_by ["_law_rest", "_law_sign", "_law_divisor"] := ⟨f15, _, fun_mk (st := s__law_step_by) l15 c15 k15, (fun_mk (st := s__law_step_by) l15 c15 k15).binds fun _ _ _ _ _ _ us hl => match us, hl with | [_, _, _], _ => rfl, PySem.W.mg_of X G a15⟩
  have R16 : Raw K mg "_law_rest_by" "_law_rest_by" s__law_rest_by ["_law_row", "_law_divisor"] := ⟨f16, _, fun_mk (st := s__law_rest_by) l16 c16 k16, (fun_mk (st := s__law_rest_by) l16 c16 k16).binds fun _ _ _ _ _ _ us hl => match us, hl with | [_, _], _ => rfl, PySem.W.mg_of X G a16⟩
  have R17 : Raw K mg "_law_divisor_by" "_law_divisor_by" s__law_divisor_by ["_law_cell", "_law_bits"] := ⟨f17, _, fun_mk (st := s__law_divisor_by) l17 c17 k17, (fun_mk (st := s__law_divisor_by) l17 c17 k17).binds fun _ _ _ _ _ _ us hl => match us, hl with | [_, _], _ => rfl, PySem.W.mg_of X G a17⟩
  have R18 : Raw K mg "_law_reach_by" "_law_reach_by" s__law_reach_by ["_law_divisor"] := ⟨f18, _, fun_mk (st := s__law_reach_by) l18 c18 k18, (fun_mk (st := s__law_reach_by) l18 c18 k18).binds fun _ _ _ _ _ _ us hl => match us, hl with | [_], _ => rfl, PySem.W.mg_of X G a18⟩
  have R19 : Raw K mg "_law_told" "_law_told" s__law_told ["_law_gate", "_law_divisor", "_law_due"] := ⟨f19, _, fun_mk (st := s__law_told) l19 c19 k19, (fun_mk (st := s__law_told) l19 c19 k19).binds fun _ _ _ _ _ _ us hl => match us, hl with | [_, _, _], _ => rfl, PySem.W.mg_of X G a19⟩
  have R20 : Raw K mg "_law_made" "_law_made" s__law_made ["_law_cell", "_law_bits"] := ⟨f20, _, fun_mk (st := s__law_made) l20 c20 k20, (fun_mk (st := s__law_made) l20 c20 k20).binds fun _ _ _ _ _ _ us hl => match us, hl with | [_, _], _ => rfl, PySem.W.mg_of X G a20⟩
  have R21 : Raw K mg "_law_rested" "_law_rested" s__law_rested ["_law_gate", "_law_row", "_law_divisor", "_law_held"] := ⟨f21, _, fun_mk (st := s__law_rested) l21 c21 k21, (fun_mk (st := s__law_rested) l21 c21 k21).binds fun _ _ _ _ _ _ us hl => match us, hl with | [_, _, _, _], _ => rfl, PySem.W.mg_of X G a21⟩
  have R22 : Raw K mg "_law_checked" "_law_checked" s__law_checked ["_law_gate", "_law_row", "_law_due", "_law_divisor", "_law_held"] := ⟨f22, _, fun_mk (st := s__law_checked) l22 c22 k22, (fun_mk (st := s__law_checked) l22 c22 k22).binds fun _ _ _ _ _ _ us hl => match us, hl with | [_, _, _, _, _], _ => rfl, PySem.W.mg_of X G a22⟩
  have R23 : Raw K mg "_law_refused" "_law_refused" s__law_refused ["_law_gate", "_law_rest", "_law_many"] := ⟨f23, _, fun_mk (st := s__law_refused) l23 c23 k23, (fun_mk (st := s__law_refused) l23 c23 k23).binds fun _ _ _ _ _ _ us hl => match us, hl with | [_, _, _], _ => rfl, PySem.W.mg_of X G a23⟩
  have R24 : Raw K mg "_law_later" "_law_later" s__law_later ["_law_gate", "_law_rest", "_law_many", "_law_most", "_law_divisor", "_law_held"] := ⟨f24, _, fun_mk (st := s__law_later) l24 c24 k24, (fun_mk (st := s__law_later) l24 c24 k24).binds fun _ _ _ _ _ _ us hl => match us, hl with | [_, _, _, _, _, _], _ => rfl, PySem.W.mg_of X G a24⟩
  have R25 : Raw K mg "_law_kept" "_law_kept" s__law_kept ["_law_held"] := ⟨f25, _, fun_mk (st := s__law_kept) l25 c25 k25, (fun_mk (st := s__law_kept) l25 c25 k25).binds fun _ _ _ _ _ _ us hl => match us, hl with | [_], _ => rfl, PySem.W.mg_of X G a25⟩
  have T : Txt K mg ⟨0, x0, x1, x2, x3, kGate⟩ := ⟨⟨PySem.W.mg_of X G u0_1, u0_2, u0_3, u0_4, u0_5, u0_6, ⟨u0_8, u0_9, u0_4, u0_10, u0_11, q1, q2, u0_12⟩, u0_7⟩, ⟨PySem.W.mg_of X G u1_1, u1_2, u1_3, u1_4, u1_5, u1_6, ⟨u1_8, u1_9, u1_4, u1_10, u1_11, q1, q2, u1_12⟩, u1_7⟩, ⟨PySem.W.mg_of X G u2_1, u2_2, u2_3, u2_4, u2_5, u2_6, ⟨u2_8, u2_9, u2_4, u2_10, u2_11, q1, q2, u2_12⟩, u2_7⟩, ⟨PySem.W.mg_of X G u3_1, u3_2, u3_3, u3_4, u3_5, u3_6, ⟨u3_8, u3_9, u3_4, u3_10, u3_11, q1, q2, u3_12⟩, u3_7⟩, ⟨⟨oGate_pg, oGate_hd, oGate_po, oGate_sa⟩, PySem.W.mg_of X G oGate_g⟩, oGate_n_reach, oGate_n_divisor, oGate_n_width, oGate_n_even, p0_0, p0_3, p1_0, p1_3, p2_0, p2_3, p3_0, p3_3, PySem.W.mg_none_of X G z_ValueError, PySem.W.mg_none_of X G z_all, PySem.W.mg_none_of X G z_bool, PySem.W.mg_none_of X G z_int, PySem.W.mg_none_of X G z_isinstance, PySem.W.mg_none_of X G z_len, PySem.W.mg_none_of X G z_list, PySem.W.mg_none_of X G z_max, PySem.W.mg_none_of X G z_range, PySem.W.mg_none_of X G z_sum, PySem.W.mg_none_of X G z_zip, ⟨_, PySem.W.mg_of X G v0⟩, ⟨_, PySem.W.mg_of X G v1⟩, ⟨_, PySem.W.mg_of X G v2⟩, R0, R1, R2, R3, R4, R5, R6, R7, R8, R9, R10, R11, R12, R13, R14, R15, R16, R17, R18, R19, R20, R21, R22, R23, R24, R25⟩
  refine ⟨_, fun s v => .of_eq rfl, fun base _ _ => ok_law (fun_mk (st := s_law) l26 c26 k26) T⟩

end Cg
open PySem PySem.W PyProof.Rows in
set_option maxRecDepth 100000 in
set_option maxHeartbeats 0 in
theorem PySem.Challenge.cw_crcgate_k07_rests_and_noughts_holds : PySem.Challenge.rw_crcgate_k07_rests_and_noughts.Holds := by
  w_on; o_law; k_head; (case hw => w_witness2)
  k_fill
  refine L2.walk_of (l := PySem.Challenge.rw_crcgate_k07_rests_and_noughts) (n := 63) (k := 9) (x := "_law_script") (CX := fun w => L2.CX PySem.Challenge.rw_crcgate_k07_rests_and_noughts.prog w) (sp := fun w => Cg.sp_law _) rfl (by decide) rfl ⟨rfl, by decide, by decide⟩ (fun w h Y => PySem.W.kIn_of Y) ?F (fun _ _ a ns hl _ hS => ⟨a, ns, rfl, hS, hl, fun _ => rfl⟩) (fun _ _ _ _ _ z => Cg.cx_none z)
  case F =>
    intro w mg fa h KX G hmg
    refine' Cg.all_mk KX G hmg ?a0 ?l0 ?c0 ?k0 ?a1 ?l1 ?c1 ?k1 ?a2 ?l2 ?c2 ?k2 ?a3 ?l3 ?c3 ?k3 ?a4 ?l4 ?c4 ?k4 ?a5 ?l5 ?c5 ?k5 ?a6 ?l6 ?c6 ?k6 ?a7 ?l7 ?c7 ?k7 ?a8 ?i8 ?l8 ?c8 ?k8 ?a9 ?i9 ?l9 ?c9 ?k9 ?a10 ?i10 ?l10 ?c10 ?k10 ?a11 ?i11 ?l11 ?c11 ?k11 ?a12 ?l12 ?c12 ?k12 ?a13 ?l13 ?c13 ?k13 ?a14 ?l14 ?c14 ?k14 ?a15 ?l15 ?c15 ?k15 ?a16 ?l16 ?c16 ?k16 ?a17 ?l17 ?c17 ?k17 ?a18 ?l18 ?c18 ?k18 ?a19 ?l19 ?c19 ?k19 ?a20 ?l20 ?c20 ?k20 ?a21 ?l21 ?c21 ?k21 ?a22 ?l22 ?c22 ?k22 ?a23 ?l23 ?c23 ?k23 ?a24 ?l24 ?c24 ?k24 ?a25 ?l25 ?c25 ?k25 ?a26 ?l26 ?c26 ?k26 ?oGate_g ?oGate_pg ?oGate_hd ?oGate_po ?oGate_sa ?oGate_mk ?oGate_kp ?oGate_n_reach ?oGate_n_divisor ?oGate_n_width ?oGate_n_even ?u0_1 ?u0_2 ?u0_3 ?u0_4 ?u0_5 ?u0_6 ?u0_7 ?u0_8 ?u0_9 ?u0_10 ?u0_11 ?u0_12 ?u1_1 ?u1_2 ?u1_3 ?u1_4 ?u1_5 ?u1_6 ?u1_7 ?u1_8 ?u1_9 ?u1_10 ?u1_11 ?u1_12 ?u2_1 ?u2_2 ?u2_3 ?u2_4 ?u2_5 ?u2_6 ?u2_7 ?u2_8 ?u2_9 ?u2_10 ?u2_11 ?u2_12 ?u3_1 ?u3_2 ?u3_3 ?u3_4 ?u3_5 ?u3_6 ?u3_7 ?u3_8 ?u3_9 ?u3_10 ?u3_11 ?u3_12 ?q1 ?q2 ?p0_0 ?p0_3 ?p1_0 ?p1_3 ?p2_0 ?p2_3 ?p3_0 ?p3_3 ?z_ValueError ?z_all ?z_bool ?z_int ?z_isinstance ?z_len ?z_list ?z_max ?z_range ?z_sum ?z_zip ?v0 ?v1 ?v2
    (case oGate_g => k_is)
    (case oGate_pg => k_is)
    (case oGate_hd => k_is)
    (case oGate_po => k_is)
    (case oGate_sa => k_is)
    (case oGate_mk => k_is)
    (case oGate_kp => k_is)
    (case oGate_n_reach => k_is)
    (case oGate_n_divisor => k_is)
    (case oGate_n_width => k_is)
    (case oGate_n_even => k_is)
    (case a0 => k_is)
    (case l0 => k_is)
    (case c0 => k_is)
    (case k0 => k_is)
    (case a1 => k_is)
    (case l1 => k_is)
    (case c1 => k_is)
    (case k1 => k_is)
    (case a2 => k_is)
    (case l2 => k_is)
    (case c2 => k_is)
    (case k2 => k_is)
    (case a3 => k_is)
    (case l3 => k_is)
    (case c3 => k_is)
    (case k3 => k_is)
    (case a4 => k_is)
    (case l4 => k_is)
    (case c4 => k_is)
    (case k4 => k_is)
    (case a5 => k_is)
    (case l5 => k_is)
    (case c5 => k_is)
    (case k5 => k_is)
    (case a6 => k_is)
    (case l6 => k_is)
    (case c6 => k_is)
    (case k6 => k_is)
    (case a7 => k_is)
    (case l7 => k_is)
    (case c7 => k_is)
    (case k7 => k_is)
    (case a8 => k_is)
    (case i8 => k_is)
    (case l8 => k_is)
    (case c8 => k_is)
    (case k8 => k_is)
    (case a9 => k_is)
    (case i9 => k_is)
    (case l9 => k_is)
    (case c9 => k_is)
    (case k9 => k_is)
    (case a10 => k_is)
    (case i10 => k_is)
    (case l10 => k_is)
    (case c10 => k_is)
    (case k10 => k_is)
    (case a11 => k_is)
    (case i11 => k_is)
    (case l11 => k_is)
    (case c11 => k_is)
    (case k11 => k_is)
    (case a12 => k_is)
    (case l12 => k_is)
    (case c12 => k_is)
    (case k12 => k_is)
    (case a13 => k_is)
    (case l13 => k_is)
    (case c13 => k_is)
    (case k13 => k_is)
    (case a14 => k_is)
    (case l14 => k_is)
    (case c14 => k_is)
    (case k14 => k_is)
    (case a15 => k_is)
    (case l15 => k_is)
    (case c15 => k_is)
    (case k15 => k_is)
    (case a16 => k_is)
    (case l16 => k_is)
    (case c16 => k_is)
    (case k16 => k_is)
    (case a17 => k_is)
    (case l17 => k_is)
    (case c17 => k_is)
    (case k17 => k_is)
    (case a18 => k_is)
    (case l18 => k_is)
    (case c18 => k_is)
    (case k18 => k_is)
    (case a19 => k_is)
    (case l19 => k_is)
    (case c19 => k_is)
    (case k19 => k_is)
    (case a20 => k_is)
    (case l20 => k_is)
    (case c20 => k_is)
    (case k20 => k_is)
    (case a21 => k_is)
    (case l21 => k_is)
    (case c21 => k_is)
    (case k21 => k_is)
    (case a22 => k_is)
    (case l22 => k_is)
    (case c22 => k_is)
    (case k22 => k_is)
    (case a23 => k_is)
    (case l23 => k_is)
    (case c23 => k_is)
    (case k23 => k_is)
    (case a24 => k_is)
    (case l24 => k_is)
    (case c24 => k_is)
    (case k24 => k_is)
    (case a25 => k_is)
    (case l25 => k_is)
    (case c25 => k_is)
    (case k25 => k_is)
    (case a26 => k_is)
    (case l26 => k_is)
    (case c26 => k_is)
    (case k26 => k_is)
    (case u0_1 => k_is)
    (case u0_2 => k_exc)
    (case u0_3 => k_is)
    (case u0_4 => k_is)
    (case u0_5 => k_is)
    (case u0_6 => k_is)
    (case u0_7 => k_is)
    (case u0_8 => k_is)
    (case u0_9 => k_is)
    (case u0_10 => k_is)
    (case u0_11 => k_is)
    (case u0_12 => k_is)
    (case u1_1 => k_is)
    (case u1_2 => k_exc)
    (case u1_3 => k_is)
    (case u1_4 => k_is)
    (case u1_5 => k_is)
    (case u1_6 => k_is)
    (case u1_7 => k_is)
    (case u1_8 => k_is)
    (case u1_9 => k_is)
    (case u1_10 => k_is)
    (case u1_11 => k_is)
    (case u1_12 => k_is)
    (case u2_1 => k_is)
    (case u2_2 => k_exc)
    (case u2_3 => k_is)
    (case u2_4 => k_is)
    (case u2_5 => k_is)
    (case u2_6 => k_is)
    (case u2_7 => k_is)
    (case u2_8 => k_is)
    (case u2_9 => k_is)
    (case u2_10 => k_is)
    (case u2_11 => k_is)
    (case u2_12 => k_is)
    (case u3_1 => k_is)
    (case u3_2 => k_exc)
    (case u3_3 => k_is)
    (case u3_4 => k_is)
    (case u3_5 => k_is)
    (case u3_6 => k_is)
    (case u3_7 => k_is)
    (case u3_8 => k_is)
    (case u3_9 => k_is)
    (case u3_10 => k_is)
    (case u3_11 => k_is)
    (case u3_12 => k_is)
    (case q1 => k_is)
    (case q2 => k_is)
    (case p0_0 => first | rfl | k_is)
    (case p0_3 => first | rfl | k_is)
    (case p1_0 => first | rfl | k_is)
    (case p1_3 => first | rfl | k_is)
    (case p2_0 => first | rfl | k_is)
    (case p2_3 => first | rfl | k_is)
    (case p3_0 => first | rfl | k_is)
    (case p3_3 => first | rfl | k_is)
    (case z_ValueError => k_is)
    (case z_all => k_is)
    (case z_bool => k_is)
    (case z_int => k_is)
    (case z_isinstance => k_is)
    (case z_len => k_is)
    (case z_list => k_is)
    (case z_max => k_is)
    (case z_range => k_is)
    (case z_sum => k_is)
    (case z_zip => k_is)
    (case v0 => k_is)
    (case v1 => k_is)
    (case v2 => k_is)
