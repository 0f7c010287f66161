import PyProof.Rows.All
import Wide.All
import OpenK.AllK
import Wide.FinOn
import HandS.ForMost
import HandS.ForExc
import HandS.IsInst
import HandS.Zip
import HandS.Evl
import HandS.ExcIs
import HandS.SetFor
import HandS.DictComp
import PySem.Challenge.RW_crcgate_k10_a_register
set_option Elab.async false
set_option linter.all false
set_option maxRecDepth 100000
set_option maxHeartbeats 4000000
/-! ## Pre: our own words over the hand layer: rows of iv, defs of the top -/
namespace Cg
open PySem PySem.Spec PyProof.Rows L2 Evl

abbrev iv (ns : List Int) : List V := ns.map V.int
theorem iv_len (ns : List Int) : (iv ns).length = ns.length := List.length_map ..
theorem iv_at {ns : List Int} {i : Nat} {x : V} (h : (iv ns)[i]? = some x) : ∃ n, ns[i]? = some n ∧ x = V.int n := by
  rw [List.getElem?_map] at h
  cases e : ns[i]? with
  | none => rw [e] at h; cases h
  | some n => rw [e] at h; exact ⟨n, rfl, (Option.some.inj h).symm⟩
theorem iv_get {ns : List Int} {i : Nat} {n : Int} (h : ns[i]? = some n) : (iv ns)[i]? = some (V.int n) := by
  rw [List.getElem?_map, h]; rfl
theorem iv_inj {xs ys : List Int} (h : iv xs = iv ys) : xs = ys := by
  induction xs generalizing ys with
  | nil => cases ys with
    | nil => rfl
    | cons y r => cases h
  | cons x r ih => cases ys with
    | nil => cases h
    | cons y s =>
      have e1 : V.int x = V.int y := (List.cons.inj h).1
      have e2 : iv r = iv s := (List.cons.inj h).2
      rw [V.int.inj e1, ih e2]

theorem b_list : bootBuiltins "list" = some (.type "list") := by decide +kernel
theorem b_int : bootBuiltins "int" = some (.type "int") := by decide +kernel
theorem b_bool : bootBuiltins "bool" = some (.type "bool") := by decide +kernel
theorem b_str : bootBuiltins "str" = some (.type "str") := by decide +kernel
theorem b_tuple : bootBuiltins "tuple" = some (.type "tuple") := by decide +kernel
theorem b_ValueError : bootBuiltins "ValueError" = some (.type "ValueError") := by decide +kernel
theorem b_len : bootBuiltins "len" = some (.builtin "len") := PySem.boot_len
theorem b_isinstance : bootBuiltins "isinstance" = some (.builtin "isinstance") := by decide +kernel
theorem b_max : bootBuiltins "max" = some (.builtin "max") := by decide +kernel
theorem b_min : bootBuiltins "min" = some (.builtin "min") := by decide +kernel
theorem b_all : bootBuiltins "all" = some (.builtin "all") := by decide +kernel
theorem b_sum : bootBuiltins "sum" = some (.builtin "sum") := by decide +kernel
theorem b_ord : bootBuiltins "ord" = some (.builtin "ord") := by decide +kernel
theorem b_chr : bootBuiltins "chr" = some (.builtin "chr") := by decide +kernel
def rInt1 : List V → Hp → VK → Prop := fun xs H Q => (∃ i, xs = [.int i] ∧ Q (.int i) H) ∨ ∃ k, xs = [.bl k] ∧ Q (.int (if k then 1 else 0)) H
def rMin2 : List V → Hp → VK → Prop := fun xs H Q => ∃ i j, xs = [.int i, .int j] ∧ Q (.int (if j < i then j else i)) H
/-! ### defs of the top -/
def Raw (K : PySem.W.Frag) (mg : Str → Option Value) (name qual : Str) (st : Stmt) (ps : List Str) : Prop := ∃ f fd, Fun K name qual st f fd ∧ Binds K fd ps [] ∧ mg name = some (.ref f)
def Has (P : Program) (w : World) (K : PySem.W.Frag) (mg : Str → Option Value) (base : Heap) (k : Nat) (name : Str) (ps : List Str) (sp : Sp) : Prop :=
  ∃ f fd, FnOk P w K mg base (L2.CX P w) k f fd ps sp ∧ mg name = some (.ref f) ∧ PySem.W.keepIn K (.ref f) = true ∧ Binds K fd ps []
section
variable {P : Program} {w : World} {K : PySem.W.Frag} {mg : Str → Option Value} {base : Heap}
theorem Raw.ok {x qual : Str} {st : Stmt} {N ps : List Str} {k : Nat} {sp : Sp} (R : Raw K mg x qual st ps) (S : FnScope N ps (defScope st)) (len : ∀ vs H Q E, sp vs H Q E → vs.length = ps.length)
    (hbody : ∀ (f : Addr) (cdv : Value) (A : Around) (outer : List Env) (s : Shared) (H : Hp) (vs : List V) (Q : VK) (E : XK), Room k (A.deeper (envOfC qual (defScope st) s.heap.objs.size f cdv)) → sp vs H Q E →
      ∃ t, PSs (cxOf (L2.CX P w) P w K mg base N qual (defScope st) f cdv A outer s H E) (defBody st) t ∧ t { nx := fun _ H' => Q .non H', rt := Q } (start N vs) H) : Has P w K mg base (k + 1) x ps sp := by
  obtain ⟨f, fd, F, b, g⟩ := R
  exact ⟨f, fd, F.okX S len fun cdv A outer s H vs Q E hr h => hbody f cdv A outer s H vs Q E hr h, g, F.kp, b⟩
end
section
variable {X : Cx} {k : Nat} {ps : List Str} {sp : Sp} {E : XK} {x : Str} {p pos : Pos} {e : Expr} {es : List Expr} {t : TA}
theorem pe_callH (F : Has X.prog X.w X.K X.mg X.base k x ps sp) (hr : Room k X.A) (hx : Passes (L2.CX X.prog X.w) X E) (ha : PA X (e :: es) t) (hg : Gl X x := by rfl) (hdb : (x == ("__debug__" : Str)) = false := by decide)
    (he : starEach (e :: es) X.env = (false, eval e X.env) :: starEach es X.env := by rfl) (hpl : (backTo pos (starEach es X.env)).any (·.1) = false := by rfl) : PE X (.Call (.Name x p) (e :: es) [] pos) (tCall sp [] E t) := by
  obtain ⟨f, fd, F, g, kp, b⟩ := F
  exact pe_call F hr hg g kp b .nil hx ha hdb he hpl
end

theorem op_eqII : OpR X (compareOp .Eq) (rI0 fun i j => .bl (decide (i = j))) := opB0 fun _ _ _ _ _ _ _ q => eq_int (by rw [Bool.beq_eq_decide_eq]; exact q)
theorem op_neII : OpR X (compareOp .NotEq) (rI0 fun i j => .bl (!decide (i = j))) := opB0 fun _ _ _ _ _ _ _ q => ne_int (by rw [bne, Bool.beq_eq_decide_eq]; exact q)

theorem kk_isi (K) (h : X.K = K := by rfl) : CallR X (.builtin "isinstance") (rIsi K) := h ▸ call_isi
theorem kk_len (K) (h : X.K = K := by rfl) : CallR X (.builtin "len") (rLenS K) := h ▸ call_len_seq
theorem kk_list (K) (h : X.K = K := by rfl) : CallR X (.type "list") (rListS K) := h ▸ call_list_of
theorem kk_all (K) (hc : X.calm = true) (h : X.K = K := by rfl) : CallR X (.builtin "all") (rAll K) := h ▸ cr_all hc
theorem kk_sum (K) (hc : X.calm = true) (h : X.K = K := by rfl) : CallR X (.builtin "sum") (rSum K) := h ▸ cr_sum hc
theorem kk_int : CallR X (.type "int") rInt1 := call_int1
theorem kk_max (hc : X.calm = true) : CallR X (.builtin "max") rMax2 := call_max2 hc
theorem kk_min (hc : X.calm = true) : CallR X (.builtin "min") rMin2 := call_min2 hc
theorem kk_ixl (K) (h : X.K = K := by rfl) : IxR X (rIxL K) := h ▸ ix_list
theorem kk_ixt (K) (h : X.K = K := by rfl) : IxR X (rIxT K) := h ▸ ix_tup
theorem kk_sl (K) (h : X.K = K := by rfl) : SlR X (rSlL K) := h ▸ sl_list
theorem kk_in (K) (h : X.K = K := by rfl) : OpR X (compareOp .In) (rIn K false) := h ▸ op_in_seq
theorem kk_ni (K) (h : X.K = K := by rfl) : OpR X (compareOp .NotIn) (rIn K true) := h ▸ op_notIn_seq
theorem kk_eqD (K) (hu : X.A.units + 64 < cLine) (h : X.K = K := by rfl) : OpR X (compareOp .Eq) (rEqD K) := h ▸ op_eqD hu
theorem kk_neD (K) (hu : X.A.units + 64 < cLine) (h : X.K = K := by rfl) : OpR X (compareOp .NotEq) (rNeD K) := h ▸ op_neD hu

theorem cx_none {P : Program} {w : World} {H : Hp} {s : Shared} {e : Value} {s' : Shared} (z : L2.CX P w [] H s (fun _ _ _ => False) e s') : False := by
  obtain ⟨_, _, _, _, _, _, _, _, _, _, _, _, q⟩ := z
  exact q.elim
theorem pe_globI {X : Cx} {x : Str} {n : Int} {pos : Pos} (h : ∃ t, X.mg x = some (.int n t)) (hg : Gl X x := by rfl) (hd : (x == ("__debug__" : Str)) = false := by decide) : PE X (.Name x pos) (tC (.int n)) := by
  obtain ⟨t, h⟩ := h
  exact pe_glob hg h ⟨t, rfl⟩ hd
/-! ### errors of the program -/
abbrev veBase : List Value := [.type "ValueError", .type "Exception", .type "BaseException", .type "object"]
structure ExcT (K : PySem.W.Frag) (mg : Str → Option Value) (x : Str) (C : Addr) : Prop where
  g : mg x = some (.ref C)
  x : PySem.W.excIn K C veBase "ValueError.__new__" = true
  k : PySem.W.keepIn K (.ref C) = true
  b : PySem.W.subIn K (.ref C) (.type "BaseException") = some true
  t : PySem.W.typeIn K (.ref C) = some (.type "type")
  i : PySem.W.isClsIn K C = true
  c : ExcC K C
  v : PySem.W.subIn K (.ref C) (.type "ValueError") = some true
theorem ExcT.r {X : Cx} {x : Str} {C : Addr} (E : ExcT X.K X.mg x C) : Raises X (.ref C) := raises_own E.b E.t
theorem ExcT.exm {K : PySem.W.Frag} {mg : Str → Option Value} {x : Str} {C : Addr} {cls : Value} {b : Bool} (E : ExcT K mg x C) (h : PySem.W.subIn K cls (.ref C) = some b) : PySem.W.exmOne K cls (.ref C) = some b := PySem.W.exm_ref E.b E.c.hd E.t h
theorem ExcT.kitV {K : PySem.W.Frag} {mg : Str → Option Value} {x : Str} {C : Addr} (E : ExcT K mg x C) : PySem.W.kitOne K (.ref C) (.type "ValueError") = some true := by
  have m : PySem.W.kitMeta "ValueError" = true := by decide +kernel
  have n : ((Value.ref C : Value) == .type "ValueError") = false := rfl
  unfold PySem.W.kitOne
  rw [n]
  unfold PySem.W.kitCls
  rw [if_neg Bool.false_ne_true]
  show (if PySem.W.kitMeta "ValueError" = true then PySem.W.subIn K (.ref C) (.type "ValueError") else none) = some true
  rw [if_pos m]
  exact E.v
theorem ExcT.kit {K : PySem.W.Frag} {mg : Str → Option Value} {x : Str} {C D : Addr} {b : Bool} (E : ExcT K mg x C) (h : PySem.W.subIn K (.ref D) (.ref C) = some b) (ne : b = false → C ≠ D) : PySem.W.kitOne K (.ref D) (.ref C) = some b := by
  unfold PySem.W.kitOne
  by_cases e : D = C
  · subst e
    have z : ((Value.ref D : Value) == .ref D) = true := by simp
    rw [z, if_pos rfl]
    cases b with
    | true => rfl
    | false => exact absurd rfl (ne rfl)
  · have z : ((Value.ref D : Value) == .ref C) = false := by simpa using e
    rw [z, if_neg Bool.false_ne_true]
    unfold PySem.W.kitCls
    have e2 : ((PySem.W.clsIn K C).isSome && PySem.W.typeIn K (.ref C) == some (.type "type")) = true := by
      have h2' : (PySem.W.clsIn K C).isSome = true := E.i
      rw [h2', E.t] <;> rfl
    show (if ((PySem.W.clsIn K C).isSome && PySem.W.typeIn K (.ref C) == some (.type "type")) = true then PySem.W.subIn K (.ref D) (.ref C) else none) = some b
    rw [if_pos e2]
    exact h
/-- isinstance(e, c) in an except suite -/
def rIsX (K : PySem.W.Frag) (a : Addr) (cls : Value) (d : Option Addr) : List V → Hp → VK → Prop := fun xs H Q => ∃ D, cls = .ref D ∧ d = none ∧ ExcC K D ∧ rIsE K D a xs H Q
theorem call_isX {X : Cx} {a : Addr} {cls : Value} {d : Option Addr} {oe : Obj} {pn : List (Addr × Obj)} (hz : Zc cls d oe) (hf : ∃ vs, oe.data = .fields vs) : CallR (X.suite a ((a, oe) :: pn)) (.builtin "isinstance") (rIsX X.K a cls d) := by
  intro pins s σ H xs us Q I r h
  obtain ⟨D, rfl, rfl, C, h⟩ := h
  exact call_isE C hz hf pins s σ H xs us Q I r h
section
variable {X : Cx} {k : Nat} {ps : List Str} {sp : Sp} {E : L2.St → XK} {x : Str} {p pos : Pos} {e : Expr} {es : List Expr} {t : TA}
theorem pe_callHS (F : Has X.prog X.w X.K X.mg X.base k x ps sp) (hr : Room k X.A) (hx : ∀ σ, PassesAt (L2.CX X.prog X.w) X σ (E σ)) (ha : PA X (e :: es) t) (hg : Gl X x := by rfl) (hdb : (x == ("__debug__" : Str)) = false := by decide)
    (he : starEach (e :: es) X.env = (false, eval e X.env) :: starEach es X.env := by rfl) (hpl : (backTo pos (starEach es X.env)).any (·.1) = false := by rfl) : PE X (.Call (.Name x p) (e :: es) [] pos) (tCallS sp E t) := by
  obtain ⟨f, fd, F, g, kp, b⟩ := F
  exact pe_callS F hr hg g kp b hx ha hdb he hpl
end
/-! ### what evaluates to what: a list, new or old -/
def EvR (te : TE) (σ : L2.St) (H : Hp) (xs : List V) : Prop := ∀ H1, Ex H H1 → ∀ Q : VK, (∀ p H2, Ex H1 H2 → H2 p = some (.lst xs) → Q (.ref p) H2) → te σ H1 Q
section
variable {K : PySem.W.Frag} {σ : L2.St} {H H' : Hp} {ta tb te tx : TE} {t u : TT} {x y z v : V} {r : R2} {xs ys : List V}
theorem Ex.at {a : Addr} {o : HO} (e : Ex H H') (h : H a = some o) : H' a = some o := e a o h
theorem er_var {i : Nat} {a : Addr} (h : σ[i]? = some (some (.ref a))) (hl : H a = some (.lst xs)) : EvR (tVar i) σ H xs := fun H1 e _ q => ⟨_, h, q a H1 (Ex.refl H1) (e _ _ hl)⟩
theorem er_ev {a : Addr} (h : Ev te σ H (.ref a)) (hl : H a = some (.lst xs)) : EvR te σ H xs := fun H1 e Q q => h H1 e Q fun H2 e2 => q a H2 e2 (e2 _ _ (e _ _ hl))
theorem er_L (h : EvL te σ H xs) : EvR te σ H xs := fun H1 e Q q => h H1 e Q fun p H2 _ e2 h2 => q p H2 e2 h2
theorem EvR.is (h : EvR te σ H xs) (e : xs = ys) : EvR te σ H ys := e ▸ h
theorem el_is (h : EvL te σ H xs) (e : xs = ys) : EvL te σ H ys := e ▸ h
theorem el_cat (ha : EvR ta σ H xs) (hb : EvR tb σ H ys) (hz : xs.length + ys.length ≤ 10000000) : EvL (tOp rCat ta tb) σ H (xs ++ ys) := fun H1 e Q q =>
  ha H1 e _ fun a H2 e2 h2 => hb H2 (e.trans e2) _ fun b H3 e3 h3 => ⟨a, b, xs, ys, rfl, rfl, e3 _ _ h2, h3, Nat.le_trans hz (by decide), fun p hp => q p _ (fresh_back (e2.trans e3) hp) ((e2.trans e3).trans (Ex.new hp)) upd_same⟩
theorem el_rep {k : Int} {x : V} (ha : EvR ta σ H [x]) (hb : Ev tb σ H (.int k)) (hk : k ≤ 10000000 ∧ -10000000 ≤ k) : EvL (tOp rRep ta tb) σ H (List.replicate k.toNat x) := fun H1 e Q q =>
  ha H1 e _ fun a H2 e2 h2 => hb H2 (e.trans e2) _ fun H3 e3 => ⟨a, k, [x], rfl, rfl, e3 _ _ h2, by omega, by omega, by
    show [x].length * k.toNat ≤ 2 ^ 24
    rw [List.length_singleton]; omega, fun p hp => by
    have z : (List.replicate k.toNat [x]).flatten = List.replicate k.toNat x := by
      generalize k.toNat = n
      induction n with
      | zero => rfl
      | succ n ih => rw [List.replicate_succ, List.replicate_succ, List.flatten_cons, ih]; rfl
    refine q p _ (fresh_back (e2.trans e3) hp) ((e2.trans e3).trans (Ex.new hp)) ?_
    rw [z]
    exact upd_same⟩
theorem ev_lenR (ha : EvR ta σ H xs) : Ev (tCB (rLenS K) (tCons ta tNil)) σ H (.int (xs.length : Int)) := fun H1 e Q q =>
  ha H1 e _ fun p H2 e2 h2 => ⟨p, xs, rfl, Or.inl (sq_of h2), q H2 e2⟩
theorem el_listR (ha : EvR ta σ H xs) : EvL (tCB (rListS K) (tCons ta tNil)) σ H xs := fun H1 e Q q =>
  ha H1 e _ fun p H2 e2 h2 => ⟨p, xs, rfl, Or.inl (sq_of h2), fun l hl => q l _ (fresh_back e2 hl) (e2.trans (Ex.new hl)) upd_same⟩
theorem ev_ixR {i : Int} (ha : EvR ta σ H xs) (hb : Ev tb σ H (.int i)) (hv : atI xs i = some v) : Ev (tOp (rIxL K) ta tb) σ H v := fun H1 e Q q =>
  ha H1 e _ fun p H2 e2 h2 => hb H2 (e.trans e2) _ fun H3 e3 => ⟨p, xs, i, v, rfl, rfl, sq_of (e3 _ _ h2), hv, q H3 (e2.trans e3)⟩
theorem el_slR {tl th : TO} {lo hi : Option Int} (h : EvR te σ H xs) (h1 : EvO tl σ H lo) (h2 : EvO th σ H hi) : EvL (tSl (rSlL K) te tl th) σ H (cutV xs lo hi) := fun H1 e _ q =>
  h H1 e _ fun a H2 e2 hs => h1 H2 (e.trans e2) _ fun H3 e3 => h2 H3 ((e.trans e2).trans e3) _ fun H4 e4 =>
    ⟨a, xs, rfl, sq_of ((e3.trans e4) _ _ hs), fun p hp => q p _ (fresh_back ((e2.trans e3).trans e4) hp) (((e2.trans e3).trans e4).trans (Ex.new hp)) upd_same⟩
theorem ev_sumR {ns : List Int} (ha : EvR ta σ H (iv ns)) : Ev (tCB (rSum K) (tCons ta tNil)) σ H (.int ns.sum) := fun H1 e Q q =>
  ha H1 e _ fun p H2 e2 h2 => ⟨p, ns, rfl, sq_of h2, q H2 e2⟩
theorem ev_allR {bs : List Bool} (ha : EvR ta σ H (bs.map V.bl)) : Ev (tCB (rAll K) (tCons ta tNil)) σ H (.bl (bs.all id)) := fun H1 e Q q =>
  ha H1 e _ fun p H2 e2 h2 => ⟨p, bs, rfl, sq_of h2, q H2 e2⟩
theorem dpAll_iv : ∀ (ns : List Int), DpAll K H (iv ns) (ns.map PyData.int)
  | [] => .nil
  | n :: r => .cons (.int n) (dpAll_iv r)
theorem dp_row {a : Addr} {ns : List Int} (h : H a = some (.lst (iv ns))) : Dp K H (.ref a) (.list (ns.map PyData.int)) := .lst (sq_of h) (dpAll_iv ns)
theorem shaped_row (ns : List Int) : SeqAt.shaped (.list (ns.map PyData.int)) = true := by
  induction ns with
  | nil => rfl
  | cons n r ih => exact ih
theorem eqv_rows (xs ys : List Int) : PyData.eqv (.list (xs.map PyData.int)) (.list (ys.map PyData.int)) = decide (xs = ys) := by
  rw [PyData.eqv]
  induction xs generalizing ys with
  | nil => cases ys with
    | nil => rfl
    | cons y r => rfl
  | cons x r ih => cases ys with
    | nil => rfl
    | cons y t =>
      rw [List.map_cons, List.map_cons, PyData.eqvAll, ih, PyData.eqv]
      by_cases h1 : x = y
      · subst h1
        by_cases h2 : r = t
        · subst h2; simp
        · simp [h2]
      · simp [h1]
theorem ev_eqR {xs ys : List Int} (ha : EvR ta σ H (iv xs)) (hb : EvR tb σ H (iv ys)) : Ev (tOp (rEqD K) ta tb) σ H (.bl (decide (xs = ys))) := fun H1 e Q q =>
  ha H1 e _ fun p H2 e2 h2 => hb H2 (e.trans e2) _ fun p' H3 e3 h3 => ⟨_, _, dp_row (e3 _ _ h2), dp_row h3, shaped_row _, shaped_row _, by
    rw [eqv_rows]
    exact q H3 (e2.trans e3)⟩
theorem ev_neR {xs ys : List Int} (ha : EvR ta σ H (iv xs)) (hb : EvR tb σ H (iv ys)) : Ev (tOp (rNeD K) ta tb) σ H (.bl (!decide (xs = ys))) := fun H1 e Q q =>
  ha H1 e _ fun p H2 e2 h2 => hb H2 (e.trans e2) _ fun p' H3 e3 h3 => ⟨_, _, dp_row (e3 _ _ h2), dp_row h3, shaped_row _, shaped_row _, by
    rw [eqv_rows]
    exact q H3 (e2.trans e3)⟩
theorem inV_iv (x : Int) (ns : List Int) : inV (.int x) (iv ns) = decide (x ∈ ns) := by
  induction ns with
  | nil => rfl
  | cons n r ih =>
    show (eqV (V.int n) (V.int x) || inV (.int x) (iv r)) = _
    rw [ih]
    show (n == x || decide (x ∈ r)) = _
    by_cases h : n = x
    · subst h; simp
    · have h' : ¬ x = n := fun e => h e.symm
      simp [h, h']
theorem flat_iv (ns : List Int) : (iv ns).all flatV = true := by
  induction ns with
  | nil => rfl
  | cons n r ih => exact ih
theorem ev_inR {i : Int} {ns : List Int} (ha : Ev ta σ H (.int i)) (hb : EvR tb σ H (iv ns)) : Ev (tOp (rIn K false) ta tb) σ H (.bl (decide (i ∈ ns))) := fun H1 e Q q =>
  ha H1 e _ fun H2 e2 => hb H2 (e.trans e2) _ fun p H3 e3 h3 => ⟨p, _, rfl, Or.inl (sq_of h3), rfl, flat_iv ns, by
    rw [if_neg (by decide), inV_iv]
    exact q H3 (e2.trans e3)⟩
theorem ev_niR {i : Int} {ns : List Int} (ha : Ev ta σ H (.int i)) (hb : EvR tb σ H (iv ns)) : Ev (tOp (rIn K true) ta tb) σ H (.bl (!decide (i ∈ ns))) := fun H1 e Q q =>
  ha H1 e _ fun H2 e2 => hb H2 (e.trans e2) _ fun p H3 e3 h3 => ⟨p, _, rfl, Or.inl (sq_of h3), rfl, flat_iv ns, by
    rw [if_pos rfl, inV_iv]
    exact q H3 (e2.trans e3)⟩
theorem ev_isi {n : String} {tv : Value} {b : Bool} (ha : Ev ta σ H x) (ht : TyX K H x tv) (hm : ∀ H1, Ex H H1 → TyX K H1 x tv) (hb : PySem.W.kitOne K tv (.type n) = some b) : Ev (tCB (rIsi K) (tCons ta (tCons (tC (.ty n)) tNil))) σ H (.bl b) := fun H1 e Q q =>
  ha H1 e _ fun H2 e2 => ⟨x, .ty n, tv, .type n, b, rfl, .ty n, hm H2 (e.trans e2), hb, q H2 e2⟩
def tyName : V → Option String
  | .non => some "NoneType" | .bl _ => some "bool" | .int _ => some "int" | .str _ => some "str" | _ => none
theorem tyx_flat {s : String} (h : tyName x = some s) : TyX K H x (.type s) := by
  cases x with
  | non => cases h; exact .base .non
  | bl b => cases h; exact .base (.bl b)
  | int i => cases h; exact .base (.int i)
  | str z => cases h; exact .base (.str z)
  | byt _ => cases h
  | flt _ => cases h
  | ref _ => cases h
  | ty _ => cases h
theorem kit_list_list : kitB "list" "list" = some true := by decide +kernel
theorem kit_int_int : kitB "int" "int" = some true := by decide +kernel
theorem kit_int_bool : kitB "int" "bool" = some false := by decide +kernel
theorem kit_bool_int : kitB "bool" "int" = some true := by decide +kernel
theorem kit_bool_bool : kitB "bool" "bool" = some true := by decide +kernel
theorem kit_str_str : kitB "str" "str" = some true := by decide +kernel
theorem kit_list_int : kitB "list" "int" = some false := by decide +kernel
theorem kit_list_bool : kitB "list" "bool" = some false := by decide +kernel
theorem kit_list_str : kitB "list" "str" = some false := by decide +kernel
theorem kit_tuple_tuple : kitB "tuple" "tuple" = some true := by decide +kernel
theorem kit_tuple_list : kitB "tuple" "list" = some false := by decide +kernel
theorem kit_int_list : kitB "int" "list" = some false := by decide +kernel
theorem kit_str_list : kitB "str" "list" = some false := by decide +kernel
theorem kit_NoneType_list : kitB "NoneType" "list" = some false := by decide +kernel
theorem kit_bool_list : kitB "bool" "list" = some false := by decide +kernel
theorem kit_dict_list : kitB "dict" "list" = some false := by decide +kernel
theorem kit_NoneType_int : kitB "NoneType" "int" = some false := by decide +kernel
theorem kit_str_int : kitB "str" "int" = some false := by decide +kernel
theorem kit_tuple_int : kitB "tuple" "int" = some false := by decide +kernel
theorem kit_dict_int : kitB "dict" "int" = some false := by decide +kernel
theorem kit_int_str : kitB "int" "str" = some false := by decide +kernel
theorem kit_bool_str : kitB "bool" "str" = some false := by decide +kernel
theorem kit_NoneType_str : kitB "NoneType" "str" = some false := by decide +kernel
theorem kit_tuple_str : kitB "tuple" "str" = some false := by decide +kernel
theorem ev_isiF {n s : String} {b : Bool} (ha : Ev ta σ H x) (ht : tyName x = some s) (hb : kitB s n = some b) : Ev (tCB (rIsi K) (tCons ta (tCons (tC (.ty n)) tNil))) σ H (.bl b) :=
  ev_isi ha (tyx_flat ht) (fun _ _ => tyx_flat ht) (kit_ty hb)
theorem ev_isiR {n : String} {b : Bool} (ha : EvR ta σ H xs) (hb : kitB "list" n = some b) : Ev (tCB (rIsi K) (tCons ta (tCons (tC (.ty n)) tNil))) σ H (.bl b) := fun H1 e Q q =>
  ha H1 e _ fun p H2 e2 h2 => ⟨.ref p, .ty n, .type "list", .type n, b, rfl, .ty n, .base (.lst h2), kit_ty hb, q H2 e2⟩
theorem ev_intB {b : Bool} (ha : Ev ta σ H (.bl b)) : Ev (tCB rInt1 (tCons ta tNil)) σ H (.int (if b then 1 else 0)) := fun H1 e Q q =>
  ha H1 e _ fun H2 e2 => Or.inr ⟨b, rfl, q H2 e2⟩
theorem ev_min2 {i j : Int} (ha : Ev ta σ H (.int i)) (hb : Ev tb σ H (.int j)) : Ev (tCB rMin2 (tCons ta (tCons tb tNil))) σ H (.int (if j < i then j else i)) := fun H1 e Q q =>
  ha H1 e _ fun H2 e2 => hb H2 (e.trans e2) _ fun H3 e3 => ⟨i, j, rfl, q H3 (e2.trans e3)⟩
theorem ev_cmp {p : Int → Int → Bool} {i j : Int} (ha : Ev ta σ H (.int i)) (hb : Ev tb σ H (.int j)) : Ev (tCmp p ta tb) σ H (.bl (p i j)) := fun H1 e Q q =>
  ha H1 e _ fun H2 e2 => hb H2 (e.trans e2) _ fun H3 e3 => ⟨i, j, rfl, rfl, q H3 (e2.trans e3)⟩
/-! rows of ints -/
theorem el_catI {xs ys : List Int} (ha : EvR ta σ H (iv xs)) (hb : EvR tb σ H (iv ys)) (hz : xs.length + ys.length ≤ 10000000) : EvL (tOp rCat ta tb) σ H (iv (xs ++ ys)) :=
  el_is (el_cat ha hb (by rw [iv_len, iv_len]; exact hz)) (List.map_append ..).symm
theorem el_oneI {n : Int} (h : Ev te σ H (.int n)) : EvL (tLst (tCons te tNil)) σ H (iv [n]) := el_lst (ea_cons h ea_nil) (by show 1 ≤ _; decide)
theorem el_nilI : EvL (tLst tNil) σ H (iv []) := el_lst ea_nil (Nat.zero_le _)
theorem el_repI {k n : Int} (ha : Ev ta σ H (.int n)) (hb : Ev tb σ H (.int k)) (hk : k ≤ 10000000 ∧ -10000000 ≤ k) : EvL (tOp rRep (tLst (tCons ta tNil)) tb) σ H (iv (List.replicate k.toNat n)) :=
  el_is (el_rep (x := .int n) (er_L (el_oneI ha)) hb hk) (List.map_replicate ..).symm
theorem el_repN {k : Nat} {n : Int} (ha : Ev ta σ H (.int n)) (hb : Ev tb σ H (.int (k : Int))) (hk : k ≤ 10000000) : EvL (tOp rRep (tLst (tCons ta tNil)) tb) σ H (iv (List.replicate k n)) :=
  el_is (el_repI ha hb (by omega)) (by rw [Int.toNat_natCast])
theorem cutV_iv (xs : List Int) (lo hi : Option Int) : cutV (iv xs) lo hi = iv ((xs.drop (HT.sIx xs.length 0 lo)).take (HT.sIx xs.length xs.length hi - HT.sIx xs.length 0 lo)) := by
  unfold cutV
  rw [iv_len]
  unfold iv
  rw [List.map_take, List.map_drop]
theorem el_slFromI {xs : List Int} {n : Int} (h : EvR te σ H (iv xs)) (h1 : Ev tx σ H (.int n)) (h0 : 0 ≤ n) : EvL (tSl (rSlL K) te (tPart tx) tNoPart) σ H (iv (xs.drop n.toNat)) :=
  el_is (el_slR h (eo_some h1) eo_none) (by
    rw [cutV_iv, show n = ((n.toNat : Nat) : Int) by omega, HT.sIx_nat, HT.sIx_none, Int.toNat_natCast]
    congr 1
    rw [List.take_of_length_le (by rw [List.length_drop]; omega)]
    by_cases hc : n.toNat ≤ xs.length
    · rw [Nat.min_eq_left hc]
    · rw [Nat.min_eq_right (by omega), List.drop_of_length_le (Nat.le_refl _), List.drop_of_length_le (by omega)])
theorem el_slToI {xs : List Int} {n : Int} (h : EvR te σ H (iv xs)) (h1 : Ev tx σ H (.int n)) (h0 : 0 ≤ n) : EvL (tSl (rSlL K) te tNoPart (tPart tx)) σ H (iv (xs.take n.toNat)) :=
  el_is (el_slR h eo_none (eo_some h1)) (by
    rw [cutV_iv, show n = ((n.toNat : Nat) : Int) by omega, HT.sIx_nat, HT.sIx_none, Int.toNat_natCast, List.drop_zero, Nat.sub_zero]
    congr 1
    by_cases hc : n.toNat ≤ xs.length
    · rw [Nat.min_eq_left hc]
    · rw [Nat.min_eq_right (by omega), List.take_of_length_le (Nat.le_refl _), List.take_of_length_le (by omega)])
theorem ev_lenI {xs : List Int} (ha : EvR ta σ H (iv xs)) : Ev (tCB (rLenS K) (tCons ta tNil)) σ H (.int (xs.length : Int)) := ev_is (ev_lenR ha) (by rw [iv_len])
theorem at_iv {xs : List Int} {i n : Int} (h : atI xs i = some n) : atI (iv xs) i = some (.int n) := by
  unfold atI at h ⊢
  rw [iv_len]
  cases e : ixN xs.length i with
  | none => rw [e] at h; cases h
  | some j =>
    rw [e] at h
    exact iv_get h
theorem ev_ixI {xs : List Int} {i n : Int} (ha : EvR ta σ H (iv xs)) (hb : Ev tb σ H (.int i)) (hv : atI xs i = some n) : Ev (tOp (rIxL K) ta tb) σ H (.int n) := ev_ixR ha hb (at_iv hv)
theorem ev_mod {g : Int → Int → V} {C : Int → Int → Prop} {i j : Int} (ha : Ev ta σ H (.int i)) (hb : Ev tb σ H (.int j)) (hc : C i j) : Ev (tOp (rI C g) ta tb) σ H (g i j) := ev_op ha hb (rv_I hc)
theorem ev_i0 {g : Int → Int → V} {i j : Int} (ha : Ev ta σ H (.int i)) (hb : Ev tb σ H (.int j)) : Ev (tOp (rI0 g) ta tb) σ H (g i j) := ev_op ha hb rv_I0
theorem ev_eqS (ha : Ev ta σ H x) (hb : Ev tb σ H y) (h : scal x y = true) : Ev (tOp rEq ta tb) σ H (.bl (decide (x = y))) := ev_op ha hb (rv_eq h)
theorem ev_neS (ha : Ev ta σ H x) (hb : Ev tb σ H y) (h : scal x y = true) : Ev (tOp rNe ta tb) σ H (.bl (!decide (x = y))) := ev_op ha hb (rv_ne h)
theorem ev_one (h : Ev te σ H x) : Ev te σ H x := h
theorem ev_chain {g g' : Int → Int → Bool} {tc : TE} {i j k : Int} (ha : Ev ta σ H (.int i)) (hb : Ev tb σ H (.int j)) (hc : Ev tc σ H (.int k)) :
    Ev (tChain (rI0 fun i j => .bl (g i j)) (rI0 fun i j => .bl (g' i j)) ta tb tc) σ H (.bl (g i j && g' j k)) := fun H1 e Q q =>
  ha H1 e _ fun H2 e2 => hb H2 (e.trans e2) _ fun H3 e3 => ⟨i, j, rfl, rfl, g i j, rfl, by
    cases hg : g i j with
    | true =>
      rw [hg] at q
      refine iteT ?_
      exact hc H3 ((e.trans e2).trans e3) _ fun H4 e4 => ⟨j, k, rfl, rfl, q H4 ((e2.trans e3).trans e4)⟩
    | false =>
      rw [hg] at q
      refine iteF ?_
      exact q H3 (e2.trans e3)⟩
/-! arguments of which some are lists -/
def EvAP (t : TA) (σ : L2.St) (H : Hp) (P : List V → Hp → Prop) : Prop := ∀ H1, Ex H H1 → ∀ Q : List V → Hp → Prop, (∀ vs H2, Ex H1 H2 → P vs H2 → Q vs H2) → t σ H1 Q
theorem eap_nil : EvAP tNil σ H (fun vs _ => vs = []) := fun H1 _ _ q => q [] H1 (Ex.refl H1) rfl
theorem eap_ev {tr : TA} {P : List V → Hp → Prop} (h : Ev te σ H v) (hr : EvAP tr σ H P) : EvAP (tCons te tr) σ H (fun vs H' => ∃ r, vs = v :: r ∧ P r H') := fun H1 e Q q =>
  h H1 e _ fun H2 e2 => hr H2 (e.trans e2) _ fun vs H3 e3 h3 => q _ H3 (e2.trans e3) ⟨vs, rfl, h3⟩
theorem eap_er {tr : TA} {P : List V → Hp → Prop} (h : EvR te σ H xs) (hr : EvAP tr σ H P) : EvAP (tCons te tr) σ H (fun vs H' => ∃ p r, vs = .ref p :: r ∧ H' p = some (.lst xs) ∧ P r H') := fun H1 e Q q =>
  h H1 e _ fun p H2 e2 h2 => hr H2 (e.trans e2) _ fun vs H3 e3 h3 => q _ H3 (e2.trans e3) ⟨p, vs, rfl, e3 _ _ h2, h3⟩
/-- a written list of lists, and one of them -/
def EvLs (t : TA) (σ : L2.St) (H : Hp) (xss : List (List V)) : Prop := EvAP t σ H (fun vs H' => ∃ ps : List Addr, vs = ps.map V.ref ∧ ps.length = xss.length ∧ ∀ (i : Nat) (p : Addr) (xs : List V), ps[i]? = some p → xss[i]? = some xs → H' p = some (.lst xs))
theorem els_nil : EvLs tNil σ H [] := fun H1 _ _ q => q [] H1 (Ex.refl H1) ⟨[], rfl, rfl, fun i p xs h => by simp at h⟩
theorem els_cons {tr : TA} {xss : List (List V)} (h : EvR te σ H xs) (hr : EvLs tr σ H xss) : EvLs (tCons te tr) σ H (xs :: xss) := fun H1 e Q q =>
  h H1 e _ fun p H2 e2 h2 => hr H2 (e.trans e2) _ fun vs H3 e3 ⟨ps, ev, el, hp⟩ => q _ H3 (e2.trans e3) ⟨p :: ps, by rw [ev]; rfl, by rw [List.length_cons, el]; rfl, fun i p' xs' h1 h3 => by
    cases i with
    | zero =>
      have a1 : p = p' := Option.some.inj h1
      have a2 : xs = xs' := Option.some.inj h3
      subst a1 a2
      exact e3 _ _ h2
    | succ i => exact hp i p' xs' h1 h3⟩
theorem er_pick {t : TA} {xss : List (List V)} {i : Int} {j : Nat} (h : EvLs t σ H xss) (hb : Ev tb σ H (.int i)) (ei : i = (j : Int)) (hj : xss[j]? = some xs) (hz : xss.length ≤ 1000) : EvR (tOp (rIxL K) (tLst t) tb) σ H xs := fun H1 e Q q =>
  h H1 e _ fun vs H2 e2 ⟨ps, ev, el, hp⟩ => by
    subst ev
    have hjl : j < xss.length := (List.getElem?_eq_some_iff.mp hj).1
    have hjp : j < ps.length := by omega
    refine ⟨by rw [List.length_map, el]; exact Nat.le_trans hz (by decide), fun p hpn => hb _ ((e.trans e2).trans (Ex.new hpn)) _ fun H3 e3 => ⟨p, ps.map V.ref, i, .ref ps[j], rfl, rfl, sq_of (e3 _ _ upd_same), ?_, ?_⟩⟩
    · rw [ei]
      exact atI_nat (by rw [List.getElem?_map, List.getElem?_eq_getElem hjp]; rfl)
    · exact q ps[j] H3 ((e2.trans (Ex.new hpn)).trans e3) (e3 _ _ (Ex.new hpn _ _ (hp j ps[j] xs (List.getElem?_eq_getElem hjp) hj)))
/-- a call that gives a new list -/
theorem el_callP {sp : Sp} {dvs : List V} {E : XK} {targs : TA} {P : List V → Hp → Prop} (h : EvAP targs σ H P) (k : ∀ vs H1, Ex H H1 → P vs H1 → ∀ Q : VK, RetL xs H1 Q → sp (vs ++ dvs) H1 Q E) : EvL (tCall sp dvs E targs) σ H xs := fun H1 e Q q =>
  h H1 e _ fun vs H2 e2 p => k vs H2 (e.trans e2) p Q fun a H3 n3 e3 h3 => q a H3 (fresh_back e2 n3) (e2.trans e3) h3
theorem ev_isiTup {n : String} {b : Bool} {a : Addr} (ha : Ev ta σ H (.ref a)) (h : H a = some (.tup xs)) (hb : kitB "tuple" n = some b) : Ev (tCB (rIsi K) (tCons ta (tCons (tC (.ty n)) tNil))) σ H (.bl b) := fun H1 e Q q =>
  ha H1 e _ fun H2 e2 => ⟨.ref a, .ty n, .type "tuple", .type n, b, rfl, .ty n, .base (.tup (e2 _ _ (e _ _ h))), kit_ty hb, q H2 e2⟩
theorem ev_lenTup {a : Addr} (ha : Ev ta σ H (.ref a)) (h : H a = some (.tup xs)) : Ev (tCB (rLenS K) (tCons ta tNil)) σ H (.int (xs.length : Int)) := fun H1 e Q q =>
  ha H1 e _ fun H2 e2 => ⟨a, xs, rfl, Or.inr (st_of (e2 _ _ (e _ _ h))), q H2 e2⟩
theorem ev_ixTup {a : Addr} {i : Int} {j : Nat} (ha : Ev ta σ H (.ref a)) (h : H a = some (.tup xs)) (hb : Ev tb σ H (.int i)) (ei : i = (j : Int)) (hv : xs[j]? = some v) : Ev (tOp (rIxT K) ta tb) σ H v := fun H1 e Q q =>
  ha H1 e _ fun H2 e2 => hb H2 (e.trans e2) _ fun H3 e3 => ⟨a, xs, i, v, rfl, rfl, st_of (e3 _ _ (e2 _ _ (e _ _ h))), by rw [ei]; exact atI_nat hv, q H3 (e2.trans e3)⟩
/-! a call with arguments of which some are lists -/
theorem q_asgP {i : Nat} {sp : Sp} {dvs : List V} {E : XK} {targs : TA} {tz : TS} {D : Ends} {P : List V → Hp → Prop} (h : EvAP targs σ H P) (k : ∀ vs H1, Ex H H1 → P vs H1 → sp (vs ++ dvs) H1 (fun v H2 => tz D (σ.set i (some v)) H2) E) : tSeq (tAsg (tCall sp dvs E targs) (gName i)) tz D σ H :=
  h H (Ex.refl H) _ fun vs H1 e p => k vs H1 e p
theorem s_retP {sp : Sp} {dvs : List V} {E : XK} {targs : TA} {D : Ends} {P : List V → Hp → Prop} (h : EvAP targs σ H P) (k : ∀ vs H1, Ex H H1 → P vs H1 → sp (vs ++ dvs) H1 (fun v H2 => D.rt v H2) E) : tRet (tCall sp dvs E targs) D σ H :=
  h H (Ex.refl H) _ fun vs H1 e p => k vs H1 e p
/-! a call within a try -/
theorem s_dropS {sp : Sp} {vs : List V} {E : L2.St → XK} {targs : TA} {D : Ends} (h : EvA targs σ H vs) (k : ∀ H1, Ex H H1 → sp vs H1 (fun _ H2 => D.nx σ H2) (E σ)) : tDrop (tCallS sp E targs) D σ H :=
  h H (Ex.refl H) _ fun H1 e => k H1 e
/-! a call: the callee's promise in the reader's hand -/
theorem q_asgC {i : Nat} {sp : Sp} {dvs vs : List V} {E : XK} {targs : TA} {tz : TS} {D : Ends} (h : EvA targs σ H vs) (k : ∀ H1, Ex H H1 → sp (vs ++ dvs) H1 (fun v H2 => tz D (σ.set i (some v)) H2) E) : tSeq (tAsg (tCall sp dvs E targs) (gName i)) tz D σ H :=
  h H (Ex.refl H) _ fun H1 e => k H1 e
/-! the reading itself, step by step -/
theorem q_asgW {i : Nat} {tz : TS} {D : Ends} (h : te σ H (fun v H2 => tz D (σ.set i (some v)) H2)) : tSeq (tAsg te (gName i)) tz D σ H := h
theorem s_asgW {i : Nat} {D : Ends} (h : te σ H (fun v H2 => D.nx (σ.set i (some v)) H2)) : tAsg te (gName i) D σ H := h
theorem tup2_go {i j : Nat} {a : Addr} {x y : V} {D : L2.St → Hp → Prop} (hs : SqT K H a [x, y]) (k : D ((σ.set i (some x)).set j (some y)) H) : gTup K 2 (gCons (gName i) (gCons (gName j) gNil)) (.ref a) σ H D :=
  ⟨a, [x, y], rfl, hs, rfl, x, [y], rfl, y, [], rfl, rfl, k⟩
theorem q_asgG {g : TG} {tz : TS} {D : Ends} (h : te σ H (fun v H1 => g v σ H1 (tz D))) : tSeq (tAsg te g) tz D σ H := h
theorem op_go {Q : VK} (h : ta σ H (fun x H1 => tb σ H1 fun y H2 => r x y H2 Q)) : tOp r ta tb σ H Q := h
theorem call_go {sp : Sp} {dvs : List V} {E : XK} {t : TA} {Q : VK} (h : t σ H (fun vs H1 => sp (vs ++ dvs) H1 Q E)) : tCall sp dvs E t σ H Q := h
theorem ev_go {Q : VK} (h : Ev te σ H v) (k : ∀ H2, Ex H H2 → Q v H2) : te σ H Q := h H (Ex.refl H) Q k
theorem er_go {Q : VK} (h : EvR te σ H xs) (k : ∀ p H2, Ex H H2 → H2 p = some (.lst xs) → Q (.ref p) H2) : te σ H Q := h H (Ex.refl H) Q k
theorem el_go {Q : VK} (h : EvL te σ H xs) (k : ∀ p H2, H p = none → Ex H H2 → H2 p = some (.lst xs) → Q (.ref p) H2) : te σ H Q := h H (Ex.refl H) Q k
theorem ea_go {t : TA} {vs : List V} {Q : List V → Hp → Prop} (h : EvA t σ H vs) (k : ∀ H2, Ex H H2 → Q vs H2) : t σ H Q := h H (Ex.refl H) Q k
theorem s_asgC {i : Nat} {sp : Sp} {dvs vs : List V} {E : XK} {targs : TA} {D : Ends} (h : EvA targs σ H vs) (k : ∀ H1, Ex H H1 → sp (vs ++ dvs) H1 (fun v H2 => D.nx (σ.set i (some v)) H2) E) : tAsg (tCall sp dvs E targs) (gName i) D σ H :=
  h H (Ex.refl H) _ fun H1 e => k H1 e
theorem q_dropC {sp : Sp} {dvs vs : List V} {E : XK} {targs : TA} {tz : TS} {D : Ends} (h : EvA targs σ H vs) (k : ∀ H1, Ex H H1 → sp (vs ++ dvs) H1 (fun _ H2 => tz D σ H2) E) : tSeq (tDrop (tCall sp dvs E targs)) tz D σ H :=
  h H (Ex.refl H) _ fun H1 e => k H1 e
theorem s_retC {sp : Sp} {dvs vs : List V} {E : XK} {targs : TA} {D : Ends} (h : EvA targs σ H vs) (k : ∀ H1, Ex H H1 → sp (vs ++ dvs) H1 (fun v H2 => D.rt v H2) E) : tRet (tCall sp dvs E targs) D σ H :=
  h H (Ex.refl H) _ fun H1 e => k H1 e
theorem ea_one (h : Ev te σ H x) : EvA (tCons te tNil) σ H [x] := ea_cons h ea_nil
theorem ea_two (h : Ev ta σ H x) (h2 : Ev tb σ H y) : EvA (tCons ta (tCons tb tNil)) σ H [x, y] := ea_cons h (ea_cons h2 ea_nil)
/-- what is put together of an old heap and one list of one's own -/
theorem q_app1 {tz : TS} {D : Ends} {B : Hp} {l : Addr} {ws : List V} (hb : B l = none) (eb : Ex B H) (hl : H l = some (.lst ws)) (ha : Ev ta σ H (.ref l)) (h : Ev te σ H v) (hz : ws.length < 10000000)
    (k : ∀ H1, Ex B H1 → (∀ a o, a ≠ l → H a = some o → H1 a = some o) → H1 l = some (.lst (ws ++ [v])) → tz D σ H1) : tSeq (tDrop (tBM K "list" rAppend ta (tCons te tNil))) tz D σ H :=
  ha H (Ex.refl H) _ fun H1 e1 => ⟨Or.inl ⟨rfl, ws, sq_of (e1 l _ hl)⟩, h H1 e1 _ fun H2 e2 => ⟨l, ws, v, rfl, rfl, e2 l _ (e1 l _ hl), Nat.lt_of_lt_of_le hz (by decide),
    k _ (Ex.mut (eb.trans (e1.trans e2)) hb) (fun a o n ho => by rw [upd_ne n]; exact (e1.trans e2) _ _ ho) upd_same⟩⟩
theorem s_app1 {D : Ends} {B : Hp} {l : Addr} {ws : List V} (hb : B l = none) (eb : Ex B H) (hl : H l = some (.lst ws)) (ha : Ev ta σ H (.ref l)) (h : Ev te σ H v) (hz : ws.length < 10000000)
    (k : ∀ H1, Ex B H1 → (∀ a o, a ≠ l → H a = some o → H1 a = some o) → H1 l = some (.lst (ws ++ [v])) → D.nx σ H1) : tDrop (tBM K "list" rAppend ta (tCons te tNil)) D σ H :=
  ha H (Ex.refl H) _ fun H1 e1 => ⟨Or.inl ⟨rfl, ws, sq_of (e1 l _ hl)⟩, h H1 e1 _ fun H2 e2 => ⟨l, ws, v, rfl, rfl, e2 l _ (e1 l _ hl), Nat.lt_of_lt_of_le hz (by decide),
    k _ (Ex.mut (eb.trans (e1.trans e2)) hb) (fun a o n ho => by rw [upd_ne n]; exact (e1.trans e2) _ _ ho) upd_same⟩⟩
theorem iv_snoc (ws : List Int) (n : Int) : iv ws ++ [V.int n] = iv (ws ++ [n]) := (List.map_append (l₁ := ws) (l₂ := [n]) (f := V.int)).symm
theorem q_appI {tz : TS} {D : Ends} {B : Hp} {l : Addr} {ws : List Int} {n : Int} (hb : B l = none) (eb : Ex B H) (hl : H l = some (.lst (iv ws))) (ha : Ev ta σ H (.ref l)) (h : Ev te σ H (.int n)) (hz : ws.length < 10000000)
    (k : ∀ H1, Ex B H1 → (∀ a o, a ≠ l → H a = some o → H1 a = some o) → H1 l = some (.lst (iv (ws ++ [n]))) → tz D σ H1) : tSeq (tDrop (tBM K "list" rAppend ta (tCons te tNil))) tz D σ H :=
  q_app1 hb eb hl ha h (by rw [iv_len]; exact hz) fun H1 e1 e2 h1 => k H1 e1 e2 (by rw [h1, iv_snoc])
theorem s_appI {D : Ends} {B : Hp} {l : Addr} {ws : List Int} {n : Int} (hb : B l = none) (eb : Ex B H) (hl : H l = some (.lst (iv ws))) (ha : Ev ta σ H (.ref l)) (h : Ev te σ H (.int n)) (hz : ws.length < 10000000)
    (k : ∀ H1, Ex B H1 → (∀ a o, a ≠ l → H a = some o → H1 a = some o) → H1 l = some (.lst (iv (ws ++ [n]))) → D.nx σ H1) : tDrop (tBM K "list" rAppend ta (tCons te tNil)) D σ H :=
  s_app1 hb eb hl ha h (by rw [iv_len]; exact hz) fun H1 e1 e2 h1 => k H1 e1 e2 (by rw [h1, iv_snoc])
/-- xs[j] = e, in a list of one's own -/
theorem q_setI {tz : TS} {D : Ends} {B : Hp} {l : Addr} {ws : List Int} {n i : Int} {j : Nat} (hb : B l = none) (eb : Ex B H) (hl : H l = some (.lst (iv ws))) (h : Ev te σ H (.int n)) (ha : Ev ta σ H (.ref l)) (hi : Ev tb σ H (.int i)) (ei : i = (j : Int)) (hj : j < ws.length)
    (k : ∀ H1, Ex B H1 → (∀ a o, a ≠ l → H a = some o → H1 a = some o) → H1 l = some (.lst (iv (ws.set j n))) → tz D σ H1) : tSeq (tAsg te (gSub ta tb rSetL)) tz D σ H :=
  h H (Ex.refl H) _ fun H1 e1 => ha H1 e1 _ fun H2 e2 => hi H2 (e1.trans e2) _ fun H3 e3 => ⟨l, iv ws, i, j, rfl, rfl, ((e1.trans e2).trans e3) l _ hl, by rw [ei, iv_len]; exact ixN_nat hj, by
    refine k _ (Ex.mut (eb.trans ((e1.trans e2).trans e3)) hb) (fun a o n ho => by rw [upd_ne n]; exact ((e1.trans e2).trans e3) _ _ ho) ?_
    rw [upd_same]
    unfold iv
    rw [List.map_set]⟩
theorem s_setI {D : Ends} {B : Hp} {l : Addr} {ws : List Int} {n i : Int} {j : Nat} (hb : B l = none) (eb : Ex B H) (hl : H l = some (.lst (iv ws))) (h : Ev te σ H (.int n)) (ha : Ev ta σ H (.ref l)) (hi : Ev tb σ H (.int i)) (ei : i = (j : Int)) (hj : j < ws.length)
    (k : ∀ H1, Ex B H1 → (∀ a o, a ≠ l → H a = some o → H1 a = some o) → H1 l = some (.lst (iv (ws.set j n))) → D.nx σ H1) : tAsg te (gSub ta tb rSetL) D σ H :=
  h H (Ex.refl H) _ fun H1 e1 => ha H1 e1 _ fun H2 e2 => hi H2 (e1.trans e2) _ fun H3 e3 => ⟨l, iv ws, i, j, rfl, rfl, ((e1.trans e2).trans e3) l _ hl, by rw [ei, iv_len]; exact ixN_nat hj, by
    refine k _ (Ex.mut (eb.trans ((e1.trans e2).trans e3)) hb) (fun a o n ho => by rw [upd_ne n]; exact ((e1.trans e2).trans e3) _ _ ho) ?_
    rw [upd_same]
    unfold iv
    rw [List.map_set]⟩
/-- for i, x in enumerate(xs) -/
theorem s_forEn {D : Ends} {tu : TS} {a : Addr} {j1 j2 : Nat} {xs : List V} (h : Ev ta σ H (.ref a)) (hx : H a = some (.lst xs)) (Pv : Nat → L2.St → Hp → Prop) (h0 : ∀ H1, Ex H H1 → Pv 0 σ H1) (hl : ∀ i σ' H', i ≤ xs.length → Pv i σ' H' → SqL K H' a xs)
    (hs : ∀ i x σ' H', xs[i]? = some x → Pv i σ' H' → ∀ H2, Ex H' H2 → tu { D with nx := Pv (i + 1), ct := Pv (i + 1), bk := D.nx } ((σ'.set j1 (some (.int (i : Int)))).set j2 (some x)) H2) (hd : ∀ σ' H', Pv xs.length σ' H' → D.nx σ' H') :
    tFor (iEnum K (tCons ta tNil)) (gTup K 2 (gCons (gName j1) (gCons (gName j2) gNil))) tu D σ H := h H (Ex.refl H) _ fun H1 e1 => ⟨a, xs, rfl, sq_of (e1 _ _ hx), by
  refine ⟨fun i m σ' H' => i + m = xs.length ∧ Pv i σ' H', ⟨xs.length, Nat.zero_add _, h0 H1 e1⟩, ?_⟩
  rintro i m σ' H' ⟨em, p⟩
  have q := hl i σ' H' (by omega) p
  by_cases hi : i < xs.length
  · refine .inr ⟨⟨xs, xs[i], q, List.getElem?_eq_getElem hi⟩, Pv (i + 1), fun σ2 H2 hN => ⟨m - 1, by omega, by omega, hN⟩, fun x H2 hy => ?_⟩
    obtain ⟨T, x1, rfl, nT, rfl, f1⟩ := hy
    have ex1 : x1 = xs[i] := Option.some.inj ((f1 _ q).symm.trans (List.getElem?_eq_getElem hi))
    subst ex1
    exact ⟨T, [.int (i : Int), xs[i]], rfl, .inl (.inl upd_same), rfl, .int (i : Int), [xs[i]], rfl, xs[i], [], rfl, rfl, hs i _ σ' H' (List.getElem?_eq_getElem hi) p _ (Ex.new nT)⟩
  · have e : i = xs.length := by omega
    subst e
    exact .inl ⟨⟨xs, q, Nat.le_refl _⟩, hd σ' H' p⟩⟩
theorem q_forEn {D : Ends} {tu tz : TS} {a : Addr} {j1 j2 : Nat} {xs : List V} (h : Ev ta σ H (.ref a)) (hx : H a = some (.lst xs)) (Pv : Nat → L2.St → Hp → Prop) (h0 : ∀ H1, Ex H H1 → Pv 0 σ H1) (hl : ∀ i σ' H', i ≤ xs.length → Pv i σ' H' → SqL K H' a xs)
    (hs : ∀ i x σ' H', xs[i]? = some x → Pv i σ' H' → ∀ H2, Ex H' H2 → tu { D with nx := Pv (i + 1), ct := Pv (i + 1), bk := tz D } ((σ'.set j1 (some (.int (i : Int)))).set j2 (some x)) H2) (hd : ∀ σ' H', Pv xs.length σ' H' → tz D σ' H') :
    tSeq (tFor (iEnum K (tCons ta tNil)) (gTup K 2 (gCons (gName j1) (gCons (gName j2) gNil))) tu) tz D σ H := s_forEn (D := { D with nx := tz D }) h hx Pv h0 hl hs hd
/-! comprehensions over rows -/
theorem yes_go {A B : Hp → Prop} (h : A H) : tYes σ H (fun b H3 => if b = true then A H3 else B H3) := by
  show (if true = true then A H else B H)
  rw [if_pos rfl]
  exact h
theorem el_lcMap {tl : TE} {j : Nat} {vs : List Nat} (g : V → V) (h : EvR tl σ H xs) (hz : xs.length ≤ 1000000) (hw : ∀ x, wipe ((wipe σ vs).set j (some x)) vs = wipe σ vs)
    (he : ∀ (i : Nat) (x : V) H1, Ex H H1 → xs[i]? = some x → Ev te ((wipe σ vs).set j (some x)) H1 (g x)) :
    EvL (tLc (iList K tl) (gName j) tYes te vs) σ H (xs.map g) := fun H0 e Q q => h H0 e _ fun a H1 e1 hx => ⟨a, rfl, ⟨xs, sq_of hx⟩, fun Dl hD =>
  lc_list (xs := xs) (fun i H' => Ex H1 H' ∧ H' Dl = some (.lst ((xs.map g).take i))) ⟨Ex.new hD, by rw [List.take_zero]; exact upd_same⟩ (fun i H' _ p => sq_of (p.1 a _ hx)) (fun i x H' hi p => ⟨hw x, by
    refine yes_go ?_
    refine he i x H1 (e.trans e1) hi H' p.1 _ fun H4 e4 => ⟨_, e4 Dl _ p.2, ?_, Ex.mut (p.1.trans e4) hD, ?_⟩
    · have z := (List.getElem?_eq_some_iff.mp hi).1
      rw [List.length_take, List.length_map]
      show _ < 2 ^ 24
      omega
    · have z : (xs.map g)[i]? = some (g x) := by rw [List.getElem?_map, hi]; rfl
      rw [List.take_add_one, z]
      exact upd_same⟩)
    (fun H' p => q Dl H' (fresh_back e1 hD) (e1.trans p.1) (by
      have z := p.2
      rw [List.take_of_length_le (by rw [List.length_map]; exact Nat.le_refl _)] at z
      exact z))⟩
theorem el_lcRg {ta : TA} {j : Nat} {vs : List Nat} {n : Int} (g : Nat → V) (h : EvA ta σ H [.int n]) (hn : 0 ≤ n ∧ n ≤ 1000000) (hw : ∀ x, wipe ((wipe σ vs).set j (some x)) vs = wipe σ vs)
    (he : ∀ (i : Nat) H1, Ex H H1 → (i : Int) < n → Ev te ((wipe σ vs).set j (some (.int (i : Int)))) H1 (g i)) :
    EvL (tLc (iRng1 ta) (gName j) tYes te vs) σ H ((List.range n.toNat).map g) := fun H0 e Q q => h H0 e _ fun H1 e1 => ⟨n, rfl, by omega, by omega, fun Dl hD =>
  lc_range (lo := 0) (n := n.toNat) (fun i H' => Ex H1 H' ∧ H' Dl = some (.lst (((List.range n.toNat).map g).take i))) ⟨Ex.new hD, by rw [List.take_zero]; exact upd_same⟩ (fun i H' hi p => by
    have e0 : (0 : Int) + (i : Int) = (i : Int) := Int.zero_add _
    refine ⟨hw _, ?_⟩
    refine yes_go ?_
    rw [e0]
    refine he i H1 (e.trans e1) (by omega) H' p.1 _ fun H4 e4 => ⟨_, e4 Dl _ p.2, ?_, Ex.mut (p.1.trans e4) hD, ?_⟩
    · rw [List.length_take, List.length_map, List.length_range]
      show _ < 2 ^ 24
      omega
    · have z : ((List.range n.toNat).map g)[i]? = some (g i) := by rw [List.getElem?_map, List.getElem?_range hi]; rfl
      rw [List.take_add_one, z]
      exact upd_same) (fun H' p => q Dl H' (fresh_back e1 hD) (e1.trans p.1) (by
      have z := p.2
      rw [List.take_of_length_le (by rw [List.length_map, List.length_range]; exact Nat.le_refl _)] at z
      exact z))⟩
/-- [e for a, b in zip(xs, ys)] -/
theorem el_lcZip {i j : Nat} {vs : List Nat} {xs ys : List V} (g : V → V → V) (ha : EvR ta σ H xs) (hb : EvR tb σ H ys) (hz : xs.length ≤ 1000000) (hw : ∀ x y, wipe (((wipe σ vs).set i (some x)).set j (some y)) vs = wipe σ vs)
    (he : ∀ (k : Nat) (x y : V) H1, Ex H H1 → xs[k]? = some x → ys[k]? = some y → Ev te (((wipe σ vs).set i (some x)).set j (some y)) H1 (g x y)) :
    EvL (tLc (iZip K (tCons ta (tCons tb tNil))) (gTup K 2 (gCons (gName i) (gCons (gName j) gNil))) tYes te vs) σ H (List.zipWith g xs ys) := fun H0 e Q q =>
  ha H0 e _ fun a H1 e1 h1 => hb H1 (e.trans e1) _ fun b H2 e2 h2 => ⟨a, b, xs, ys, rfl, sq_of (e2 _ _ h1), sq_of h2, fun Dl hD => by
    have e02 : Ex H H2 := (e.trans e1).trans e2
    have hA : H2 a = some (.lst xs) := e2 _ _ h1
    refine ⟨fun k m H' => k + m = (List.zipWith g xs ys).length ∧ Ex H2 H' ∧ H' Dl = some (.lst ((List.zipWith g xs ys).take k)), ⟨(List.zipWith g xs ys).length, Nat.zero_add _, Ex.new hD, by rw [List.take_zero]; exact upd_same⟩, ?_⟩
    rintro k m H' ⟨em, p1, p2⟩
    have hl : (List.zipWith g xs ys).length = min xs.length ys.length := List.length_zipWith
    by_cases hk : k < (List.zipWith g xs ys).length
    · have kx : k < xs.length := by omega
      have ky : k < ys.length := by omega
      refine .inr ⟨⟨xs, ys, xs[k], ys[k], sq_of (p1 _ _ hA), sq_of (p1 _ _ h2), List.getElem?_eq_getElem kx, List.getElem?_eq_getElem ky⟩, fun H4 => Ex H2 H4 ∧ H4 Dl = some (.lst ((List.zipWith g xs ys).take (k + 1))), fun H4 hN => ⟨m - 1, by omega, by omega, hN.1, hN.2⟩, fun x H4 hy => ?_⟩
      obtain ⟨T, x1, x2, rfl, nT, rfl, f1, f2⟩ := hy
      have ex1 : x1 = xs[k] := Option.some.inj ((f1 _ (sq_of (p1 _ _ hA))).symm.trans (List.getElem?_eq_getElem kx))
      have ex2 : x2 = ys[k] := Option.some.inj ((f2 _ (sq_of (p1 _ _ h2))).symm.trans (List.getElem?_eq_getElem ky))
      subst ex1 ex2
      refine ⟨T, [xs[k], ys[k]], rfl, .inl (.inl upd_same), rfl, xs[k], [ys[k]], rfl, ys[k], [], rfl, rfl, hw _ _, ?_⟩
      refine yes_go ?_
      refine he k xs[k] ys[k] H2 e02 (List.getElem?_eq_getElem kx) (List.getElem?_eq_getElem ky) _ (p1.trans (Ex.new nT)) _ fun H5 e5 => ⟨_, e5 Dl _ (Ex.new nT _ _ p2), ?_, Ex.mut ((p1.trans (Ex.new nT)).trans e5) hD, ?_⟩
      · rw [List.length_take]
        show _ < 2 ^ 24
        omega
      · have z : (List.zipWith g xs ys)[k]? = some (g xs[k] ys[k]) := by
          rw [List.getElem?_zipWith, List.getElem?_eq_getElem kx, List.getElem?_eq_getElem ky]
        rw [List.take_add_one, z]
        exact upd_same
    · refine .inl ⟨⟨xs, ys, sq_of (p1 _ _ hA), sq_of (p1 _ _ h2), by omega⟩, ?_⟩
      have z := p2
      rw [List.take_of_length_le (by omega)] at z
      exact q Dl H' (fresh_back (e1.trans e2) hD) ((e1.trans e2).trans p1) z⟩
end
end Cg

set_option Elab.async false
set_option linter.all false
set_option maxRecDepth 100000
set_option maxHeartbeats 4000000
/-! ## Pre 2: classes of the program, their methods, what stands at an address and changes -/
namespace Cg
open PySem PySem.Spec PyProof.Rows L2 Evl
structure ClsT (K : PySem.W.Frag) (mg : Str → Option Value) (x : Str) (C : Addr) : Prop where
  cl : Cls K C
  g : mg x = some (.ref C)
def RawM (K : PySem.W.Frag) (C : Addr) (m qual : Str) (st : Stmt) (ps : List Str) : Prop := ∃ f fd, Fun K m qual st f fd ∧ Binds K fd ps [] ∧ Meth K C m f
def RawI (K : PySem.W.Frag) (C : Addr) (qual : Str) (st : Stmt) (ps : List Str) : Prop := ∃ f fd, Fun K "__init__" qual st f fd ∧ Binds K fd ps [] ∧ Mk K C f
def HasM (P : Program) (w : World) (K : PySem.W.Frag) (mg : Str → Option Value) (base : Heap) (k : Nat) (C : Addr) (m : Str) (ps : List Str) (sp : Sp) : Prop :=
  ∃ f fd, FnOk P w K mg base (L2.CX P w) k f fd ps sp ∧ Meth K C m f ∧ Binds K fd ps []
def HasI (P : Program) (w : World) (K : PySem.W.Frag) (mg : Str → Option Value) (base : Heap) (k : Nat) (C : Addr) (ps : List Str) (sp : Sp) : Prop :=
  ∃ f fd, FnOk P w K mg base (L2.CX P w) k f fd ps sp ∧ Mk K C f ∧ Binds K fd ps []
section
variable {P : Program} {w : World} {K : PySem.W.Frag} {mg : Str → Option Value} {base : Heap}
theorem RawM.ok {C : Addr} {m qual : Str} {st : Stmt} {N ps : List Str} {k : Nat} {sp : Sp} (R : RawM K C m qual st ps) (S : FnScope N ps (defScope st)) (len : ∀ vs H Q E, sp vs H Q E → vs.length = ps.length)
    (hbody : ∀ (f : Addr) (cdv : Value) (A : Around) (outer : List Env) (s : Shared) (H : Hp) (vs : List V) (Q : VK) (E : XK), Room k (A.deeper (envOfC qual (defScope st) s.heap.objs.size f cdv)) → sp vs H Q E →
      ∃ t, PSs (cxOf (L2.CX P w) P w K mg base N qual (defScope st) f cdv A outer s H E) (defBody st) t ∧ t { nx := fun _ H' => Q .non H', rt := Q } (start N vs) H) : HasM P w K mg base (k + 1) C m ps sp := by
  obtain ⟨f, fd, F, b, g⟩ := R
  exact ⟨f, fd, F.okX S len fun cdv A outer s H vs Q E hr h => hbody f cdv A outer s H vs Q E hr h, g, b⟩
theorem RawI.ok {C : Addr} {qual : Str} {st : Stmt} {N ps : List Str} {k : Nat} {sp : Sp} (R : RawI K C qual st ps) (S : FnScope N ps (defScope st)) (len : ∀ vs H Q E, sp vs H Q E → vs.length = ps.length)
    (hbody : ∀ (f : Addr) (cdv : Value) (A : Around) (outer : List Env) (s : Shared) (H : Hp) (vs : List V) (Q : VK) (E : XK), Room k (A.deeper (envOfC qual (defScope st) s.heap.objs.size f cdv)) → sp vs H Q E →
      ∃ t, PSs (cxOf (L2.CX P w) P w K mg base N qual (defScope st) f cdv A outer s H E) (defBody st) t ∧ t { nx := fun _ H' => Q .non H', rt := Q } (start N vs) H) : HasI P w K mg base (k + 1) C ps sp := by
  obtain ⟨f, fd, F, b, g⟩ := R
  exact ⟨f, fd, F.okX S len fun cdv A outer s H vs Q E hr h => hbody f cdv A outer s H vs Q E hr h, g, b⟩
end
/-! ### a method's call, an object's making: outside a try, and within one (Z) -/
section
variable {X : Cx} {k : Nat} {C : Addr} {ps : List Str} {sp : Sp} {E : XK} {G : L2.St → XK} {x m : Str} {p pos apos : Pos} {o e : Expr} {es : List Expr} {ta : TE} {t : TA}
theorem pe_methH {pl : Sem Bool} (he : PE X o ta) (c : Cls X.K C) (F : HasM X.prog X.w X.K X.mg X.base k C m ps sp) (hr : Room k X.A) (hx : Passes (L2.CX X.prog X.w) X E) (ha : PA X (e :: es) t)
    (h1 : starEach (e :: es) X.env = (false, eval e X.env) :: starEach es X.env := by rfl) (h2 : (backTo pos (starEach es X.env)).any (·.1) = false := by rfl)
    (h3 : eval (.Call (.Attribute o m apos) (e :: es) [] pos) X.env = (do let ov ← eval o X.env; standAt apos.atName; let (f, first) ← holding [ov] (getMethod ov m pl); callWith pos f first (backTo pos (starEach (e :: es) X.env)) (backToKw pos (keywordEach [] X.env))) := by rfl) :
    PE X (.Call (.Attribute o m apos) (e :: es) [] pos) (tMeth C m sp [] E ta t) := by
  obtain ⟨f, fd, F, hm, b⟩ := F
  exact pe_meth he c hm F hr b .nil hx ha h1 h2 h3
theorem pe_methH0 {pl : Sem Bool} (he : PE X o ta) (c : Cls X.K C) (F : HasM X.prog X.w X.K X.mg X.base k C m ps sp) (hr : Room k X.A) (hx : Passes (L2.CX X.prog X.w) X E)
    (h3 : eval (.Call (.Attribute o m apos) [] [] pos) X.env = (do let ov ← eval o X.env; standAt apos.atName; let (f, first) ← holding [ov] (getMethod ov m pl); callWith pos f first (backTo pos (starEach [] X.env)) (backToKw pos (keywordEach [] X.env))) := by rfl) :
    PE X (.Call (.Attribute o m apos) [] [] pos) (tMeth C m sp [] E ta tNil) := by
  obtain ⟨f, fd, F, hm, b⟩ := F
  exact pe_meth0 he c hm F hr b .nil hx h3
theorem pe_makeH (F : HasI X.prog X.w X.K X.mg X.base k C ps sp) (hr : Room (k + 1) X.A) (g : X.mg x = some (.ref C)) (hx : Passes (L2.CX X.prog X.w) X E) (ha : PA X (e :: es) t) (hg : Gl X x := by rfl) (hdb : (x == ("__debug__" : Str)) = false := by decide)
    (h1 : starEach (e :: es) X.env = (false, eval e X.env) :: starEach es X.env := by rfl) (h2 : (backTo pos (starEach es X.env)).any (·.1) = false := by rfl) : PE X (.Call (.Name x p) (e :: es) [] pos) (tMake C sp [] E t) := by
  obtain ⟨f, fd, F, M, b⟩ := F
  exact pe_make M F hr hg g b .nil hx ha hdb h1 h2
/-- o.m(e, ..) within a try -/
def tMethZ (C : Addr) (m : Str) (sp : Sp) (G : L2.St → XK) (ta : TE) (t : TA) : TE := fun σ H Q => ta σ H fun v H1 => ∃ (a dx : Addr) (fs : List (Str × V)), v = .ref a ∧ (H1 a = some (.ins C dx fs) ∧ fs.lookup m = none) ∧ t σ H1 fun vs H2 => sp (v :: vs) H2 Q (G σ)
theorem pe_methZ {pl : Sem Bool} (he : PE X o ta) (c : Cls X.K C) (F : HasM X.prog X.w X.K X.mg X.base k C m ps sp) (hr : Room k X.A) (hx : ∀ σ, PassesAt (L2.CX X.prog X.w) X σ (G σ)) (ha : PA X (e :: es) t)
    (h1 : starEach (e :: es) X.env = (false, eval e X.env) :: starEach es X.env := by rfl) (h2 : (backTo pos (starEach es X.env)).any (·.1) = false := by rfl)
    (h3 : eval (.Call (.Attribute o m apos) (e :: es) [] pos) X.env = (do let ov ← eval o X.env; standAt apos.atName; let (f, first) ← holding [ov] (getMethod ov m pl); callWith pos f first (backTo pos (starEach (e :: es) X.env)) (backToKw pos (keywordEach [] X.env))) := by rfl) :
    PE X (.Call (.Attribute o m apos) (e :: es) [] pos) (tMethZ C m sp G ta t) := by
  obtain ⟨f, fd, F, hm, b⟩ := F
  constructor
  intro pins s σ H Q I h
  refine PySem.W.methodCall_KW (pl := pl) (thn (he.run pins s σ H _ I h) fun ov s1 hov => ?_) h3
  obtain ⟨v, H1, J, rv, a, dx, fs, rfl, ⟨ea, el⟩, q⟩ := hov
  have eo : ov = Value.ref a := rv
  subst eo
  refine getmeth_ok J ea c hm el ?_
  refine PySem.W.callWith_K (first := [.ref a]) (h₀ := X.base) J.ok.mod.kin hm.kp (thn (ha.run pos pins s1 σ H1 _ J q) fun us s2 hus => ?_) h1 h2
  obtain ⟨vs, H2, J2, r, q2⟩ := hus
  exact ⟨J2.kIn, run_fnS (us := .ref a :: us) (vs := .ref a :: vs) F hr b (hx σ) J2 (.cons rfl r) q2⟩
/-- C(e, ..) within a try -/
def tMakeZ (C : Addr) (sp : Sp) (G : L2.St → XK) (t : TA) : TE := fun σ H Q => t σ H fun vs H1 => ∀ y dy, H1 y = none → H1 dy = none → dy ≠ y →
  sp (.ref y :: vs) (upd (upd H1 dy (.own y)) y (.ins C dy [])) (fun v H2 => v = .non ∧ Q (.ref y) H2) (G σ)
theorem run_makeZ {f : Addr} {fd : FuncData} {pins : List (Addr × Obj)} {σ : L2.St} {H : Hp} {s : Shared} {Q : VK} {us : List Value} {vs : List V} {E : XK} (M : Mk X.K C f) (F : FnOk X.prog X.w X.K X.mg X.base (L2.CX X.prog X.w) k f fd ps sp) (hr : Room (k + 1) X.A) (hb : Binds X.K fd ps [])
    (hx : PassesAt (L2.CX X.prog X.w) X σ E) (I : Inv X pins σ H s) (r : Vals vs us)
    (h : ∀ y dy, H y = none → H dy = none → dy ≠ y → sp (.ref y :: vs) (upd (upd H dy (.own y)) y (.ins C dy [])) (fun v H2 => v = .non ∧ Q (.ref y) H2) E) :
    wpAny (model X.prog X.w) X.A (call (.ref C) us) (EP X pins σ Q) X.xe s := by
  have sz := s.heap.objs.size
  have z := h (s.heap.objs.size + 1) s.heap.objs.size (I.hok.fresh (Nat.le_add_right _ 1)) (I.hok.fresh (Nat.le_refl _)) (Nat.ne_of_lt (Nat.lt_add_one _))
  have J := Inv.made (C := C) I
  have r' : Vals (V.ref (s.heap.objs.size + 1) :: vs) (Value.ref (s.heap.objs.size + 1) :: us) := .cons rfl r
  have len : (Value.ref (s.heap.objs.size + 1) :: us ++ []).length = ps.length := by
    rw [List.append_nil, ← r'.length]
    exact F.len _ _ _ _ z
  have bb := hb _ (Value.ref (s.heap.objs.size + 1) :: us) J.kIn len
  rw [List.append_nil] at bb
  have run := F.run _ X.stack _ _ ⟨Value.ref (s.heap.objs.size + 1) :: us, []⟩ (Value.ref (s.heap.objs.size + 1) :: us) _ _ E (hr.make C us []) (J.env0.make C us []) bb r' z
  refine wpAny_call (make_map (f := f) I.kIn M.makes M.init (beq_iff_eq.mp M.fn) (codeAny_mono run fun out s' ho => ?_))
  cases out with
  | error e => exact hx pins _ _ e s' J ho
  | ok fl =>
    cases fl with
    | next => exact ho.elim
    | brk => exact ho.elim
    | cont => exact ho.elim
    | ret u =>
      obtain ⟨v, H', J3, rv, hv, q⟩ := J.after ho
      cases hv
      exact ⟨rv, V.ref (s.heap.objs.size + 1), H', J3, rfl, q⟩
theorem pe_makeZ (F : HasI X.prog X.w X.K X.mg X.base k C ps sp) (hr : Room (k + 1) X.A) (g : X.mg x = some (.ref C)) (hx : ∀ σ, PassesAt (L2.CX X.prog X.w) X σ (G σ)) (ha : PA X (e :: es) t) (hg : Gl X x := by rfl) (hdb : (x == ("__debug__" : Str)) = false := by decide)
    (h1 : starEach (e :: es) X.env = (false, eval e X.env) :: starEach es X.env := by rfl) (h2 : (backTo pos (starEach es X.env)).any (·.1) = false := by rfl) : PE X (.Call (.Name x p) (e :: es) [] pos) (tMakeZ C sp G t) := by
  obtain ⟨f, fd, F, M, b⟩ := F
  constructor
  intro pins s σ H Q I h
  refine wpAny_Call_Name_kw (ld_glob I hg g ?_ hdb)
  refine PySem.W.callWith_K (h₀ := X.base) I.ok.mod.kin M.kp (thn (ha.run pos pins s σ H _ I h) fun us s1 hus => ?_) h1 h2
  obtain ⟨vs, H1, J, r, q⟩ := hus
  exact ⟨J.kIn, run_makeZ M F hr b (hx σ) J r q⟩
end
theorem kk_count (K) {X : Cx} (h : X.K = K := by rfl) : MtR X "list.count" (rCntI K) := h ▸ mt_lcount
/-! ### what changes at one address alone -/
def Kp (l : Addr) (H H' : Hp) : Prop := ∀ a o, a ≠ l → H a = some o → H' a = some o
theorem Kp.refl (l : Addr) (H : Hp) : Kp l H H := fun _ _ _ h => h
theorem Kp.upd {l : Addr} {H : Hp} {o : HO} : Kp l H (upd H l o) := fun a u n h => by rw [upd_ne n]; exact h
theorem Kp.trans {l : Addr} {H H1 H2 : Hp} (a : Kp l H H1) (b : Kp l H1 H2) : Kp l H H2 := fun x o n h => b x o n (a x o n h)
theorem Kp.of {l : Addr} {H H' : Hp} (e : Ex H H') : Kp l H H' := fun a o _ h => e a o h
theorem Kp.ex {l : Addr} {B H H' : Hp} (k : Kp l H H') (hb : B l = none) (e : Ex B H) : Ex B H' := fun a o h => k a o (ne_of_none h hb) (e a o h)
/-! ### fields and methods in a reading -/
section
variable {K : PySem.W.Frag} {σ : L2.St} {H H' : Hp} {ta tb te tx : TE} {t u : TT} {x y z v : V} {xs ys : List V} {a C dx : Addr} {fs : List (Str × V)} {f m : Str}
theorem ev_fld (h : Ev te σ H (.ref a)) (ho : H a = some (.ins C dx fs)) (c : Cls K C) (n : NoAttr K C f) (l : fs.lookup f = some v) : Ev (tFld K te f) σ H v := fun H1 e Q q =>
  h H1 e _ fun H2 e2 => ⟨a, C, dx, fs, v, rfl, e2 _ _ (e _ _ ho), c, n, l, q H2 e2⟩
theorem q_fld {D : Ends} {tz : TS} (h : Ev te σ H v) (hs : Ev ta σ H (.ref a)) (ho : H a = some (.ins C dx fs)) (c : Cls K C) (n : NoAttr K C f) (hl : fs.length < 1000) (k : ∀ H1, Ex H H1 → tz D σ (upd H1 a (.ins C dx (putF f v fs)))) : tSeq (sFld K ta te f) tz D σ H :=
  h H (Ex.refl H) _ fun H1 e1 => hs H1 e1 _ fun H2 e2 => ⟨a, C, dx, fs, rfl, e2 _ _ (e1 _ _ ho), c, n, hl, k H2 (e1.trans e2)⟩
theorem s_fld {D : Ends} (h : Ev te σ H v) (hs : Ev ta σ H (.ref a)) (ho : H a = some (.ins C dx fs)) (c : Cls K C) (n : NoAttr K C f) (hl : fs.length < 1000) (k : ∀ H1, Ex H H1 → D.nx σ (upd H1 a (.ins C dx (putF f v fs)))) : sFld K ta te f D σ H :=
  h H (Ex.refl H) _ fun H1 e1 => hs H1 e1 _ fun H2 e2 => ⟨a, C, dx, fs, rfl, e2 _ _ (e1 _ _ ho), c, n, hl, k H2 (e1.trans e2)⟩
theorem q_fldL {D : Ends} {tz : TS} (h : EvL te σ H xs) (hs : Ev ta σ H (.ref a)) (ho : H a = some (.ins C dx fs)) (c : Cls K C) (n : NoAttr K C f) (hl : fs.length < 1000) (k : ∀ p H1, H p = none → Ex H H1 → H1 p = some (.lst xs) → tz D σ (upd H1 a (.ins C dx (putF f (.ref p) fs)))) : tSeq (sFld K ta te f) tz D σ H :=
  h H (Ex.refl H) _ fun p H1 n1 e1 h1 => hs H1 e1 _ fun H2 e2 => ⟨a, C, dx, fs, rfl, e2 _ _ (e1 _ _ ho), c, n, hl, k p H2 n1 (e1.trans e2) (e2 _ _ h1)⟩
theorem s_fldL {D : Ends} (h : EvL te σ H xs) (hs : Ev ta σ H (.ref a)) (ho : H a = some (.ins C dx fs)) (c : Cls K C) (n : NoAttr K C f) (hl : fs.length < 1000) (k : ∀ p H1, H p = none → Ex H H1 → H1 p = some (.lst xs) → D.nx σ (upd H1 a (.ins C dx (putF f (.ref p) fs)))) : sFld K ta te f D σ H :=
  h H (Ex.refl H) _ fun p H1 n1 e1 h1 => hs H1 e1 _ fun H2 e2 => ⟨a, C, dx, fs, rfl, e2 _ _ (e1 _ _ ho), c, n, hl, k p H2 n1 (e1.trans e2) (e2 _ _ h1)⟩
theorem meth_go {sp : Sp} {dvs : List V} {E : XK} {t : TA} {Q : VK} (h : Ev ta σ H (.ref a)) (ho : H a = some (.ins C dx fs)) (hm : fs.lookup m = none) (k : ∀ H1, Ex H H1 → t σ H1 fun vs H2 => sp (.ref a :: (vs ++ dvs)) H2 Q E) : tMeth C m sp dvs E ta t σ H Q :=
  h H (Ex.refl H) _ fun H1 e => ⟨a, dx, fs, rfl, e _ _ ho, hm, k H1 e⟩
theorem methZ_go {sp : Sp} {G : L2.St → XK} {t : TA} {Q : VK} (h : Ev ta σ H (.ref a)) (ho : H a = some (.ins C dx fs)) (hm : fs.lookup m = none) (k : ∀ H1, Ex H H1 → t σ H1 fun vs H2 => sp (.ref a :: vs) H2 Q (G σ)) : tMethZ C m sp G ta t σ H Q :=
  h H (Ex.refl H) _ fun H1 e => ⟨a, dx, fs, rfl, ⟨e _ _ ho, hm⟩, k H1 e⟩
theorem el_meth {sp : Sp} {dvs : List V} {E : XK} {t : TA} {P : List V → Hp → Prop} (h : Ev ta σ H (.ref a)) (ho : H a = some (.ins C dx fs)) (hm : fs.lookup m = none) (ht : EvAP t σ H P)
    (k : ∀ vs H1, Ex H H1 → P vs H1 → ∀ Q : VK, RetL xs H1 Q → sp (.ref a :: (vs ++ dvs)) H1 Q E) : EvL (tMeth C m sp dvs E ta t) σ H xs := fun H1 e Q q =>
  h H1 e _ fun H2 e2 => ⟨a, dx, fs, rfl, e2 _ _ (e _ _ ho), hm, ht H2 (e.trans e2) _ fun vs H3 e3 p => k vs H3 ((e.trans e2).trans e3) p Q fun l H4 n4 e4 h4 => q l H4 (fresh_back (e2.trans e3) n4) ((e2.trans e3).trans e4) h4⟩
theorem ev_meth {sp : Sp} {dvs : List V} {E : XK} {t : TA} {P : List V → Hp → Prop} (h : Ev ta σ H (.ref a)) (ho : H a = some (.ins C dx fs)) (hm : fs.lookup m = none) (ht : EvAP t σ H P)
    (k : ∀ vs H1, Ex H H1 → P vs H1 → ∀ Q : VK, RetV v H1 Q → sp (.ref a :: (vs ++ dvs)) H1 Q E) : Ev (tMeth C m sp dvs E ta t) σ H v := fun H1 e Q q =>
  h H1 e _ fun H2 e2 => ⟨a, dx, fs, rfl, e2 _ _ (e _ _ ho), hm, ht H2 (e.trans e2) _ fun vs H3 e3 p => k vs H3 ((e.trans e2).trans e3) p Q fun H4 e4 => q H4 ((e2.trans e3).trans e4)⟩
theorem make_go {sp : Sp} {dvs : List V} {E : XK} {t : TA} {Q : VK} {P : List V → Hp → Prop} (ht : EvAP t σ H P)
    (k : ∀ vs H1, Ex H H1 → P vs H1 → ∀ y dy, H1 y = none → H1 dy = none → dy ≠ y → sp (.ref y :: (vs ++ dvs)) (upd (upd H1 dy (.own y)) y (.ins C dy [])) (fun v H2 => v = .non ∧ Q (.ref y) H2) E) : tMake C sp dvs E t σ H Q :=
  ht H (Ex.refl H) _ fun vs H1 e p => k vs H1 e p
theorem ap_go {t : TA} {P : List V → Hp → Prop} {Q : List V → Hp → Prop} (h : EvAP t σ H P) (k : ∀ vs H1, Ex H H1 → P vs H1 → Q vs H1) : t σ H Q := h H (Ex.refl H) Q k
theorem ev_count {ns : List Int} {k : Int} (ha : EvR ta σ H (iv ns)) (hb : Ev tb σ H (.int k)) : Ev (tBM K "list" (rCntI K) ta (tCons tb tNil)) σ H (.int (ns.count k : Nat)) := fun H1 e Q q =>
  ha H1 e _ fun p H2 e2 h2 => ⟨Or.inl ⟨rfl, _, sq_of h2⟩, hb H2 (e.trans e2) _ fun H3 e3 => ⟨p, ns, k, rfl, rfl, sq_of (e3 _ _ h2), q H3 (e2.trans e3)⟩⟩
/-- s_expr of a reading in hand -/
theorem s_dropW {D : Ends} (h : te σ H (fun _ H2 => D.nx σ H2)) : tDrop te D σ H := h
theorem q_dropW {D : Ends} {tz : TS} (h : te σ H (fun _ H2 => tz D σ H2)) : tSeq (tDrop te) tz D σ H := h
theorem s_retW {D : Ends} (h : te σ H (fun v H2 => D.rt v H2)) : tRet te D σ H := h
theorem s_retU {D : Ends} (h : EvU te σ H xs) (k : ∀ p H1, H p = none → Ex H H1 → H1 p = some (.tup xs) → D.rt (.ref p) H1) : tRet te D σ H := h H (Ex.refl H) _ k
/-- [.., ..] of any values, told by what they are -/
theorem el_lstP {t : TA} {Q : VK} {P : List V → Hp → Prop} (h : EvAP t σ H P) (k : ∀ vs H1, Ex H H1 → P vs H1 → vs.length ≤ 100000 ∧ ∀ p, H1 p = none → Q (.ref p) (upd H1 p (.lst vs))) : tLst t σ H Q :=
  h H (Ex.refl H) _ fun vs H1 e p => ⟨sz_of (k vs H1 e p).1, (k vs H1 e p).2⟩
end
end Cg
namespace Cg
open PySem PySem.Spec PyProof.Rows L2 Evl
section
variable {K : PySem.W.Frag} {σ : L2.St} {H H' : Hp} {ta tb tc te : TE} {v : V}
/-- isinstance(e, c) in an except suite, as a value -/
theorem ev_isX {a D : Addr} {c : V} {cv : Value} {b : Bool} (ha : Ev ta σ H (.ref a)) (hc : Ev tc σ H c) (hv : ∀ u, RelV c u → u = cv) (x : ExcC K D) (k : PySem.W.kitOne K (.ref D) cv = some b) : Ev (tCB (rIsX K a (.ref D) none) (tCons ta (tCons tc tNil))) σ H (.bl b) := fun H1 e Q q =>
  ha H1 e _ fun H2 e2 => hc H2 (e.trans e2) _ fun H3 e3 => ⟨D, rfl, rfl, x, c, cv, b, rfl, hv, k, q H3 (e2.trans e3)⟩
theorem ev_isV {mg : Str → Option Value} {x : Str} {a D : Addr} (ha : Ev ta σ H (.ref a)) (T : ExcT K mg x D) : Ev (tCB (rIsX K a (.ref D) none) (tCons ta (tCons (tC (.ty "ValueError")) tNil))) σ H (.bl true) := ev_isX ha ev_c (fun _ h => h) T.c T.kitV
theorem ev_isC {mg : Str → Option Value} {x y : Str} {a D C : Addr} {b : Bool} (ha : Ev ta σ H (.ref a)) (T : ExcT K mg x D) (S : ExcT K mg y C) (h : PySem.W.subIn K (.ref D) (.ref C) = some b) (ne : b = false → C ≠ D) : Ev (tCB (rIsX K a (.ref D) none) (tCons ta (tCons (tC (.ref C)) tNil))) σ H (.bl b) :=
  ev_isX ha ev_c (fun _ h => h) T.c (S.kit h ne)
/-- xs[:-1] -/
theorem el_slInit {xs : List Int} (h : EvR te σ H (iv xs)) (h1 : Ev tb σ H (.int (-1))) : EvL (tSl (rSlL K) te tNoPart (tPart tb)) σ H (iv xs.dropLast) :=
  el_is (el_slR h eo_none (eo_some h1)) (by
    rw [cutV_iv, HT.sIx_none, List.drop_zero, Nat.sub_zero]
    have z : HT.sIx xs.length xs.length (some (-1)) = xs.length - 1 := by
      show (if (-1 : Int) < 0 then ((-1 : Int) + (xs.length : Int)).toNat else min (-1 : Int).toNat xs.length) = _
      rw [if_pos (by decide)]
      omega
    rw [z, List.dropLast_eq_take])
end
end Cg
namespace Cg
open PySem PySem.Spec PyProof.Rows L2 Evl
/-! ### lists that were given and are held: pairs of a list and its copy -/
def HeldAt (H : Hp) (hd : Addr) (L : List Addr) (n : Nat) : Prop := ∃ ts : List Addr, H hd = some (.lst (ts.map V.ref)) ∧ ts.length = n ∧
  ∀ t ∈ ts, ∃ (a b : Addr) (ws : List Int), H t = some (.tup [.ref a, .ref b]) ∧ H a = some (.lst (iv ws)) ∧ H b = some (.lst (iv ws)) ∧ (a ≠ hd ∧ a ∉ L) ∧ (b ≠ hd ∧ b ∉ L)
theorem HeldAt.nil {H : Hp} {hd : Addr} {L : List Addr} (h : H hd = some (.lst [])) : HeldAt H hd L 0 := ⟨[], h, rfl, fun _ z => nomatch z⟩
theorem HeldAt.mono {H H' : Hp} {hd : Addr} {L : List Addr} {n : Nat} (h : HeldAt H hd L n) (e : Ex H H') : HeldAt H' hd L n := by
  obtain ⟨ts, h1, h2, h3⟩ := h
  refine ⟨ts, e _ _ h1, h2, fun t ht => ?_⟩
  obtain ⟨a, b, ws, k1, k2, k3, k4, k5⟩ := h3 t ht
  exact ⟨a, b, ws, e _ _ k1, e _ _ k2, e _ _ k3, k4, k5⟩
theorem HeldAt.more {H : Hp} {hd q : Addr} {L : List Addr} {n : Nat} (h : HeldAt H hd L n) (nq : H q = none) : HeldAt H hd (q :: L) n := by
  obtain ⟨ts, h1, h2, h3⟩ := h
  refine ⟨ts, h1, h2, fun t ht => ?_⟩
  obtain ⟨a, b, ws, k1, k2, k3, k4, k5⟩ := h3 t ht
  have na : a ≠ q := ne_of_none k2 nq
  have nb : b ≠ q := ne_of_none k3 nq
  exact ⟨a, b, ws, k1, k2, k3, ⟨k4.1, fun z => by rcases List.mem_cons.mp z with z | z; exact na z; exact k4.2 z⟩, k5.1, fun z => by rcases List.mem_cons.mp z with z | z; exact nb z; exact k5.2 z⟩
theorem HeldAt.less {H : Hp} {hd q : Addr} {L : List Addr} {n : Nat} (h : HeldAt H hd (q :: L) n) : HeldAt H hd L n := by
  obtain ⟨ts, h1, h2, h3⟩ := h
  refine ⟨ts, h1, h2, fun t ht => ?_⟩
  obtain ⟨a, b, ws, k1, k2, k3, k4, k5⟩ := h3 t ht
  exact ⟨a, b, ws, k1, k2, k3, ⟨k4.1, fun z => k4.2 (List.mem_cons_of_mem _ z)⟩, k5.1, fun z => k5.2 (List.mem_cons_of_mem _ z)⟩
/-- a list that is not held changes -/
theorem HeldAt.kp {H H' : Hp} {hd q : Addr} {L : List Addr} {n : Nat} (h : HeldAt H hd L n) (k : Kp q H H') (hq : q ∈ L) (nq : q ≠ hd) (hv : ∃ xs, H q = some (.lst xs)) : HeldAt H' hd L n := by
  obtain ⟨ts, h1, h2, h3⟩ := h
  obtain ⟨xs, hv⟩ := hv
  refine ⟨ts, k _ _ nq.symm h1, h2, fun t ht => ?_⟩
  obtain ⟨a, b, ws, k1, k2, k3, k4, k5⟩ := h3 t ht
  exact ⟨a, b, ws, k _ _ (ne_of k1 hv (by intro z; cases z)) k1, k _ _ (fun z => k4.2 (z ▸ hq)) k2, k _ _ (fun z => k5.2 (z ▸ hq)) k3, k4, k5⟩
/-- an object that is no list changes -/
theorem HeldAt.kpO {H H' : Hp} {hd q : Addr} {L : List Addr} {n : Nat} {C dx : Addr} {fs : List (Str × V)} (h : HeldAt H hd L n) (k : Kp q H H') (hv : H q = some (.ins C dx fs)) : HeldAt H' hd L n := by
  obtain ⟨ts, h1, h2, h3⟩ := h
  refine ⟨ts, k _ _ (ne_of h1 hv (by intro z; cases z)) h1, h2, fun t ht => ?_⟩
  obtain ⟨a, b, ws, k1, k2, k3, k4, k5⟩ := h3 t ht
  exact ⟨a, b, ws, k _ _ (ne_of k1 hv (by intro z; cases z)) k1, k _ _ (ne_of k2 hv (by intro z; cases z)) k2, k _ _ (ne_of k3 hv (by intro z; cases z)) k3, k4, k5⟩
section
variable {K : PySem.W.Frag} {σ : L2.St} {H H' : Hp} {ta tb tc te : TE} {x y v : V} {tu tz : TS} {D : Ends}
/-- held.append((x, list(x))) -/
theorem q_held {B : Hp} {hd a : Addr} {L : List Addr} {n i j : Nat} {ws : List Int} (hb : B hd = none) (eb : Ex B H) (hh : HeldAt H hd L n) (hL : ∀ z ∈ L, H z ≠ none) (hn : n < 100000) (hv : σ[j]? = some (some (.ref hd))) (hf : σ[i]? = some (some (.ref a))) (ha : H a = some (.lst (iv ws))) (ne : a ≠ hd) (nL : a ∉ L)
    (k : ∀ H1, Ex B H1 → Kp hd H H1 → HeldAt H1 hd L (n + 1) → tz D σ H1) : tSeq (tDrop (tBM K "list" rAppend (tVar j) (tCons (tTup (tCons (tVar i) (tCons (tCB (rListS K) (tCons (tVar i) tNil)) tNil))) tNil))) tz D σ H := by
  obtain ⟨ts, h1, h2, h3⟩ := hh
  refine ⟨_, hv, Or.inl ⟨rfl, _, sq_of h1⟩, _, hf, _, hf, a, iv ws, rfl, Or.inl (sq_of ha), fun b nb => ⟨by show 2 ≤ sizeLine; decide, fun t nt => ⟨hd, ts.map V.ref, .ref t, rfl, rfl, ?_, sz_lt (by rw [List.length_map, h2]; exact hn), ?_⟩⟩⟩
  · exact Ex.new nt _ _ (Ex.new nb _ _ h1)
  · have e1 : Ex H (upd H b (.lst (iv ws))) := Ex.new nb
    have e2 : Ex (upd H b (.lst (iv ws))) (upd (upd H b (.lst (iv ws))) t (.tup [.ref a, .ref b])) := Ex.new nt
    have e12 := e1.trans e2
    have nbh : b ≠ hd := (ne_of_none h1 nb).symm
    have bL : b ∉ L := fun z => hL b z nb
    have nth : t ≠ hd := (ne_of_none (e1 _ _ h1) nt).symm
    refine k _ (Ex.mut (eb.trans e12) hb) (fun z o nz hz => by rw [upd_ne nz]; exact e12 _ _ hz) ⟨ts ++ [t], ?_, by rw [List.length_append, h2]; rfl, fun z hz => ?_⟩
    · rw [upd_same, List.map_append]
      rfl
    · rcases List.mem_append.mp hz with hz | hz
      · obtain ⟨a', b', ws', k1, k2, k3, k4, k5⟩ := h3 z hz
        have nz : z ≠ hd := ne_of k1 h1 (by intro w; cases w)
        exact ⟨a', b', ws', by rw [upd_ne nz]; exact e12 _ _ k1, by rw [upd_ne k4.1]; exact e12 _ _ k2, by rw [upd_ne k5.1]; exact e12 _ _ k3, k4, k5⟩
      · rw [List.mem_singleton] at hz
        subst hz
        exact ⟨a, b, ws, by rw [upd_ne nth, upd_same], by rw [upd_ne ne]; exact e12 _ _ ha, by rw [upd_ne nbh]; exact e2 _ _ upd_same, ⟨ne, nL⟩, nbh, bL⟩
/-- x.append(n), told by what changes -/
theorem q_appK {l : Addr} {ws : List Int} {n : Int} (hl : H l = some (.lst (iv ws))) (ha : Ev ta σ H (.ref l)) (h : Ev te σ H (.int n)) (hz : ws.length < 100000)
    (k : ∀ H1, Kp l H H1 → H1 l = some (.lst (iv (ws ++ [n]))) → tz D σ H1) : tSeq (tDrop (tBM K "list" rAppend ta (tCons te tNil))) tz D σ H :=
  q_app hl ha h (by rw [iv_len]; exact hz) fun H1 e1 => k _ ((Kp.of e1).trans .upd) (by rw [upd_same, iv_snoc])
theorem s_appK {l : Addr} {ws : List Int} {n : Int} (hl : H l = some (.lst (iv ws))) (ha : Ev ta σ H (.ref l)) (h : Ev te σ H (.int n)) (hz : ws.length < 100000)
    (k : ∀ H1, Kp l H H1 → H1 l = some (.lst (iv (ws ++ [n]))) → D.nx σ H1) : tDrop (tBM K "list" rAppend ta (tCons te tNil)) D σ H :=
  s_app hl ha h (by rw [iv_len]; exact hz) fun H1 e1 => k _ ((Kp.of e1).trans .upd) (by rw [upd_same, iv_snoc])
theorem eap_tup2 {tr : TA} {P : List V → Hp → Prop} (ha : Ev ta σ H x) (hb : Ev tb σ H y) (hr : EvAP tr σ H P) : EvAP (tCons (tTup (tCons ta (tCons tb tNil))) tr) σ H (fun vs H' => ∃ (t : Addr) (r : List V), vs = .ref t :: r ∧ H' t = some (.tup [x, y]) ∧ P r H') := fun H1 e Q q =>
  ha H1 e _ fun H2 e2 => hb H2 (e.trans e2) _ fun H3 e3 => ⟨by show 2 ≤ sizeLine; decide, fun t nt => hr _ (((e.trans e2).trans e3).trans (Ex.new nt)) _ fun vs H4 e4 p => q _ H4 (((e2.trans e3).trans (Ex.new nt)).trans e4) ⟨t, vs, rfl, e4 _ _ upd_same, p⟩⟩
/-- a for whose walked thing is read by hand -/
theorem q_forW {g : TG} {tl : TE} (h : tl σ H fun v H1 => ∃ a, v = .ref a ∧ (∃ xs, SqL K H1 a xs) ∧ ∃ W : Nat → Nat → L2.St → Hp → Prop, (∃ m, W 0 m σ H1) ∧ ∀ i m σ H, W i m σ H →
    ((Itl K a).stop i H ∧ tz D σ H) ∨ ((Itl K a).go i H ∧ ∃ N : L2.St → Hp → Prop, (∀ σ' H', N σ' H' → ∃ m', m' < m ∧ W (i + 1) m' σ' H') ∧ ∀ x H', (Itl K a).yld i H x H' → g x σ H' fun σ2 H2 => tu { D with nx := N, ct := N, bk := tz D } σ2 H2)) :
    tSeq (tFor (iList K tl) g tu) tz D σ H := h
end
end Cg
namespace Cg
open PySem PySem.Spec PyProof.Rows L2 Evl
section
variable {K : PySem.W.Frag} {σ : L2.St} {H H' : Hp} {te : TE} {t : TT} {tu tw tz : TS} {D : Ends}
theorem s_ifW (h : t σ H fun b H1 => if b = true then tu D σ H1 else tw D σ H1) : tIfS t tu tw D σ H := h
theorem q_ifW (h : t σ H fun b H1 => if b = true then tu { D with nx := tz D } σ H1 else tw { D with nx := tz D } σ H1) : tSeq (tIfS t tu tw) tz D σ H := h
theorem nb_go {Q : Bool → Hp → Prop} (h : te σ H fun x H1 => ∃ c, x = .bl c ∧ Q (!c) H1) : tNot (tB te) σ H Q := h
theorem or_go {u : TT} {Q : Bool → Hp → Prop} (h : t σ H fun c H1 => if c = true then Q true H1 else u σ H1 Q) : tOr t u σ H Q := h
theorem if_no {p q : Prop} (h : q) : if (!true) = true then p else q := by
  rw [if_neg (by decide)]
  exact h
theorem if_no' {p q : Prop} (h : q) : if false = true then p else q := by
  rw [if_neg (by decide)]
  exact h
theorem if_yes {p q : Prop} (h : p) : if true = true then p else q := by
  rw [if_pos rfl]
  exact h
end
end Cg
namespace Cg
open PySem PySem.Spec PyProof.Rows L2 Evl
/-- a heap but for what stands at one address -/
def but (l : Addr) (H : Hp) : Hp := fun a => if a = l then none else H a
theorem but_same {l : Addr} {H : Hp} : but l H l = none := by
  unfold but
  rw [if_pos rfl]
theorem but_ne {l a : Addr} {H : Hp} (n : a ≠ l) : but l H a = H a := by
  unfold but
  rw [if_neg n]
theorem but_at {l a : Addr} {H : Hp} {o : HO} (n : a ≠ l) (h : H a = some o) : but l H a = some o := by rw [but_ne n, h]
theorem Kp.but {l : Addr} {H H' : Hp} (k : Kp l H H') : Ex (but l H) H' := fun a o h => by
  by_cases c : a = l
  · rw [c, but_same] at h
    cases h
  · rw [but_ne c] at h
    exact k a o c h
theorem but_kp {l : Addr} {H H' : Hp} (e : Ex (but l H) H') : Kp l H H' := fun a o n h => e a o (but_at n h)
end Cg
namespace Cg
open PySem PySem.Spec PyProof.Rows L2 Evl
def FLoop (K : PySem.W.Frag) (a : Addr) (g : TG) (tu : TS) (D : Ends) (σ : L2.St) (H : Hp) : Prop := ∃ W : Nat → Nat → L2.St → Hp → Prop, (∃ m, W 0 m σ H) ∧ ∀ i m σ H, W i m σ H →
  ((Itl K a).stop i H ∧ D.nx σ H) ∨ ((Itl K a).go i H ∧ ∃ N : L2.St → Hp → Prop, (∀ σ' H', N σ' H' → ∃ m', m' < m ∧ W (i + 1) m' σ' H') ∧ ∀ x H', (Itl K a).yld i H x H' → g x σ H' fun σ2 H2 => tu { D with nx := N, ct := N, bk := D.nx } σ2 H2)
section
variable {K : PySem.W.Frag} {σ : L2.St} {H : Hp} {tl : TE} {g : TG} {tu tz : TS} {D : Ends} {a : Addr} {xs : List V}
theorem floop (Pv : Nat → L2.St → Hp → Prop) (h0 : Pv 0 σ H) (hl : ∀ i σ H, i ≤ xs.length → Pv i σ H → SqL K H a xs)
    (hs : ∀ i x σ H, xs[i]? = some x → Pv i σ H → g x σ H fun σ2 H2 => tu { D with nx := Pv (i + 1), ct := Pv (i + 1), bk := D.nx } σ2 H2) (hd : ∀ σ H, Pv xs.length σ H → D.nx σ H) : FLoop K a g tu D σ H := for_list Pv h0 hl hs hd
theorem q_forF (h : tl σ H fun v H1 => ∃ a, v = .ref a ∧ (∃ xs, SqL K H1 a xs) ∧ FLoop K a g tu { D with nx := tz D } σ H1) : tSeq (tFor (iList K tl) g tu) tz D σ H := h
theorem s_forF (h : tl σ H fun v H1 => ∃ a, v = .ref a ∧ (∃ xs, SqL K H1 a xs) ∧ FLoop K a g tu D σ H1) : tFor (iList K tl) g tu D σ H := h
end
end Cg

set_option Elab.async false
set_option linter.all false
set_option maxRecDepth 100000
set_option maxHeartbeats 4000000
/-! ## Pre 3: several except clauses, each with the same name -/
namespace Cg
open PySem PySem.Spec PyProof.Rows L2 Evl
abbrev Suite := Addr → Value → Option Addr → TS
def wManyA (K : PySem.W.Frag) (i : Nat) (Wo : WX) (D : Ends) : List (Value × Suite) → WX
  | [] => Wo
  | (c, ts) :: r => fun cls d σ H => ∃ b, PySem.W.exmOne K cls c = some b ∧
      (b = true → ∀ a, H a = none → ts a cls d { nx := fun τ G => D.nx (τ.set i none) G, rt := D.rt, bk := fun τ G => D.bk (τ.set i none) G, ct := fun τ G => D.ct (τ.set i none) G } (σ.set i (some (.ref a))) H) ∧ (b = false → wManyA K i Wo D r cls d σ H)
inductive HdsA (X : Cx) (n : Str) : List ExceptHandler → List (Value × Suite) → Prop
  | nil : HdsA X n [] []
  | cons {x : Str} {c : Value} {ts : Suite} {st : Stmt} {sts : List Stmt} {np ep : Pos} {hs : List ExceptHandler} {l : List (Value × Suite)} (hc : Names X x c)
      (su : ∀ (a : Addr) (oe : Obj) (cls : Value) (d : Option Addr) (pn : List (Addr × Obj)), Zc cls d oe → (∃ vs, oe.data = .fields vs) → PSs (X.suite a ((a, oe) :: pn)) (st :: sts) (ts a cls d)) (r : HdsA X n hs l) :
      HdsA X n (.ExceptHandler (some (.Name x np)) (some n) (st :: sts) ep :: hs) ((c, ts) :: l)
theorem ps_try_manyA {X : Cx} {n : Str} {i : Nat} {body : List Stmt} {h₀ : ExceptHandler} {hds : List ExceptHandler} {l : List (Value × Suite)} {pos : Pos} {tb : WX → TS} {Wo : WX} (hs : X.stack = X.env :: X.outer) (hf : X.env.frame = some X.env.locals) (nd : X.N.Nodup) (hi : X.N[i]? = some n)
    (hln : X.env.kindOf n = some .local) (tk : Takes X Wo) (hb : ∀ (W : WX) (pn : List (Addr × Obj)) (xe : Value → Shared → Prop), Takes (X.tr pn xe) W → PassesOwn (model X.prog X.w) X.A X.env xe → PSs (X.tr pn xe) body (tb W)) (hh : HdsA X n (h₀ :: hds) l) :
    PS X (.Try body (h₀ :: hds) [] [] pos) (fun D σ H => tb (wManyA X.K i Wo D l) D σ H) := by
  constructor
  intro pins s σ H D I h
  have okI := I.ok
  have frI : X.A.frames = some (X.env :: X.outer) := okI.frames.trans (congrArg some hs)
  have lc : Loc X.env.scope n := Or.inl hln
  apply wpAny_Try_except
  refine wpAny_mono ((hb (wManyA X.K i Wo D l) (X.pn ++ pins) (fun e t₁ => wpAny (model X.prog X.w) X.A (noteFrame e X.env) (fun _ t₂ => wpAny (model X.prog X.w) X.A (setFlight e none) (fun _ t₃ => wpAny (model X.prog X.w) X.A (handleBy e X.env (h₀ :: hds)) (SP X pins D) X.xe t₃) X.xe t₂) X.xe t₁) (fun ev t hev => ?_) PassesOwn.looking).run [] s σ H D (I.toTry _) h) (fun fl t ht => ?_) (fun ev t he => he)
  · obtain ⟨a, B, sI, pins', τ, G, cls, d, rfl, JT, nb, up, sky, na, os, ag, w⟩ := hev
    have J : Inv X pins τ G sI := JT.ofTry okI
    rw [hs] at sky
    change wpAny (model X.prog X.w) X.A (noteFrame (Value.ref a) X.env) _ _ _
    refine Sky.land Zc.steady frI hf sky fun k3 f3 u3 => ?_
    have J3 : Inv X pins τ G { t with heap := k3 } := J.landed nb f3.1 (up.trans u3) os ag
    obtain ⟨oe, vs, ge, ze, de⟩ := f3.there
    have notIn : a ∉ frs (X.env :: X.outer) := fun hm => by
      obtain ⟨_, o', e', hnf⟩ := f3.2.2.1.mem hm
      rw [ge] at e'
      cases e'
      exact hnf _ de
    have nL : a ≠ X.env.locals := fun z => notIn (List.mem_filterMap.mpr ⟨X.env, List.mem_cons_self, hf.trans (congrArg some z.symm)⟩)
    have nF : a ∉ X.fs := fun hm => by
      obtain ⟨en, hen, qn⟩ := List.mem_filterMap.mp hm
      exact notIn (List.mem_filterMap.mpr ⟨en, List.mem_cons_of_mem _ hen, qn⟩)
    have S3 := J3.suite ge de na nL nF
    have all : ∀ {hs' : List ExceptHandler} {l' : List (Value × Suite)}, HdsA X n hs' l' → wManyA X.K i Wo D l' cls d τ G → wpAny (model X.prog X.w) X.A (handleBy (.ref a) X.env hs') (SP X pins D) X.xe { t with heap := k3 } := by
      intro hs' l' hk
      induction hk with
      | nil =>
        intro w
        apply wpAny_handleBy_nil
        obtain ⟨_, _, _, o2, v2, T, oT, ts', g2, z2, d2, h1, hr⟩ := id f3
        unfold PySem.passOn
        apply wpAny_bind
        refine wpAny_field g2 d2 h1 ?_
        rw [if_neg (by simp : ¬ ((Value.ref T == Value.none) = true))]
        have out : wpAny (model X.prog X.w) X.A (setFlight (.ref a) X.env.frame) (fun _ t4 => wpAny (model X.prog X.w) X.A (throw (.ref a) : Sem Flow) (SP X pins D) X.xe t4) X.xe { t with heap := k3 } := by
          rw [hf]
          refine HandSPX.setFlight_upZ f3 fun k4 hh4 u4 => wpAny_throw (tk _ _ ⟨a, B, sI, pins, τ, G, cls, d, rfl, J, nb, (up.trans u3).trans u4, Or.inr (Or.inr ?_), na, os, ag, w⟩)
          rw [hs]
          exact hh4
        first
          | exact wpAny_bind (wpAny_pure (wpAny_bind out))
          | exact wpAny_bind out
      | @cons x c ts st sts np ep hs2 l2 hc su r ih =>
        rintro ⟨b, hx, yes, no⟩
        refine wpAny_handleBy_cons (codeAny_handlers_test ?_) (by intro q; cases q)
        have looks : PySem.W.Looks (model X.prog X.w) k3 (typeOf (.ref a)) cls := fun A' Q' E' s' k' q' => wpAny_typeOf_ref (k' _ _ ge) (by rw [ze.1]; exact q')
        have LM := PySem.W.exm_one (M := model X.prog X.w) J3.kIn looks hx
        have named : ∀ {Q E : Value → Shared → Prop}, Q c { t with heap := k3 } → wpAny (model X.prog X.w) (X.A.mark (some (.ref a))) (eval (.Name x np) X.env) Q E { t with heap := k3 } := fun {Q E} q => by
          rcases hc with ⟨g1, g2, g3 | ⟨g3, g4, g5⟩⟩
          · exact ld_glob (X := X.suite a ((a, oe) :: (X.pn ++ pins))) S3 g1 g3 q g2
          · exact ld_blt (X := X.suite a ((a, oe) :: (X.pn ++ pins))) S3 g1 g3 g4 q g5 g2
        refine named (LM.here ?_)
        cases b with
        | false => exact ih (no rfl)
        | true =>
          apply codeAny_handlers_suite_as
          refine HandSPX.lands_againZ f3 fun k4 f4 u4 => ?_
          have J4 : Inv X pins τ G { t with heap := k4 } := J.landed nb f4.1 ((up.trans u3).trans u4) os ag
          obtain ⟨o4, v4, g4, z4, d4⟩ := f4.there
          have S4 := J4.suite g4 d4 na nL nF
          refine store_ok (X := X.suite a ((a, o4) :: (X.pn ++ pins))) (v := .ref a) S4 nd hi lc rfl (fun s5 S5 => ?_) (Or.inr hln)
          refine wpAny_mono ((su a o4 cls d (X.pn ++ pins) z4 ⟨_, d4⟩).run [] s5 _ G _ S5 (yes rfl a na)) (fun fl s6 ho => ?_) (fun _ _ z => z.elim)
          have gone : ∀ {τ6 : L2.St} {G6 : Hp} {Q : Shared → Prop}, Inv (X.suite a ((a, o4) :: (X.pn ++ pins))) [] τ6 G6 s6 → (∀ s7, Inv X pins (τ6.set i none) G6 s7 → Q s7) → wpAny (model X.prog X.w) X.A (do bindName X.env n .none; unbindBehindTheSuite X.env n ep) (fun _ s7 => Q s7) X.xe s6 := fun {τ6 G6 Q} S6 k => gone_ok (S6.unsuite okI) nd hi hln k
          cases fl with
          | ret u =>
            obtain ⟨v6, τ6, G6, S6, r6, q6⟩ := ho
            exact gone S6 fun s7 J7 => ⟨v6, _, G6, J7, r6, q6⟩
          | next =>
            obtain ⟨τ6, G6, S6, q6⟩ := ho
            exact gone S6 fun s7 J7 => ⟨_, G6, J7, q6⟩
          | brk =>
            obtain ⟨τ6, G6, S6, q6⟩ := ho
            exact gone S6 fun s7 J7 => ⟨_, G6, J7, q6⟩
          | cont =>
            obtain ⟨τ6, G6, S6, q6⟩ := ho
            exact gone S6 fun s7 J7 => ⟨_, G6, J7, q6⟩
    exact all hh w
  · cases fl with
    | ret u =>
      obtain ⟨v, τ, G, J, r, q⟩ := ht
      exact ⟨v, τ, G, J.ofTry okI, r, q⟩
    | next =>
      obtain ⟨τ, G, J, q⟩ := ht
      exact wpAny_execs_nil ⟨τ, G, J.ofTry okI, q⟩
    | brk =>
      obtain ⟨τ, G, J, q⟩ := ht
      exact ⟨τ, G, J.ofTry okI, q⟩
    | cont =>
      obtain ⟨τ, G, J, q⟩ := ht
      exact ⟨τ, G, J.ofTry okI, q⟩
end Cg
namespace Cg
open PySem PySem.Spec PyProof.Rows L2 Evl
section
variable {K : PySem.W.Frag} {σ : L2.St} {H H' : Hp} {te : TE} {t : TT} {tu tw tz : TS} {D : Ends}
theorem b_go {Q : Bool → Hp → Prop} (h : te σ H fun x H1 => ∃ c, x = .bl c ∧ Q c H1) : tB te σ H Q := h
theorem q_forR3 {ta : TA} {j : Nat} {i0 j0 c : Int} {n : Nat} (h : EvA ta σ H [.int i0, .int j0, .int c]) (hr : RgC i0 j0 c n) (Pv : Nat → L2.St → Hp → Prop) (h0 : ∀ H1, Ex H H1 → Pv 0 σ H1)
    (hs : ∀ (i : Nat) τ G, i < n → Pv i τ G → tu { D with nx := Pv (i + 1), ct := Pv (i + 1), bk := tz D } (τ.set j (some (.int (i0 + (i : Nat) * c)))) G) (hd : ∀ τ G, Pv n τ G → tz D τ G) : tSeq (tFor (iRng3 ta) (gName j) tu) tz D σ H :=
  h H (Ex.refl H) _ fun H1 e1 => ⟨i0, j0, c, n, rfl, hr, for_rangeC Pv (h0 H1 e1) hs hd⟩
theorem s_forR3 {ta : TA} {j : Nat} {i0 j0 c : Int} {n : Nat} (h : EvA ta σ H [.int i0, .int j0, .int c]) (hr : RgC i0 j0 c n) (Pv : Nat → L2.St → Hp → Prop) (h0 : ∀ H1, Ex H H1 → Pv 0 σ H1)
    (hs : ∀ (i : Nat) τ G, i < n → Pv i τ G → tu { D with nx := Pv (i + 1), ct := Pv (i + 1), bk := D.nx } (τ.set j (some (.int (i0 + (i : Nat) * c)))) G) (hd : ∀ τ G, Pv n τ G → D.nx τ G) : tFor (iRng3 ta) (gName j) tu D σ H :=
  h H (Ex.refl H) _ fun H1 e1 => ⟨i0, j0, c, n, rfl, hr, for_rangeC Pv (h0 H1 e1) hs hd⟩
end
end Cg
namespace Cg
open PySem PySem.Spec PyProof.Rows L2 Evl
/-- a text, taken once or not at all -/
def rStr01 : R2 := fun x y H Q => ∃ (z : Str) (b : Bool), x = .str z ∧ y = .int (if b then 1 else 0) ∧ Q (.str (if b then z else Str.empty)) H
theorem op_str01 {X : Cx} : OpR X (binaryOp .Mult) rStr01 := by
  intro pins s σ H x y v u Q I rx ry h
  obtain ⟨z, b, rfl, rfl, q⟩ := h
  obtain ⟨t, rfl⟩ := rx
  obtain ⟨t', rfl⟩ := ry
  cases b with
  | false => exact PySem.P.mul_str_none (by decide) (by decide) ⟨.str Str.empty, H, I.tok _, ⟨_, rfl⟩, q⟩
  | true =>
    refine PySem.P.mul_str (n := 1) (by decide) (fun _ h2 => by simp at h2) (fun _ h2 => by simp at h2) ?_
    rw [if_neg (by decide), if_pos (by simp)]
    exact ⟨.str z, H, I, ⟨_, rfl⟩, q⟩
section
variable {K : PySem.W.Frag} {σ : L2.St} {H H' : Hp} {ta tb te : TE} {x y v : V} {z z2 : Str} {b : Bool}
theorem ev_str01 (ha : Ev ta σ H (.str z)) (hb : Ev tb σ H (.int (if b then 1 else 0))) : Ev (tOp rStr01 ta tb) σ H (.str (if b then z else Str.empty)) := fun H1 e Q q =>
  ha H1 e _ fun H2 e2 => hb H2 (e.trans e2) _ fun H3 e3 => ⟨z, b, rfl, rfl, q H3 (e2.trans e3)⟩
theorem ev_addS (ha : Ev ta σ H (.str z)) (hb : Ev tb σ H (.str z2)) (hl : z.length + z2.length ≤ 100000) : Ev (tOp (fun x y H Q => ∃ i j, x = .str i ∧ y = .str j ∧ i.length + j.length ≤ sizeLine ∧ Q (.str (i ++ j)) H) ta tb) σ H (.str (z ++ z2)) := fun H1 e Q q =>
  ha H1 e _ fun H2 e2 => hb H2 (e.trans e2) _ fun H3 e3 => ⟨z, z2, rfl, rfl, sz_of hl, q H3 (e2.trans e3)⟩
theorem ev_isN (ha : Ev ta σ H x) : Ev (tOp (fun x y H Q => y = .non ∧ Q (.bl (decide (x = .non))) H) ta (tC .non)) σ H (.bl (decide (x = .non))) := fun H1 e Q q =>
  ha H1 e _ fun H2 e2 => ⟨rfl, q H2 e2⟩
end
end Cg
namespace Cg
open PySem PySem.Spec PyProof.Rows L2 Evl
section
variable {K : PySem.W.Frag} {σ : L2.St} {H H' : Hp} {ta tb te : TE} {xs : List V}
/-- a new list among arguments -/
theorem eap_el {tr : TA} {P : List V → Hp → Prop} (h : EvL te σ H xs) (hr : EvAP tr σ H P) : EvAP (tCons te tr) σ H (fun vs H' => ∃ p r, vs = .ref p :: r ∧ H p = none ∧ H' p = some (.lst xs) ∧ P r H') := fun H1 e Q q =>
  h H1 e _ fun p H2 n2 e2 h2 => hr H2 (e.trans e2) _ fun vs H3 e3 h3 => q _ H3 (e2.trans e3) ⟨p, vs, rfl, fresh_back e n2, e3 _ _ h2, h3⟩
theorem andV_go {Q : VK} (h : ta σ H fun x H1 => ∃ c, x = .bl c ∧ if c = true then tb σ H1 Q else Q (.bl false) H1) : tAndV ta tb σ H Q := h
theorem et_go {t : TT} {b : Bool} {Q : Bool → Hp → Prop} (h : EvT t σ H b) (k : ∀ H2, Ex H H2 → Q b H2) : t σ H Q := h H (Ex.refl H) Q k
end
theorem size_in (c k : Int) (rm : Nat) (hk : 0 ≤ k) : 0 ≤ c % ((if k < (rm : Int) then k else (rm : Int)) + 1) ∧ c % ((if k < (rm : Int) then k else (rm : Int)) + 1) ≤ (rm : Int) := by
  have h1 := Int.emod_nonneg c (show (if k < (rm : Int) then k else (rm : Int)) + 1 ≠ 0 by split <;> omega)
  have h2 := Int.emod_lt_of_pos c (show 0 < (if k < (rm : Int) then k else (rm : Int)) + 1 by split <;> omega)
  split at h2 <;> rename_i z <;> simp only [z, if_true, if_false] at h1 ⊢ <;> omega
end Cg
namespace Cg
open PySem PySem.Spec PyProof.Rows L2 Evl
theorem sq_but {K : PySem.W.Frag} {H H1 X : Hp} {l a : Addr} {xs : List V} (h : SqL K H a xs) (n : H l = none) (e : Ex H H1) (k : Kp l H1 X) : SqL K X a xs := by
  rcases h with (h | ⟨o, h⟩) | h
  · exact .inl (.inl (k _ _ (ne_of_none h n) (e _ _ h)))
  · exact .inl (.inr ⟨o, k _ _ (ne_of_none h n) (e _ _ h)⟩)
  · exact .inr h
end Cg

set_option Elab.async false
set_option linter.all false
set_option maxRecDepth 100000
set_option maxHeartbeats 4000000
/-! ## Pre 4: a dict made by a comprehension, its keys tuples -/
namespace Cg
open PySem PySem.Spec PyProof.Rows L2 Evl
theorem set_tup {X : Cx} {pins : List (Addr × Obj)} {σ : L2.St} {H : Hp} {s : Shared} {E : Value → Shared → Prop} {D b : Addr} {kvs : List (List L2.Key × V)} {k : List L2.Key} {v : V} {u r : Value} {Q : Unit → Shared → Prop} (hu : X.A.units + 1 < cLine) (I : Inv X pins σ H s)
    (hD : H D = some (.dT kvs)) (hz : kvs.length < sizeLine) (hb : H b = some (.tup (k.map kV))) (ru : RelV (.ref b) u) (rv : RelV v r) (h : ∀ s', Inv X pins σ (upd H D (.dT (putK kvs k v))) s' → Q () s') : wpAny (model X.prog X.w) X.A (dictSet D u r) Q E s := by
  cases (show u = Value.ref b from ru)
  obtain ⟨l1, nd, xs, rel, at_⟩ := dt_of I.hok hD
  have l2 : xs.length ≤ sizeLine := (Paired.length rel) ▸ l1
  have l3 := length_putK kvs k v
  refine wpAny_dictSet_heap (hsz := l2) (show X.A.units < cLine by omega) (key_of I.hok hb) at_ fun g at' same => h _ ?_
  obtain ⟨ob, es, ep, a1, a2, a3, a4, _, a5⟩ := at'
  refine d_write I (by rw [hD]; trivial) same ⟨ob, a1⟩ ⟨by omega, nd, _, (rel.put k hb rv).keeps fun c ys ec => ?_, ob, es, ep, a1, a2, a3, a4, a5⟩
  rw [upd_ne (ne_of ec hD (by intro z; cases z)), ec]
/-- {k: v for target in iter if ..}, keys tuples -/
def tDcT (wi : TI) (g : TG) (tt : TT) (tk tv : TE) (vs : List Nat) : TE := fun σ H Q => wi σ H fun J H1 => ∀ D, H1 D = none → ∃ W : Nat → Nat → Hp → Prop, (∃ m, W 0 m (upd H1 D (.dT []))) ∧ ∀ i m G, W i m G →
  (J.stop i G ∧ Q (.ref D) G) ∨ (J.go i G ∧ ∃ Nx : Hp → Prop, (∀ G', Nx G' → ∃ m', m' < m ∧ W (i + 1) m' G') ∧ ∀ x G', J.yld i G x G' → g x (wipe σ vs) G' fun σ2 G2 => wipe σ2 vs = wipe σ vs ∧ tt σ2 G2 fun b G3 =>
    if b = true then tk σ2 G3 fun y G4 => tv σ2 G4 fun z G5 => ∃ kvs k p, y = .ref p ∧ G5 p = some (.tup (k.map kV)) ∧ G5 D = some (.dT kvs) ∧ kvs.length < sizeLine ∧ Nx (upd G5 D (.dT (putK kvs k z))) else Nx G3)
section
variable {X : Cx}
theorem dcT_core {pins : List (Addr × Obj)} {s : Shared} {σ : L2.St} {H : Hp} {Q : VK} {kx vx tg iter : Expr} {ifs : List Expr} {scope : Scope} {own : List (Str × Nat)} {pos pos' : Pos} {wi : TI} {g : TG} {tt : TT} {tk tv : TE} {use : Option (Value → Sem Unit)} {Qf : Value → Shared → Prop}
    (hu : X.A.units + 1 < cLine) (hc : X.calm = true) (hN : X.N.Nodup) (I : Inv X pins σ H s) (hi : PI X tg iter wi) (ok : BlkOk X.N X.env.scope scope own) (hg : ∀ (s : Shared) (H : Hp) (C : Addr) (cl : List (Str × Addr)) (fp : List Addr), PG (X.blk s H scope (compEnvC scope cl C X.env) fp) tg g)
    (ht : ∀ (s : Shared) (H : Hp) (C : Addr) (cl : List (Str × Addr)) (fp : List Addr), PTs (X.blk s H scope (compEnvC scope cl C X.env) fp) ifs tt) (hk : ∀ (s : Shared) (H : Hp) (C : Addr) (cl : List (Str × Addr)) (fp : List Addr), PE (X.blk s H scope (compEnvC scope cl C X.env) fp) kx tk)
    (he : ∀ (s : Shared) (H : Hp) (C : Addr) (cl : List (Str × Addr)) (fp : List Addr), PE (X.blk s H scope (compEnvC scope cl C X.env) fp) vx tv) (hs : ∀ x, foldedSetIterable iter X.env x = pure x) (h : tDcT wi g tt tk tv (own.map (·.2)) σ H Q)
    (hRR : ∀ D C t m G, Inv X pins σ G t → Q (.ref D) G → t.heap.Ns C m → FpOk X pins G C → compPost (model X.prog X.w) X.A X.xe use Qf (.ref D) C (.ok .next) t) :
    wpAny (model X.prog X.w) X.A (comprehension (.DictComp kx vx [⟨tg, iter, ifs, 0⟩] scope pos) scope X.env pos' newDict false (eval iter X.env) use) Qf X.xe s := by
  have free : ∀ y ∈ scope.names, y.2 = .free → ∃ c, X.env.cells.lookup y.1 = some c := fun y hy e => by
    rcases ok.free y hy e with z | z
    · exact I.ok.has _ (Or.inl z)
    · exact I.ok.has _ (Or.inr z)
  refine wpAny_comprehension_free (use := use) rfl hs (closure_ok free) ok.kind (fun y hy e => by rw [ok.uniq y hy, e]) (thn (hi.run pins s σ H _ I h) fun xv t1 h1 => thn h1 fun itv t2 h2 => ?_)
  obtain ⟨it, fp, tn, J, G2, rfl, J2, T, st2, f2, q⟩ := h2
  refine wpAny_newObj_type (newEnv_comp ?_)
  generalize hD : t2.heap.objs.size = D
  have nD : G2 D = none := J2.hok.fresh (by rw [hD]; exact Nat.le_refl _)
  obtain ⟨W, ⟨m0, w0⟩, turn⟩ := q D nD
  generalize ht3 : ({ t2 with heap := t2.heap.push { cls := .type "dict", data := .dict #[] } } : Shared) = t3
  have J3 : Inv X pins σ (upd G2 D (.dT [])) t3 := by
    subst ht3
    subst hD
    exact J2.laid (t' := t2.toks) (fun _ _ e => Heap.get?_push_of_some _ e) (Nat.le_refl _) (dt_empty t2.heap J2.big)
  have hp3 : t3.heap = t2.heap.push { cls := .type "dict", data := .dict #[] } := by subst ht3; rfl
  have f3 : ∀ b ∈ fp, FpOk X pins (upd G2 D (.dT [])) b ∧ b < t3.heap.objs.size := fun b hb => by
    obtain ⟨o, e, _⟩ := T.obj _ _ st2 b hb
    have lt := Heap.lt_size e
    have nb : b ≠ D := by rw [← hD]; exact Nat.ne_of_lt lt
    refine ⟨⟨by rw [upd_ne nb]; exact (f2 b hb).1, (f2 b hb).2⟩, ?_⟩
    rw [hp3, Heap.size_push]
    exact Nat.lt_succ_of_lt lt
  have st3 : tn 0 t3.heap := T.keep _ _ _ st2 fun b _ o e => by
    rw [hp3]
    exact Heap.get?_push_of_some _ e
  have J4 := block_start J3 ok hN f3
  have pg := hg t3 (upd G2 D (.dT [])) t3.heap.objs.size (cellsFrom (t3.heap.objs.size + 1) scope.names (cloFrom X.env.cells scope.names [])) fp
  have pt := ht t3 (upd G2 D (.dT [])) t3.heap.objs.size (cellsFrom (t3.heap.objs.size + 1) scope.names (cloFrom X.env.cells scope.names [])) fp
  have pk := hk t3 (upd G2 D (.dT [])) t3.heap.objs.size (cellsFrom (t3.heap.objs.size + 1) scope.names (cloFrom X.env.cells scope.names [])) fp
  have pe := he t3 (upd G2 D (.dT [])) t3.heap.objs.size (cellsFrom (t3.heap.objs.size + 1) scope.names (cloFrom X.env.cells scope.names [])) fp
  change codeAny _ _ (.compStart (.DictComp kx vx [⟨tg, iter, ifs, 0⟩] scope pos) 0 (.ref it) (.ref D) (compEnvC scope (cellsFrom (t3.heap.objs.size + 1) scope.names (cloFrom X.env.cells scope.names [])) t3.heap.objs.size X.env)) (compPost (model X.prog X.w) X.A X.xe use Qf (.ref D) t3.heap.objs.size) { t3 with heap := pushCells (t3.heap.push { cls := .type "dict", data := .dict #[] }) scope.names }
  have nfp : ∀ b ∈ fp, (upd G2 D (.dT [])) b = none := fun b hb => (f3 b hb).1.1
  generalize hce : compEnvC scope (cellsFrom (t3.heap.objs.size + 1) scope.names (cloFrom X.env.cells scope.names [])) t3.heap.objs.size X.env = ce at J4 pg pt pk pe ⊢
  have cL : ce.locals = t3.heap.objs.size := by rw [← hce]; rfl
  generalize hG3 : upd G2 D (.dT []) = G3 at J3 J4 pg pt pk pe w0 nfp f3
  generalize ht4 : ({ t3 with heap := pushCells (t3.heap.push { cls := .type "dict", data := .dict #[] }) scope.names } : Shared) = t4 at J4 ⊢
  have st4 : tn 0 t4.heap := T.keep _ _ _ st3 fun b _ o e => by
    rw [← ht4]
    exact pushCells_keeps _ _ _ _ (Heap.get?_push_of_some _ e)
  have stat : ∀ {τ : L2.St} {G : Hp} {t : Shared}, Inv (X.blk t3 G3 scope ce fp) [] τ G t → (∀ b ∈ fp, G b = none) → ∀ b ∈ fp, FpOk (X.blk t3 G3 scope ce fp) [] G b := fun {τ G t} K hn b hb =>
    ⟨hn b hb, (K.ok.exf b hb).1, K.ok.exfs b hb, Or.inl hb, fun x c e => (K.ok.exf b hb).2 x c e, fun p hp => absurd (show p ∈ ([] : List (Addr × Obj)) ++ [] from hp) (by simp)⟩
  have loop : codeAny (model X.prog X.w) X.A (.compLoop (.DictComp kx vx [⟨tg, iter, ifs, 0⟩] scope pos) 0 (.ref it) (.ref D) ce) (compPost (model X.prog X.w) X.A X.xe use Qf (.ref D) t3.heap.objs.size) t4 := by
    refine compLoop_anyD (fun n t => ∃ i G, Inv (X.blk t3 G3 scope ce fp) [] (wipe σ (own.map (·.2))) G t ∧ tn i t.heap ∧ (∀ b ∈ fp, G b = none) ∧ W i n G) ?_ m0 ⟨0, G3, J4, st4, nfp, w0⟩
    intro n t5 ⟨i, G5, J5, st5, n5, w5⟩
    rcases turn i n G5 w5 with ⟨stop, qq⟩ | ⟨go, Nx, hNx, step⟩
    · refine thnF (T.done (X.blk t3 G3 scope ce fp) rfl rfl rfl hc i [] t5 _ G5 (fun _ _ => False) J5 (stat J5 n5) st5 stop) fun r t6 hr => ?_
      obtain ⟨rfl, J6⟩ := hr
      have J7 : Inv X pins σ G5 t6 := J3.call' (ch := fp) J6.os J6.base J6.hok J6.bare fun b hb => ⟨(f3 b hb).1.2.2.2.1, (f3 b hb).1.2.1, (f3 b hb).1.2.2.2.2.1, (f3 b hb).1.2.2.2.2.2⟩
      have nC : G5 t3.heap.objs.size = none := by
        rw [← cL]
        exact J6.free
      obtain ⟨m, hn, _⟩ := J6.loc
      have hn : t6.heap.Ns ce.locals m := hn
      rw [cL] at hn
      exact hRR D t3.heap.objs.size t6 m G5 J7 qq hn (J3.fpOk (Nat.le_refl _) nC)
    · refine thnF (T.item (X.blk t3 G3 scope ce fp) rfl rfl rfl hc i [] t5 _ G5 (fun _ _ => False) J5 (stat J5 n5) st5 go) fun r t6 hr => ?_
      obtain ⟨u, rfl, h6⟩ := hr
      refine thnF h6 fun _ t7 h7 => ?_
      obtain ⟨x, G7, J7, r7, y7, st7, n7⟩ := h7
      have K7 := J7.pinned (stat J7 n7) (T.obj _ _ st7)
      refine thnF (pg.run _ t7 _ G7 x u _ K7 r7 (step x G7 y7)) fun _ t8 h8 => ?_
      obtain ⟨σ8, G8, J8, hw8, q8⟩ := h8
      refine thnF (pt.run _ t8 σ8 G8 _ J8 q8) fun b t9 h9 => ?_
      obtain ⟨G9, J9, q9⟩ := h9
      have fin : ∀ {t : Shared} {G : Hp}, Inv (X.blk t3 G3 scope ce fp) ([] ++ pinsAt fp t7.heap) σ8 G t → Nx G → ∃ m, m < n ∧ ∃ i G, Inv (X.blk t3 G3 scope ce fp) [] (wipe σ (own.map (·.2))) G t ∧ tn i t.heap ∧ (∀ b ∈ fp, G b = none) ∧ W i m G := fun {t G} K nx => by
        obtain ⟨m', hm, w'⟩ := hNx G nx
        have pin : ∀ b ∈ fp, ∀ o, t7.heap.get? b = some o → t.heap.get? b = some o ∧ G b = none := fun b hb o e => by
          have z := K.pin (b, o) (List.mem_append_right _ (List.mem_append_right _ (mem_pinsAt hb e)))
          exact ⟨z.1, z.2.1⟩
        have hl : (wipe σ (own.map (·.2))).length = σ8.length := by rw [← hw8, wipe_length]
        refine ⟨m', hm, i + 1, G, (K.unpinned (pins := [])).weak hl (fun j v e => ?_), T.keep _ _ _ st7 fun b hb o e => (pin b hb o e).1, fun b hb => ?_, w'⟩
        · rw [← hw8] at e
          exact (wipe_some e).1
        · obtain ⟨o, e, _⟩ := T.obj _ _ st7 b hb
          exact (pin b hb o e).2
      cases b with
      | false =>
        rw [if_neg Bool.false_ne_true] at q9 ⊢
        exact fin J9 q9
      | true =>
        rw [if_pos rfl] at q9 ⊢
        refine thnF (pk.run _ t9 σ8 G9 _ J9 q9) fun zk t10 h10 => ?_
        obtain ⟨yk, G10, J10, r10, q10⟩ := h10
        refine thnF (pe.run _ t10 σ8 G10 _ J10 q10) fun zv t11 h11 => ?_
        obtain ⟨yv, G11, J11, r11, kvs, k, p, rfl, hp11, hD11, hz11, nx⟩ := h11
        exact set_tup (X := X.blk t3 G3 scope ce fp) hu J11 hD11 hz11 hp11 r10 r11 fun t12 J12 => fin J12 nx
  exact codeAny_compStart_dict loop (T.self X.A 0 _ _ _ st4 loop)
theorem pe_dcT {kx vx tg iter : Expr} {ifs : List Expr} {scope : Scope} {own : List (Str × Nat)} {pos : Pos} {wi : TI} {g : TG} {tt : TT} {tk tv : TE} (hu : X.A.units + 1 < cLine) (hc : X.calm = true) (hN : X.N.Nodup) (hi : PI X tg iter wi) (ok : BlkOk X.N X.env.scope scope own)
    (hg : ∀ (s : Shared) (H : Hp) (C : Addr) (cl : List (Str × Addr)) (fp : List Addr), PG (X.blk s H scope (compEnvC scope cl C X.env) fp) tg g) (ht : ∀ (s : Shared) (H : Hp) (C : Addr) (cl : List (Str × Addr)) (fp : List Addr), PTs (X.blk s H scope (compEnvC scope cl C X.env) fp) ifs tt)
    (hk : ∀ (s : Shared) (H : Hp) (C : Addr) (cl : List (Str × Addr)) (fp : List Addr), PE (X.blk s H scope (compEnvC scope cl C X.env) fp) kx tk) (he : ∀ (s : Shared) (H : Hp) (C : Addr) (cl : List (Str × Addr)) (fp : List Addr), PE (X.blk s H scope (compEnvC scope cl C X.env) fp) vx tv)
    (hs : ∀ x, foldedSetIterable iter X.env x = pure x := by intro _; rfl) : PE X (.DictComp kx vx [⟨tg, iter, ifs, 0⟩] scope pos) (tDcT wi g tt tk tv (own.map (·.2))) := by
  constructor
  intro pins s σ H Q I h
  rw [arm_eval_DictComp]
  refine dcT_core hu hc hN I hi ok hg ht hk he hs h fun D C t m G J q hn f => ⟨m, hn, fun k sb => ?_⟩
  obtain ⟨f0, f1, f2, f3, f4, f5⟩ := f
  exact ⟨.ref D, G, J.turned (t' := t.toks) (fun b o hb e => (sb.2 b hb).trans e) f0 f1 f3 f4 f5, rfl, q⟩
end
end Cg
namespace Cg
open PySem PySem.Spec PyProof.Rows L2 Evl
section
variable {X : Cx} {k : Nat} {ps : List Str} {sp : Sp} {E : XK} {x : Str} {p pos : Pos}
theorem pe_callH0 (F : Has X.prog X.w X.K X.mg X.base k x ps sp) (hr : Room k X.A) (hx : Passes (L2.CX X.prog X.w) X E) (hg : Gl X x := by rfl) (hdb : (x == ("__debug__" : Str)) = false := by decide) : PE X (.Call (.Name x p) [] [] pos) (tCall sp [] E tNil) := by
  obtain ⟨f, fd, F, g, kp, b⟩ := F
  exact pe_call0 F hr hg g kp b .nil hx hdb
end
theorem pe_globS {X : Cx} {x z : Str} {pos : Pos} (h : ∃ t, X.mg x = some (.str z t)) (hg : Gl X x := by rfl) (hd : (x == ("__debug__" : Str)) = false := by decide) : PE X (.Name x pos) (tC (.str z)) := by
  obtain ⟨t, h⟩ := h
  exact pe_glob hg h ⟨t, rfl⟩ hd
def rTup1 (K : PySem.W.Frag) : List V → Hp → VK → Prop := fun xs H Q => ∃ p ys, xs = [.ref p] ∧ ((SqL K H p ys ∧ ∀ l, H l = none → Q (.ref l) (upd H l (.tup ys))) ∨ (SqT K H p ys ∧ Q (.ref p) H))
theorem kk_tup (K) {X : Cx} (h : X.K = K := by rfl) : CallR X (.type "tuple") (rTup1 K) := h ▸ call_tuple_of
/-- a text of the signs with these numbers -/
def strOf (cs : List Nat) : Str := ⟨cs.toArray⟩
theorem strOf_len (cs : List Nat) : (strOf cs).length = cs.length := List.size_toArray
theorem strOf_add (xs ys : List Nat) : strOf xs ++ strOf ys = strOf (xs ++ ys) := congrArg Str.mk (by
  show xs.toArray ++ ys.toArray = (xs ++ ys).toArray
  simp)
theorem strOf_at (cs : List Nat) (i : Nat) : (strOf cs).cps[i]? = cs[i]? := by
  show (cs.toArray)[i]? = _
  simp
theorem cut_to (cs : List Nat) (k : Nat) (h : k ≤ cs.length) : cutS (strOf cs) none (some (k : Int)) = strOf (cs.take k) := by
  unfold cutS
  rw [HT.sIx_none, HT.sIx_nat, strOf_len, Nat.min_eq_left h, List.drop_zero, Nat.sub_zero]
  rfl
theorem cut_from (cs : List Nat) (k : Nat) (h : k ≤ cs.length) : cutS (strOf cs) (some (k : Int)) none = strOf (cs.drop k) := by
  unfold cutS
  rw [HT.sIx_none, HT.sIx_nat, strOf_len, Nat.min_eq_left h, List.take_of_length_le (by
    show ((cs.toArray.toList).drop k).length ≤ _
    rw [List.length_drop]
    exact Nat.le_refl _)]
  rfl
section
variable {K : PySem.W.Frag} {σ : L2.St} {H H' : Hp} {ta tb te tx : TE} {x y v : V} {xs ys : List V} {tu tz : TS} {D : Ends} {z z2 : Str}
/-- for c in text -/
theorem s_forS {j : Nat} (h : Ev te σ H (.str z)) (Pv : Nat → L2.St → Hp → Prop) (h0 : ∀ H1, Ex H H1 → Pv 0 σ H1)
    (hs : ∀ (i c : Nat) τ G, z.cps[i]? = some c → Pv i τ G → tu { D with nx := Pv (i + 1), ct := Pv (i + 1), bk := D.nx } (τ.set j (some (.str ⟨#[c]⟩))) G) (hd : ∀ τ G, Pv z.cps.size τ G → D.nx τ G) : tFor (iStr te) (gName j) tu D σ H :=
  h H (Ex.refl H) _ fun H1 e1 => ⟨z, rfl, by
    refine ⟨fun i m τ G => i + m = z.cps.size ∧ Pv i τ G, ⟨z.cps.size, Nat.zero_add _, h0 H1 e1⟩, ?_⟩
    rintro i m τ G ⟨em, p⟩
    by_cases hi : i < z.cps.size
    · refine .inr ⟨hi, Pv (i + 1), fun τ2 G2 hN => ⟨m - 1, by omega, by omega, hN⟩, fun x G2 hy => ?_⟩
      obtain ⟨rfl, c, hc, rfl⟩ := hy
      exact hs i c τ _ hc p
    · have e : i = z.cps.size := by omega
      subst e
      exact .inl ⟨Nat.le_refl _, hd τ G p⟩⟩
theorem q_forS {j : Nat} (h : Ev te σ H (.str z)) (Pv : Nat → L2.St → Hp → Prop) (h0 : ∀ H1, Ex H H1 → Pv 0 σ H1)
    (hs : ∀ (i c : Nat) τ G, z.cps[i]? = some c → Pv i τ G → tu { D with nx := Pv (i + 1), ct := Pv (i + 1), bk := tz D } (τ.set j (some (.str ⟨#[c]⟩))) G) (hd : ∀ τ G, Pv z.cps.size τ G → tz D τ G) : tSeq (tFor (iStr te) (gName j) tu) tz D σ H :=
  s_forS (D := { D with nx := tz D }) h Pv h0 hs hd
/-- [e for k in range(a, b, c)] -/
theorem el_lcR3 {t : TA} {j : Nat} {vs : List Nat} {i0 j0 c : Int} {n : Nat} (g : Nat → V) (h : EvA t σ H [.int i0, .int j0, .int c]) (hr : RgC i0 j0 c n) (hz : n ≤ 1000000) (hw : ∀ x, wipe ((wipe σ vs).set j (some x)) vs = wipe σ vs)
    (he : ∀ (i : Nat) H1, Ex H H1 → i < n → Ev te ((wipe σ vs).set j (some (.int (i0 + (i : Nat) * c)))) H1 (g i)) : EvL (tLc (iRng3 t) (gName j) tYes te vs) σ H ((List.range n).map g) := fun H0 e Q q =>
  h H0 e _ fun H1 e1 => ⟨i0, j0, c, n, rfl, hr, fun Dl hD => by
    refine ⟨fun i m G => i + m = n ∧ Ex H1 G ∧ G Dl = some (.lst (((List.range n).map g).take i)), ⟨n, Nat.zero_add _, Ex.new hD, by rw [List.take_zero]; exact upd_same⟩, ?_⟩
    rintro i m G ⟨em, p1, p2⟩
    by_cases hi : i < n
    · refine .inr ⟨hi, fun G2 => Ex H1 G2 ∧ G2 Dl = some (.lst (((List.range n).map g).take (i + 1))), fun G2 hN => ⟨m - 1, by omega, by omega, hN.1, hN.2⟩, fun x G2 hy => ?_⟩
      obtain ⟨rfl, rfl⟩ := hy
      refine ⟨hw _, yes_go (he i H1 (e.trans e1) hi _ p1 _ fun G4 e4 => ⟨_, e4 Dl _ p2, ?_, Ex.mut (p1.trans e4) hD, ?_⟩)⟩
      · rw [List.length_take, List.length_map, List.length_range]
        show _ < 2 ^ 24
        omega
      · have z : ((List.range n).map g)[i]? = some (g i) := by rw [List.getElem?_map, List.getElem?_range hi]; rfl
        rw [List.take_add_one, z]
        exact upd_same
    · have e2 : i = n := by omega
      subst e2
      refine .inl ⟨Nat.le_refl _, ?_⟩
      rw [List.take_of_length_le (by rw [List.length_map, List.length_range]; exact Nat.le_refl _)] at p2
      exact q Dl G (fresh_back e1 hD) (e1.trans p1) p2⟩
/-- xs.extend(new list), xs of one's own -/
theorem s_extI {B : Hp} {l : Addr} {ws zs : List Int} (hb : B l = none) (eb : Ex B H) (hl : H l = some (.lst (iv ws))) (ha : Ev ta σ H (.ref l)) (h : EvL te σ H (iv zs)) (hz : ws.length + zs.length < 100000)
    (k : ∀ H1, Ex B H1 → H1 l = some (.lst (iv (ws ++ zs))) → D.nx σ H1) : tDrop (tBM K "list" rExtend ta (tCons te tNil)) D σ H :=
  ha H (Ex.refl H) _ fun H1 e1 => ⟨Or.inl ⟨rfl, iv ws, sq_of (e1 l _ hl)⟩, h H1 e1 _ fun p H2 n2 e2 h2 => ⟨l, p, iv ws, iv zs, rfl, rfl, e2 l _ (e1 l _ hl), h2, sz_of (by rw [iv_len, iv_len]; omega), k _ (Ex.mut (eb.trans (e1.trans e2)) hb) (by
    rw [upd_same]
    unfold iv
    rw [List.map_append])⟩⟩
theorem ev_ord {c : Nat} (h : Ev te σ H (.str ⟨#[c]⟩)) : Ev (tCB (fun xs H Q => ∃ x : Str, xs = [.str x] ∧ x.length = 1 ∧ Q (.int (x.cps.getD 0 0 : Nat)) H) (tCons te tNil)) σ H (.int (c : Nat)) := fun H1 e Q q =>
  h H1 e _ fun H2 e2 => ⟨_, rfl, rfl, q H2 e2⟩
theorem ev_niS {c : Nat} (ha : Ev ta σ H (.str ⟨#[c]⟩)) (hb : Ev tb σ H (.str z)) : Ev (tOp (fun x y H Q => ∃ (c : Nat) (z : Str), x = .str ⟨#[c]⟩ ∧ y = .str z ∧ Q (.bl (!decide (c ∈ z.cps.toList))) H) ta tb) σ H (.bl (!decide (c ∈ z.cps.toList))) := fun H1 e Q q =>
  ha H1 e _ fun H2 e2 => hb H2 (e.trans e2) _ fun H3 e3 => ⟨c, z, rfl, rfl, q H3 (e2.trans e3)⟩
theorem ev_slS {tl th : TO} {lo hi : Option Int} (h : Ev te σ H (.str z)) (h1 : EvO tl σ H lo) (h2 : EvO th σ H hi) (hz : z.length ≤ 100000) : Ev (tSl rSlS te tl th) σ H (.str (cutS z lo hi)) := fun H1 e Q q =>
  h H1 e _ fun H2 e2 => h1 H2 (e.trans e2) _ fun H3 e3 => h2 H3 ((e.trans e2).trans e3) _ fun H4 e4 => ⟨z, rfl, sz_of hz, q H4 ((e2.trans e3).trans e4)⟩
theorem eu_tupL (h : EvR te σ H xs) : EvU (tCB (rTup1 K) (tCons te tNil)) σ H xs := fun H1 e Q q =>
  h H1 e _ fun p H2 e2 h2 => ⟨p, xs, rfl, Or.inl ⟨sq_of h2, fun l nl => q l _ (fresh_back e2 nl) (e2.trans (Ex.new nl)) upd_same⟩⟩
/-- an expression told by what its value is -/
def EvP (te : TE) (σ : L2.St) (H : Hp) (P : V → Hp → Prop) : Prop := ∀ H1, Ex H H1 → ∀ Q : VK, (∀ v H2, Ex H1 H2 → P v H2 → Q v H2) → te σ H1 Q
theorem eap_p {tr : TA} {P : V → Hp → Prop} {R : List V → Hp → Prop} (h : EvP te σ H P) (hm : ∀ v H1 H2, Ex H1 H2 → P v H1 → P v H2) (hr : EvAP tr σ H R) : EvAP (tCons te tr) σ H (fun vs H' => ∃ v r, vs = v :: r ∧ P v H' ∧ R r H') := fun H1 e Q q =>
  h H1 e _ fun v H2 e2 p => hr H2 (e.trans e2) _ fun vs H3 e3 r => q _ H3 (e2.trans e3) ⟨v, vs, rfl, hm _ _ _ e3 p, r⟩
/-- a written list of things, and one of them -/
theorem ep_pick {t : TA} {i : Int} {R : List V → Hp → Prop} {P : V → Hp → Prop} (h : EvAP t σ H R) (hb : Ev tb σ H (.int i)) (h0 : 0 ≤ i) (hR : ∀ vs H1, R vs H1 → vs.length ≤ 1000 ∧ i.toNat < vs.length ∧ ∀ v, vs[i.toNat]? = some v → ∀ H2, Ex H1 H2 → P v H2) : EvP (tOp (rIxL K) (tLst t) tb) σ H P := fun H1 e Q q =>
  h H1 e _ fun vs H2 e2 r => by
    obtain ⟨a, b, c⟩ := hR vs H2 r
    refine ⟨Nat.le_trans a (by decide), fun p np => hb _ ((e.trans e2).trans (Ex.new np)) _ fun H3 e3 => ⟨p, vs, i, vs[i.toNat], rfl, rfl, sq_of (e3 _ _ upd_same), ?_, q _ H3 ((e2.trans (Ex.new np)).trans e3) (c _ (List.getElem?_eq_getElem b) H3 ((Ex.new np).trans e3))⟩⟩
    have z : atI vs ((i.toNat : Nat) : Int) = some vs[i.toNat] := atI_nat (List.getElem?_eq_getElem b)
    have ez : ((i.toNat : Nat) : Int) = i := by omega
    rw [ez] at z
    exact z
end
end Cg
namespace Cg
open PySem PySem.Spec PyProof.Rows L2 Evl
theorem ep_of {te : TE} {σ : L2.St} {H : Hp} {v : V} {P : V → Hp → Prop} (h : Ev te σ H v) (p : ∀ H1, Ex H H1 → P v H1) : EvP te σ H P := fun H1 e _ q => h H1 e _ fun H2 e2 => q v H2 e2 (p H2 (e.trans e2))
end Cg

set_option Elab.async false
set_option linter.all false
set_option maxRecDepth 100000
set_option maxHeartbeats 4000000
/-! ## Pre 5: own classes asked by isinstance; what is no sign, no row -/
namespace Cg
open PySem PySem.Spec PyProof.Rows L2 Evl
structure OwnI (K : PySem.W.Frag) (C : Addr) : Prop where
  i : PySem.W.isClsIn K C = true
  t : PySem.W.typeIn K (.ref C) = some (.type "type")
  c : PySem.W.findIn K (.ref C) "__class__" = some (some (.builtin "object.__class__"))
  m : PySem.W.mroIn K C (.type "object") = some true
  n : PySem.W.specialIn K (.builtin "object.__class__") "__get__" = some (some (.builtin "getset_descriptor.__get__"))
  k : PySem.W.takesIn K (.builtin "object.__class__") = some true
  cl : Cls K C
theorem OwnI.kit {K : PySem.W.Frag} {C : Addr} (O : OwnI K C) {t : Value} {b : Bool} (h : PySem.W.subIn K t (.ref C) = some b) (ne : b = false → t ≠ .ref C) : PySem.W.kitOne K t (.ref C) = some b := by
  unfold PySem.W.kitOne
  by_cases e : t = .ref C
  · have z : (t == Value.ref C) = true := by rw [e]; simp
    rw [z, if_pos rfl]
    cases b with
    | true => rfl
    | false => exact absurd e (ne rfl)
  · have z : (t == Value.ref C) = false := by simpa using e
    rw [z, if_neg Bool.false_ne_true]
    unfold PySem.W.kitCls
    have e2 : ((PySem.W.clsIn K C).isSome && PySem.W.typeIn K (.ref C) == some (.type "type")) = true := by
      have h2 : (PySem.W.clsIn K C).isSome = true := O.i
      rw [h2, O.t] <;> rfl
    show (if ((PySem.W.clsIn K C).isSome && PySem.W.typeIn K (.ref C) == some (.type "type")) = true then PySem.W.subIn K t (.ref C) else none) = some b
    rw [if_pos e2]
    exact h
theorem OwnI.ty {K : PySem.W.Frag} {C : Addr} (O : OwnI K C) {H : Hp} {a dx : Addr} {fs : List (Str × V)} (h : H a = some (.ins C dx fs)) : TyX K H (.ref a) (.ref C) := .base (.ins h O.cl O.c O.n O.k O.m)
section
variable {K : PySem.W.Frag} {σ : L2.St} {H H' : Hp} {ta tb tc te tx : TE} {x y v : V} {xs ys : List V}
theorem ev_isiO {C : Addr} {tv : Value} {b : Bool} (ha : Ev ta σ H x) (tm : ∀ H1, Ex H H1 → TyX K H1 x tv) (hb : PySem.W.kitOne K tv (.ref C) = some b) : Ev (tCB (rIsi K) (tCons ta (tCons (tC (.ref C)) tNil))) σ H (.bl b) := fun H1 e Q q =>
  ha H1 e _ fun H2 e2 => ⟨x, .ref C, tv, .ref C, b, rfl, .own C, tm H2 (e.trans e2), hb, q H2 e2⟩
/-- no sign: another number, a truth, or no number -/
def NotSign (K : PySem.W.Frag) (H : Hp) (x : V) : Prop := (∃ i : Int, x = .int i ∧ i ≠ 0 ∧ i ≠ 1) ∨ (∃ b, x = .bl b) ∨ ∃ t : String, kitB t "int" = some false ∧ ∀ H1, Ex H H1 → TyX K H1 x (.type t)
theorem NotSign.mono (h : NotSign K H x) (e : Ex H H') : NotSign K H' x := by
  rcases h with h | h | ⟨t, k, ty⟩
  · exact .inl h
  · exact .inr (.inl h)
  · exact .inr (.inr ⟨t, k, fun H1 e1 => ty H1 (e.trans e1)⟩)
/-- no row: no list, or a list with something that is no sign -/
def BadR (K : PySem.W.Frag) (H : Hp) (v : V) : Prop := (∃ t : String, kitB t "list" = some false ∧ ∀ H1, Ex H H1 → TyX K H1 v (.type t)) ∨
  ∃ (a : Addr) (pre : List Int) (x : V) (post : List V), v = .ref a ∧ H a = some (.lst (iv pre ++ x :: post)) ∧ (∀ n ∈ pre, n = 0 ∨ n = 1) ∧ NotSign K H x
theorem BadR.mono (h : BadR K H v) (e : Ex H H') : BadR K H' v := by
  rcases h with ⟨t, k, ty⟩ | ⟨a, pre, x, post, hv, ha, hp, hx⟩
  · exact .inl ⟨t, k, fun H1 e1 => ty H1 (e.trans e1)⟩
  · exact .inr ⟨a, pre, x, post, hv, e _ _ ha, hp, hx.mono e⟩
end
end Cg



set_option Elab.async false
set_option linter.all false
set_option maxRecDepth 100000
set_option maxHeartbeats 400000
namespace Cg
open PySem PySem.Spec PyProof.Rows L2 Evl

def topS (i : Nat) : Stmt := PySem.Challenge.pw_crcgate_k10_a_register.main.body.getD i (.Pass ⟨0, 0, 0, 0⟩)
abbrev s_is_sign : Stmt := topS 10
abbrev N_is_sign : List Str := ["value"]
theorem sc_is_sign : FnScope N_is_sign ["value"] (defScope s_is_sign) := ⟨rfl, rfl, rfl, by decide +kernel, rfl, by decide +kernel, by decide +kernel⟩
abbrev s_need_row : Stmt := topS 11
abbrev N_need_row : List Str := ["row", "sign"]
theorem sc_need_row : FnScope N_need_row ["row"] (defScope s_need_row) := ⟨rfl, rfl, rfl, by decide +kernel, rfl, by decide +kernel, by decide +kernel⟩
abbrev s_need_divisor : Stmt := topS 12
abbrev N_need_divisor : List Str := ["divisor"]
theorem sc_need_divisor : FnScope N_need_divisor ["divisor"] (defScope s_need_divisor) := ⟨rfl, rfl, rfl, by decide +kernel, rfl, by decide +kernel, by decide +kernel⟩
abbrev s_lengthened : Stmt := topS 13
abbrev N_lengthened : List Str := ["row", "length"]
theorem sc_lengthened : FnScope N_lengthened ["row", "length"] (defScope s_lengthened) := ⟨rfl, rfl, rfl, by decide +kernel, rfl, by decide +kernel, by decide +kernel⟩
abbrev s_added : Stmt := topS 14
abbrev N_added : List Str := ["one", "other", "length", "first", "second", "a", "b"]
theorem sc_added : FnScope N_added ["one", "other"] (defScope s_added) := ⟨rfl, rfl, rfl, by decide +kernel, rfl, by decide +kernel, by decide +kernel⟩
abbrev s_reduced : Stmt := topS 15
abbrev N_reduced : List Str := ["row", "divisor", "a", "b"]
theorem sc_reduced : FnScope N_reduced ["row", "divisor"] (defScope s_reduced) := ⟨rfl, rfl, rfl, by decide +kernel, rfl, by decide +kernel, by decide +kernel⟩
abbrev s_parted : Stmt := topS 16
abbrev N_parted : List Str := ["row", "divisor", "width", "rest", "heads", "sign", "longer"]
theorem sc_parted : FnScope N_parted ["row", "divisor"] (defScope s_parted) := ⟨rfl, rfl, rfl, by decide +kernel, rfl, by decide +kernel, by decide +kernel⟩
abbrev s_need_gate_divisor : Stmt := topS 20
abbrev N_need_gate_divisor : List Str := ["divisor"]
theorem sc_need_gate_divisor : FnScope N_need_gate_divisor ["divisor"] (defScope s_need_gate_divisor) := ⟨rfl, rfl, rfl, by decide +kernel, rfl, by decide +kernel, by decide +kernel⟩
abbrev s_reach : Stmt := topS 21
abbrev N_reach : List Str := ["divisor", "many", "_", "start"]
theorem sc_reach : FnScope N_reach ["divisor"] (defScope s_reach) := ⟨rfl, rfl, rfl, by decide +kernel, rfl, by decide +kernel, by decide +kernel⟩
abbrev s_is_count : Stmt := topS 24
abbrev N_is_count : List Str := ["value"]
theorem sc_is_count : FnScope N_is_count ["value"] (defScope s_is_count) := ⟨rfl, rfl, rfl, by decide +kernel, rfl, by decide +kernel, by decide +kernel⟩
abbrev s_Gate___init__ : Stmt := inClass (topS 25) 0
abbrev N_Gate___init__ : List Str := ["self", "divisor"]
theorem sc_Gate___init__ : FnScope N_Gate___init__ ["self", "divisor"] (defScope s_Gate___init__) := ⟨rfl, rfl, rfl, by decide +kernel, rfl, by decide +kernel, by decide +kernel⟩
abbrev s_Gate_rest : Stmt := inClass (topS 25) 1
abbrev N_Gate_rest : List Str := ["self", "row", "_", "rest"]
theorem sc_Gate_rest : FnScope N_Gate_rest ["self", "row"] (defScope s_Gate_rest) := ⟨rfl, rfl, rfl, by decide +kernel, rfl, by decide +kernel, by decide +kernel⟩
abbrev s_Gate_later : Stmt := inClass (topS 25) 2
abbrev N_Gate_later : List Str := ["self", "rest", "many"]
theorem sc_Gate_later : FnScope N_Gate_later ["self", "rest", "many"] (defScope s_Gate_later) := ⟨rfl, rfl, rfl, by decide +kernel, rfl, by decide +kernel, by decide +kernel⟩
abbrev s_Gate_check : Stmt := inClass (topS 25) 3
abbrev N_Gate_check : List Str := ["self", "row"]
theorem sc_Gate_check : FnScope N_Gate_check ["self", "row"] (defScope s_Gate_check) := ⟨rfl, rfl, rfl, by decide +kernel, rfl, by decide +kernel, by decide +kernel⟩
abbrev s_Register___init__ : Stmt := inClass (topS 27) 0
abbrev N_Register___init__ : List Str := ["self", "gate"]
theorem sc_Register___init__ : FnScope N_Register___init__ ["self", "gate"] (defScope s_Register___init__) := ⟨rfl, rfl, rfl, by decide +kernel, rfl, by decide +kernel, by decide +kernel⟩
abbrev s_Register_put : Stmt := inClass (topS 27) 1
abbrev N_Register_put : List Str := ["self", "sign"]
theorem sc_Register_put : FnScope N_Register_put ["self", "sign"] (defScope s_Register_put) := ⟨rfl, rfl, rfl, by decide +kernel, rfl, by decide +kernel, by decide +kernel⟩
abbrev s_Register_anew : Stmt := inClass (topS 27) 2
abbrev N_Register_anew : List Str := ["self"]
theorem sc_Register_anew : FnScope N_Register_anew ["self"] (defScope s_Register_anew) := ⟨rfl, rfl, rfl, by decide +kernel, rfl, by decide +kernel, by decide +kernel⟩
abbrev s_Register_joined : Stmt := inClass (topS 27) 3
abbrev N_Register_joined : List Str := ["self", "other", "moved"]
theorem sc_Register_joined : FnScope N_Register_joined ["self", "other"] (defScope s_Register_joined) := ⟨rfl, rfl, rfl, by decide +kernel, rfl, by decide +kernel, by decide +kernel⟩
abbrev s_Register_rest : Stmt := inClass (topS 27) 4
abbrev N_Register_rest : List Str := ["self"]
theorem sc_Register_rest : FnScope N_Register_rest ["self"] (defScope s_Register_rest) := ⟨rfl, rfl, rfl, by decide +kernel, rfl, by decide +kernel, by decide +kernel⟩
abbrev s_Register_check : Stmt := inClass (topS 27) 5
abbrev N_Register_check : List Str := ["self"]
theorem sc_Register_check : FnScope N_Register_check ["self"] (defScope s_Register_check) := ⟨rfl, rfl, rfl, by decide +kernel, rfl, by decide +kernel, by decide +kernel⟩
abbrev s__law_cell_at : Stmt := topS 29
abbrev N__law_cell_at : List Str := ["_law_script", "_law_k"]
theorem sc__law_cell_at : FnScope N__law_cell_at ["_law_script", "_law_k"] (defScope s__law_cell_at) := ⟨rfl, rfl, rfl, by decide +kernel, rfl, by decide +kernel, by decide +kernel⟩
abbrev s__law_is_row : Stmt := topS 30
abbrev N__law_is_row : List Str := ["_law_found", "_law_size", "_law_x"]
theorem sc__law_is_row : FnScope N__law_is_row ["_law_found", "_law_size"] (defScope s__law_is_row) := ⟨rfl, rfl, rfl, by decide +kernel, rfl, by decide +kernel, by decide +kernel⟩
abbrev s__law_step_by : Stmt := topS 31
abbrev N__law_step_by : List Str := ["_law_rest", "_law_sign", "_law_divisor", "_law_longer", "_law_a", "_law_b"]
theorem sc__law_step_by : FnScope N__law_step_by ["_law_rest", "_law_sign", "_law_divisor"] (defScope s__law_step_by) := ⟨rfl, rfl, rfl, by decide +kernel, rfl, by decide +kernel, by decide +kernel⟩
abbrev s__law_rest_by : Stmt := topS 32
abbrev N__law_rest_by : List Str := ["_law_row", "_law_divisor", "_law_rest", "_law_sign"]
theorem sc__law_rest_by : FnScope N__law_rest_by ["_law_row", "_law_divisor"] (defScope s__law_rest_by) := ⟨rfl, rfl, rfl, by decide +kernel, rfl, by decide +kernel, by decide +kernel⟩
abbrev s__law_divisor_by : Stmt := topS 33
abbrev N__law_divisor_by : List Str := ["_law_cell", "_law_bits", "_law_width", "_law_inner", "_law_k"]
theorem sc__law_divisor_by : FnScope N__law_divisor_by ["_law_cell", "_law_bits"] (defScope s__law_divisor_by) := ⟨rfl, rfl, rfl, by decide +kernel, rfl, by decide +kernel, by decide +kernel⟩
abbrev s__law_reach_by : Stmt := topS 34
abbrev N__law_reach_by : List Str := ["_law_divisor", "_law_begin", "_law_rest", "_law_many"]
theorem sc__law_reach_by : FnScope N__law_reach_by ["_law_divisor"] (defScope s__law_reach_by) := ⟨rfl, rfl, rfl, by decide +kernel, rfl, by decide +kernel, by decide +kernel⟩
abbrev s__law_stands : Stmt := topS 35
abbrev N__law_stands : List Str := ["_law_taker", "_law_many", "_law_due", "_law_divisor", "_law_held", "_law_width", "_law_check", "_law_rest", "_law_k"]
theorem sc__law_stands : FnScope N__law_stands ["_law_taker", "_law_many", "_law_due", "_law_divisor", "_law_held"] (defScope s__law_stands) := ⟨rfl, rfl, rfl, by decide +kernel, rfl, by decide +kernel, by decide +kernel⟩
abbrev s__law_refused : Stmt := topS 36
abbrev N__law_refused : List Str := ["_law_taker", "_law_thing", "_law_puts", "_law_words", "_law_turn", "e"]
theorem sc__law_refused : FnScope N__law_refused ["_law_taker", "_law_thing", "_law_puts"] (defScope s__law_refused) := ⟨rfl, rfl, rfl, by decide +kernel, rfl, by decide +kernel, by decide +kernel⟩
abbrev s__law_other : Stmt := topS 37
abbrev N__law_other : List Str := ["_law_cell", "_law_divisor", "_law_other_here", "_law_bits", "_law_k"]
theorem sc__law_other : FnScope N__law_other ["_law_cell", "_law_divisor"] (defScope s__law_other) := ⟨rfl, rfl, rfl, by decide +kernel, rfl, by decide +kernel, by decide +kernel⟩
abbrev s__law_stranger : Stmt := topS 38
abbrev N__law_stranger : List Str := ["_law_cell", "_law_divisor"]
theorem sc__law_stranger : FnScope N__law_stranger ["_law_cell", "_law_divisor"] (defScope s__law_stranger) := ⟨rfl, rfl, rfl, by decide +kernel, rfl, by decide +kernel, by decide +kernel⟩
abbrev s__law_went : Stmt := topS 39
abbrev N__law_went : List Str := ["_law_due", "_law_row", "_law_divisor", "_law_sign"]
theorem sc__law_went : FnScope N__law_went ["_law_due", "_law_row", "_law_divisor"] (defScope s__law_went) := ⟨rfl, rfl, rfl, by decide +kernel, rfl, by decide +kernel, by decide +kernel⟩
abbrev s__law_halves : Stmt := topS 40
abbrev N__law_halves : List Str := ["_law_number", "_law_found", "_law_k"]
theorem sc__law_halves : FnScope N__law_halves ["_law_number"] (defScope s__law_halves) := ⟨rfl, rfl, rfl, by decide +kernel, rfl, by decide +kernel, by decide +kernel⟩
abbrev s__law_doubled : Stmt := topS 41
abbrev N__law_doubled : List Str := ["_law_far_here", "_law_due", "_law_many", "_law_divisor", "_law_most", "_law_good", "_law_later", "_law_a", "_law_b"]
theorem sc__law_doubled : FnScope N__law_doubled ["_law_far_here", "_law_due", "_law_many", "_law_divisor", "_law_most"] (defScope s__law_doubled) := ⟨rfl, rfl, rfl, by decide +kernel, rfl, by decide +kernel, by decide +kernel⟩
abbrev s__law_far_ends : Stmt := topS 42
abbrev N__law_far_ends : List Str := ["_law_far_here", "_law_due", "_law_many", "_law_divisor", "_law_row", "_law_cell", "_law_held", "_law_near", "_law_sign", "_law_most", "_law_later", "_law_stranger_here", "_law_rest", "_law_a", "_law_b"]
theorem sc__law_far_ends : FnScope N__law_far_ends ["_law_far_here", "_law_due", "_law_many", "_law_divisor", "_law_row", "_law_cell", "_law_held"] (defScope s__law_far_ends) := ⟨rfl, rfl, rfl, by decide +kernel, rfl, by decide +kernel, by decide +kernel⟩
abbrev s__law_far : Stmt := topS 43
abbrev N__law_far : List Str := ["_law_divisor", "_law_number", "_law_row", "_law_cell", "_law_held", "_law_far_here", "_law_most", "_law_due", "_law_many", "_law_sign", "_law_good"]
theorem sc__law_far : FnScope N__law_far ["_law_divisor", "_law_number", "_law_row", "_law_cell", "_law_held"] (defScope s__law_far) := ⟨rfl, rfl, rfl, by decide +kernel, rfl, by decide +kernel, by decide +kernel⟩
abbrev s__law_deeds : Stmt := topS 44
abbrev N__law_deeds : List Str := ["_law_script", "_law_divisor", "_law_held", "_law_gate", "_law_one", "_law_other_here", "_law_taken", "_law_more", "_law_due", "_law_cell", "_law_deed", "_law_sign", "_law_good"]
theorem sc__law_deeds : FnScope N__law_deeds ["_law_script", "_law_divisor", "_law_held"] (defScope s__law_deeds) := ⟨rfl, rfl, rfl, by decide +kernel, rfl, by decide +kernel, by decide +kernel⟩
abbrev s__law_kept : Stmt := topS 45
abbrev N__law_kept : List Str := ["_law_held", "_law_found", "_law_copy"]
theorem sc__law_kept : FnScope N__law_kept ["_law_held"] (defScope s__law_kept) := ⟨rfl, rfl, rfl, by decide +kernel, rfl, by decide +kernel, by decide +kernel⟩
abbrev s_law : Stmt := topS 46
abbrev N_law : List Str := ["_law_script", "_law_divisor", "_law_held", "_law_row", "_law_small", "_law_number"]
theorem sc_law : FnScope N_law ["_law_script"] (defScope s_law) := ⟨rfl, rfl, rfl, by decide +kernel, rfl, by decide +kernel, by decide +kernel⟩
structure Cs where
  (none_ GateError NoRow NoSign NoDivisor NoCount TooLong NoMate Gate Register : Addr)
structure Txt (K : PySem.W.Frag) (mg : Str → Option Value) (cs : Cs) : Prop where
  e_GateError : ExcT K mg "GateError" cs.GateError
  e_NoRow : ExcT K mg "NoRow" cs.NoRow
  e_NoSign : ExcT K mg "NoSign" cs.NoSign
  e_NoDivisor : ExcT K mg "NoDivisor" cs.NoDivisor
  e_NoCount : ExcT K mg "NoCount" cs.NoCount
  e_TooLong : ExcT K mg "TooLong" cs.TooLong
  e_NoMate : ExcT K mg "NoMate" cs.NoMate
  c_Gate : ClsT K mg "Gate" cs.Gate
  n_Gate_reach : NoAttr K cs.Gate "reach"
  n_Gate_divisor : NoAttr K cs.Gate "divisor"
  n_Gate_width : NoAttr K cs.Gate "width"
  n_Gate_even : NoAttr K cs.Gate "even"
  w_Gate : OwnI K cs.Gate
  c_Register : ClsT K mg "Register" cs.Register
  n_Register_gate : NoAttr K cs.Register "gate"
  n_Register_many : NoAttr K cs.Register "many"
  n_Register__rest : NoAttr K cs.Register "_rest"
  w_Register : OwnI K cs.Register
  b_NoneType_Register : PySem.W.subIn K (.type "NoneType") (.ref cs.Register) = some false
  b_list_Register : PySem.W.subIn K (.type "list") (.ref cs.Register) = some false
  b_int_Register : PySem.W.subIn K (.type "int") (.ref cs.Register) = some false
  b_str_Register : PySem.W.subIn K (.type "str") (.ref cs.Register) = some false
  b_tuple_Register : PySem.W.subIn K (.type "tuple") (.ref cs.Register) = some false
  b_bool_Register : PySem.W.subIn K (.type "bool") (.ref cs.Register) = some false
  o_Gate_Register : PySem.W.subIn K (.ref cs.Gate) (.ref cs.Register) = some false
  o_Register_Register : PySem.W.subIn K (.ref cs.Register) (.ref cs.Register) = some true
  p_GateError_GateError : PySem.W.subIn K (.ref cs.GateError) (.ref cs.GateError) = some true
  p_GateError_NoSign : PySem.W.subIn K (.ref cs.GateError) (.ref cs.NoSign) = some false
  p_GateError_TooLong : PySem.W.subIn K (.ref cs.GateError) (.ref cs.TooLong) = some false
  p_GateError_NoMate : PySem.W.subIn K (.ref cs.GateError) (.ref cs.NoMate) = some false
  p_NoRow_GateError : PySem.W.subIn K (.ref cs.NoRow) (.ref cs.GateError) = some true
  p_NoRow_NoSign : PySem.W.subIn K (.ref cs.NoRow) (.ref cs.NoSign) = some false
  p_NoRow_TooLong : PySem.W.subIn K (.ref cs.NoRow) (.ref cs.TooLong) = some false
  p_NoRow_NoMate : PySem.W.subIn K (.ref cs.NoRow) (.ref cs.NoMate) = some false
  p_NoSign_GateError : PySem.W.subIn K (.ref cs.NoSign) (.ref cs.GateError) = some true
  p_NoSign_NoSign : PySem.W.subIn K (.ref cs.NoSign) (.ref cs.NoSign) = some true
  p_NoSign_TooLong : PySem.W.subIn K (.ref cs.NoSign) (.ref cs.TooLong) = some false
  p_NoSign_NoMate : PySem.W.subIn K (.ref cs.NoSign) (.ref cs.NoMate) = some false
  p_NoDivisor_GateError : PySem.W.subIn K (.ref cs.NoDivisor) (.ref cs.GateError) = some true
  p_NoDivisor_NoSign : PySem.W.subIn K (.ref cs.NoDivisor) (.ref cs.NoSign) = some false
  p_NoDivisor_TooLong : PySem.W.subIn K (.ref cs.NoDivisor) (.ref cs.TooLong) = some false
  p_NoDivisor_NoMate : PySem.W.subIn K (.ref cs.NoDivisor) (.ref cs.NoMate) = some false
  p_NoCount_GateError : PySem.W.subIn K (.ref cs.NoCount) (.ref cs.GateError) = some true
  p_NoCount_NoSign : PySem.W.subIn K (.ref cs.NoCount) (.ref cs.NoSign) = some false
  p_NoCount_TooLong : PySem.W.subIn K (.ref cs.NoCount) (.ref cs.TooLong) = some false
  p_NoCount_NoMate : PySem.W.subIn K (.ref cs.NoCount) (.ref cs.NoMate) = some false
  p_TooLong_GateError : PySem.W.subIn K (.ref cs.TooLong) (.ref cs.GateError) = some true
  p_TooLong_NoSign : PySem.W.subIn K (.ref cs.TooLong) (.ref cs.NoSign) = some false
  p_TooLong_TooLong : PySem.W.subIn K (.ref cs.TooLong) (.ref cs.TooLong) = some true
  p_TooLong_NoMate : PySem.W.subIn K (.ref cs.TooLong) (.ref cs.NoMate) = some false
  p_NoMate_GateError : PySem.W.subIn K (.ref cs.NoMate) (.ref cs.GateError) = some true
  p_NoMate_NoSign : PySem.W.subIn K (.ref cs.NoMate) (.ref cs.NoSign) = some false
  p_NoMate_TooLong : PySem.W.subIn K (.ref cs.NoMate) (.ref cs.TooLong) = some false
  p_NoMate_NoMate : PySem.W.subIn K (.ref cs.NoMate) (.ref cs.NoMate) = some true
  z_ValueError : mg "ValueError" = none
  z_all : mg "all" = none
  z_bool : mg "bool" = none
  z_int : mg "int" = none
  z_isinstance : mg "isinstance" = none
  z_len : mg "len" = none
  z_list : mg "list" = none
  z_max : mg "max" = none
  z_range : mg "range" = none
  z_zip : mg "zip" = none
  g_FEWEST_SIGNS : ∃ t, mg "FEWEST_SIGNS" = some (.int 2 t)
  g_MOST_SIGNS : ∃ t, mg "MOST_SIGNS" = some (.int 13 t)
  g_MOST_NOUGHTS : ∃ t, mg "MOST_NOUGHTS" = some (.int 1000000000000000000 t)
  d_is_sign : Raw K mg "is_sign" "is_sign" s_is_sign ["value"]
  d_need_row : Raw K mg "need_row" "need_row" s_need_row ["row"]
  d_need_divisor : Raw K mg "need_divisor" "need_divisor" s_need_divisor ["divisor"]
  d_lengthened : Raw K mg "lengthened" "lengthened" s_lengthened ["row", "length"]
  d_added : Raw K mg "added" "added" s_added ["one", "other"]
  d_reduced : Raw K mg "reduced" "reduced" s_reduced ["row", "divisor"]
  d_parted : Raw K mg "parted" "parted" s_parted ["row", "divisor"]
  d_need_gate_divisor : Raw K mg "need_gate_divisor" "need_gate_divisor" s_need_gate_divisor ["divisor"]
  d_reach : Raw K mg "reach" "reach" s_reach ["divisor"]
  d_is_count : Raw K mg "is_count" "is_count" s_is_count ["value"]
  i_Gate : RawI K cs.Gate "Gate.__init__" s_Gate___init__ ["self", "divisor"]
  m_Gate_rest : RawM K cs.Gate "rest" "Gate.rest" s_Gate_rest ["self", "row"]
  m_Gate_later : RawM K cs.Gate "later" "Gate.later" s_Gate_later ["self", "rest", "many"]
  m_Gate_check : RawM K cs.Gate "check" "Gate.check" s_Gate_check ["self", "row"]
  i_Register : RawI K cs.Register "Register.__init__" s_Register___init__ ["self", "gate"]
  m_Register_put : RawM K cs.Register "put" "Register.put" s_Register_put ["self", "sign"]
  m_Register_anew : RawM K cs.Register "anew" "Register.anew" s_Register_anew ["self"]
  m_Register_joined : RawM K cs.Register "joined" "Register.joined" s_Register_joined ["self", "other"]
  m_Register_rest : RawM K cs.Register "rest" "Register.rest" s_Register_rest ["self"]
  m_Register_check : RawM K cs.Register "check" "Register.check" s_Register_check ["self"]
  d__law_cell_at : Raw K mg "_law_cell_at" "_law_cell_at" s__law_cell_at ["_law_script", "_law_k"]
  d__law_is_row : Raw K mg "_law_is_row" "_law_is_row" s__law_is_row ["_law_found", "_law_size"]
  d__law_step_by : Raw K mg "_law_step_by" "_law_step_by" s__law_step_by ["_law_rest", "_law_sign", "_law_divisor"]
  d__law_rest_by : Raw K mg "_law_rest_by" "_law_rest_by" s__law_rest_by ["_law_row", "_law_divisor"]
  d__law_divisor_by : Raw K mg "_law_divisor_by" "_law_divisor_by" s__law_divisor_by ["_law_cell", "_law_bits"]
  d__law_reach_by : Raw K mg "_law_reach_by" "_law_reach_by" s__law_reach_by ["_law_divisor"]
  d__law_stands : Raw K mg "_law_stands" "_law_stands" s__law_stands ["_law_taker", "_law_many", "_law_due", "_law_divisor", "_law_held"]
  d__law_refused : Raw K mg "_law_refused" "_law_refused" s__law_refused ["_law_taker", "_law_thing", "_law_puts"]
  d__law_other : Raw K mg "_law_other" "_law_other" s__law_other ["_law_cell", "_law_divisor"]
  d__law_stranger : Raw K mg "_law_stranger" "_law_stranger" s__law_stranger ["_law_cell", "_law_divisor"]
  d__law_went : Raw K mg "_law_went" "_law_went" s__law_went ["_law_due", "_law_row", "_law_divisor"]
  d__law_halves : Raw K mg "_law_halves" "_law_halves" s__law_halves ["_law_number"]
  d__law_doubled : Raw K mg "_law_doubled" "_law_doubled" s__law_doubled ["_law_far_here", "_law_due", "_law_many", "_law_divisor", "_law_most"]
  d__law_far_ends : Raw K mg "_law_far_ends" "_law_far_ends" s__law_far_ends ["_law_far_here", "_law_due", "_law_many", "_law_divisor", "_law_row", "_law_cell", "_law_held"]
  d__law_far : Raw K mg "_law_far" "_law_far" s__law_far ["_law_divisor", "_law_number", "_law_row", "_law_cell", "_law_held"]
  d__law_deeds : Raw K mg "_law_deeds" "_law_deeds" s__law_deeds ["_law_script", "_law_divisor", "_law_held"]
  d__law_kept : Raw K mg "_law_kept" "_law_kept" s__law_kept ["_law_held"]
/-! ## our own lines for straight expressions -/
local macro_rules | `(tactic| walk_at "cg ar") => `(tactic| first | decide | omega | exact ⟨by decide, by decide⟩ | exact Or.inr ⟨by decide, by decide⟩ | (show (0 : Int) < _; first | decide | omega) | assumption)
local macro_rules | `(tactic| walk_at "cg hp") => `(tactic| first | assumption | (refine' Ex.at (by assumption) ?_; walk_at "cg hp"))
local macro_rules | `(tactic| walk_at "cg sq") => `(tactic| first | assumption | exact sq_of (by walk_at "cg hp") | (refine' ex_l (by assumption) ?_; walk_at "cg sq"))
local macro_rules | `(tactic| walk_at "cg er") => `(tactic| first | ((with_reducible apply er_var); (exact rfl); (walk_at "cg hp")) | ((with_reducible apply er_L); walk_at "cg el"))
local macro_rules | `(tactic| walk_at "cg el") => `(tactic| first
  | with_reducible exact el_nilI
  | ((with_reducible apply el_oneI); walk_at "cg ev")
  | ((with_reducible apply el_catI); (walk_at "cg er"); (walk_at "cg er"); (walk_at "cg ar"))
  | ((with_reducible apply el_repI); (walk_at "cg ev"); (walk_at "cg ev"); (walk_at "cg ar"))
  | ((with_reducible apply el_slFromI); (walk_at "cg er"); (walk_at "cg ev"); (walk_at "cg ar"))
  | ((with_reducible apply el_slToI); (walk_at "cg er"); (walk_at "cg ev"); (walk_at "cg ar"))
  | ((with_reducible apply el_listR); walk_at "cg er"))
local macro_rules | `(tactic| walk_at "cg ev") => `(tactic| first
  | with_reducible exact ev_c
  | ((with_reducible apply ev_var); exact rfl)
  | ((with_reducible apply ev_i0); (walk_at "cg ev"); (walk_at "cg ev"))
  | ((with_reducible apply ev_mod); (walk_at "cg ev"); (walk_at "cg ev"); (walk_at "cg ar"))
  | ((with_reducible apply ev_cmp); (walk_at "cg ev"); (walk_at "cg ev"))
  | ((with_reducible apply ev_lenI); walk_at "cg er")
  | ((with_reducible apply ev_chain); (walk_at "cg ev"); (walk_at "cg ev"); (walk_at "cg ev"))
  | ((with_reducible apply ev_notV); walk_at "cg ev")
  | ((with_reducible apply ev_max2); (walk_at "cg ev"); (walk_at "cg ev"))
  | ((with_reducible apply ev_min2); (walk_at "cg ev"); (walk_at "cg ev"))
  | ((with_reducible apply ev_intB); walk_at "cg ev")
  | ((with_reducible apply ev_eqR); (walk_at "cg er"); (walk_at "cg er"))
  | ((with_reducible apply ev_neR); (walk_at "cg er"); (walk_at "cg er"))
  | ((with_reducible apply ev_isiR); (walk_at "cg er"); (exact kit_list_list))
  | ((with_reducible apply ev_isiF); (walk_at "cg ev"); (exact rfl); first | exact kit_int_int | exact kit_int_bool | exact kit_bool_bool | exact kit_bool_int | exact kit_str_str)
  | ((with_reducible apply ev_sumR); walk_at "cg er")
  | ((with_reducible apply ev_inR); (walk_at "cg ev"); (walk_at "cg er"))
  | ((with_reducible apply ev_niR); (walk_at "cg ev"); (walk_at "cg er")))
local macro_rules | `(tactic| walk_at "cg ea") => `(tactic| first | with_reducible exact ea_nil | ((with_reducible apply ea_cons); (walk_at "cg ev"); (walk_at "cg ea")))
local macro_rules | `(tactic| walk_at "cg et") => `(tactic| first
  | ((with_reducible apply et_B); walk_at "cg ev")
  | ((with_reducible apply et_not); walk_at "cg et")
  | ((with_reducible apply et_test); walk_at "cg ev"))


/-! ## signs -/
def Bits (ns : List Int) : Prop := ∀ x ∈ ns, x = 0 ∨ x = 1
theorem Bits.nil : Bits [] := fun _ h => nomatch h
theorem Bits.cons {x : Int} {r : List Int} (h : x = 0 ∨ x = 1) (hr : Bits r) : Bits (x :: r) := fun y hy => by
  cases hy with
  | head => exact h
  | tail _ k => exact hr y k
theorem Bits.append {xs ys : List Int} (h : Bits xs) (k : Bits ys) : Bits (xs ++ ys) := fun y hy => by
  rcases List.mem_append.mp hy with z | z
  · exact h y z
  · exact k y z
theorem Bits.one {x : Int} (h : x = 0 ∨ x = 1) : Bits [x] := Bits.cons h .nil
theorem Bits.rep {x : Int} (n : Nat) (h : x = 0 ∨ x = 1) : Bits (List.replicate n x) := fun y hy => by
  rw [(List.mem_replicate.mp hy).2]
  exact h
theorem Bits.take {xs : List Int} (h : Bits xs) (n : Nat) : Bits (xs.take n) := fun y hy => h y (List.mem_of_mem_take hy)
theorem Bits.drop {xs : List Int} (h : Bits xs) (n : Nat) : Bits (xs.drop n) := fun y hy => h y (List.mem_of_mem_drop hy)
theorem bit_mod (i : Int) : i % 2 = 0 ∨ i % 2 = 1 := by omega
theorem Bits.get {xs : List Int} (h : Bits xs) {i : Nat} {x : Int} (e : xs[i]? = some x) : x = 0 ∨ x = 1 := h x (List.mem_of_getElem? e)


/-! ## sums of signs -/
def longer (xs : List Int) (n : Nat) : List Int := List.replicate (n - xs.length) 0 ++ xs
theorem longer_len {xs : List Int} {n : Nat} (h : xs.length ≤ n) : (longer xs n).length = n := by
  unfold longer
  rw [List.length_append, List.length_replicate]
  omega
theorem longer_bits {xs : List Int} (h : Bits xs) (n : Nat) : Bits (longer xs n) := (Bits.rep _ (.inl rfl)).append h
def xorR (xs ys : List Int) : List Int := List.zipWith (fun a b => Builtin.bitXor a b) xs ys
theorem xor_bit {a b : Int} (ha : a = 0 ∨ a = 1) (hb : b = 0 ∨ b = 1) : Builtin.bitXor a b = (a + b) % 2 := by
  rcases ha with rfl | rfl <;> rcases hb with rfl | rfl <;> decide +kernel
theorem xorR_bits : ∀ {xs ys : List Int}, Bits xs → Bits ys → Bits (xorR xs ys)
  | [], _, _, _ => by intro x hx; cases hx
  | _ :: _, [], _, _ => by intro x hx; cases hx
  | x :: xs, y :: ys, hx, hy => by
    have h1 := hx x List.mem_cons_self
    have h2 := hy y List.mem_cons_self
    refine Bits.cons ?_ (xorR_bits (fun z k => hx z (List.mem_cons_of_mem _ k)) fun z k => hy z (List.mem_cons_of_mem _ k))
    show Builtin.bitXor x y = 0 ∨ Builtin.bitXor x y = 1
    rw [xor_bit h1 h2]
    exact bit_mod _
theorem at_nat {xs : List Int} {i : Int} {j : Nat} {n : Int} (e : i = (j : Int)) (h : xs[j]? = some n) : atI xs i = some n := by
  rw [e]
  exact atI_nat h
theorem max_cast (a b : Nat) : (if (b : Int) > (a : Int) then (b : Int) else (a : Int)) = ((max a b : Nat) : Int) := by
  split <;> omega


theorem el_lcXor {K : PySem.W.Frag} {ta tb : TE} {σ : L2.St} {H : Hp} {i j : Nat} {vs : List Nat} {te : TE} {xs ys : List Int} (ha : EvR ta σ H (iv xs)) (hb : EvR tb σ H (iv ys)) (hz : xs.length ≤ 1000000) (hw : ∀ x y, wipe (((wipe σ vs).set i (some x)).set j (some y)) vs = wipe σ vs)
    (he : ∀ (x y : Int) H1, Ev te (((wipe σ vs).set i (some (.int x))).set j (some (.int y))) H1 (.int (Builtin.bitXor x y))) :
    EvL (tLc (iZip K (tCons ta (tCons tb tNil))) (gTup K 2 (gCons (gName i) (gCons (gName j) gNil))) tYes te vs) σ H (iv (xorR xs ys)) := by
  refine el_is (el_lcZip (fun x y => match x, y with | .int a, .int b => .int (Builtin.bitXor a b) | _, _ => .non) ha hb (by rw [iv_len]; exact hz) hw (fun k x y H1 e hx hy => ?_)) ?_
  · obtain ⟨n, _, rfl⟩ := iv_at hx
    obtain ⟨m, _, rfl⟩ := iv_at hy
    exact he n m H1
  · unfold xorR iv
    rw [List.zipWith_map, List.map_zipWith]


/-! ## products: the sums of a power -/
def tab (N : Nat) (f : Nat → Int) : List Int := (List.range N).map f
theorem tab_len (N : Nat) (f : Nat → Int) : (tab N f).length = N := by
  unfold tab
  rw [List.length_map, List.length_range]
theorem tab_get {N : Nat} {f : Nat → Int} {t : Nat} (h : t < N) : (tab N f)[t]? = some (f t) := by
  unfold tab
  rw [List.getElem?_map, List.getElem?_range h]
  rfl
theorem tab_no {N : Nat} {f : Nat → Int} {t : Nat} (h : ¬ t < N) : (tab N f)[t]? = none := List.getElem?_eq_none (by rw [tab_len]; omega)
theorem tab_ext {N : Nat} {f g : Nat → Int} (h : ∀ t, t < N → f t = g t) : tab N f = tab N g := by
  apply List.ext_getElem?
  intro t
  by_cases ht : t < N
  · rw [tab_get ht, tab_get ht, h t ht]
  · rw [tab_no ht, tab_no ht]
theorem tab_set {N : Nat} {f g : Nat → Int} {k : Nat} {v : Int} (h1 : g k = v) (h2 : ∀ t, t ≠ k → g t = f t) : (tab N f).set k v = tab N g := by
  apply List.ext_getElem?
  intro t
  rw [List.getElem?_set, tab_len]
  by_cases hk : k = t
  · subst hk
    rw [if_pos rfl]
    by_cases ht : k < N
    · rw [if_pos ht, tab_get ht, h1]
    · rw [if_neg ht, tab_no ht]
  · rw [if_neg hk]
    by_cases ht : t < N
    · rw [tab_get ht, tab_get ht, h2 t (fun e => hk e.symm)]
    · rw [tab_no ht, tab_no ht]
theorem tab_zero (N : Nat) : List.replicate N (0 : Int) = tab N fun _ => 0 := by
  unfold tab
  induction N with
  | zero => rfl
  | succ n ih => rw [List.replicate_succ', List.range_succ, List.map_append, ih]; rfl
theorem tab_bits {N : Nat} {f : Nat → Int} (h : ∀ t, t < N → f t = 0 ∨ f t = 1) : Bits (tab N f) := fun x hx => by
  obtain ⟨t, ht, rfl⟩ := List.mem_map.mp hx
  exact h t (List.mem_range.mp ht)
theorem tab_of (xs : List Int) : xs = tab xs.length (fun t => xs.getD t 0) := by
  apply List.ext_getElem?
  intro t
  by_cases ht : t < xs.length
  · rw [tab_get ht, List.getD_eq_getElem?_getD, List.getElem?_eq_getElem ht]
    rfl
  · rw [tab_no ht, List.getElem?_eq_none (by omega)]
/-- the k-th sign of the first row times that of the second, where their places make t -/
def tm (xs ys : List Int) (t k : Nat) : Int := if k ≤ t ∧ t - k < ys.length then xs.getD k 0 * ys.getD (t - k) 0 else 0
def sm (xs ys : List Int) (t : Nat) : Nat → Int
  | 0 => 0
  | n + 1 => sm xs ys t n + tm xs ys t n
theorem bit_getD {xs : List Int} (h : Bits xs) (k : Nat) : xs.getD k 0 = 0 ∨ xs.getD k 0 = 1 := by
  rw [List.getD_eq_getElem?_getD]
  cases e : xs[k]? with
  | none => exact .inl rfl
  | some x => exact h.get e
theorem and_bit {a b : Int} (ha : a = 0 ∨ a = 1) (hb : b = 0 ∨ b = 1) : Builtin.bitAnd a b = a * b := by
  rcases ha with rfl | rfl <;> rcases hb with rfl | rfl <;> decide +kernel
theorem mul_bit {a b : Int} (ha : a = 0 ∨ a = 1) (hb : b = 0 ∨ b = 1) : a * b = 0 ∨ a * b = 1 := by
  rcases ha with rfl | rfl <;> rcases hb with rfl | rfl <;> decide
def prodR (xs ys : List Int) : List Int := if xs.length = 0 ∨ ys.length = 0 then [] else tab (xs.length + ys.length - 1) fun t => sm xs ys t xs.length % 2
theorem prodR_bits (xs ys : List Int) : Bits (prodR xs ys) := by
  unfold prodR
  split
  · exact .nil
  · exact tab_bits fun t _ => bit_mod _


section
variable {P : Program} {w : World} {K : PySem.W.Frag} {mg : Str → Option Value} {base : Heap} {cs : Cs}
/-! ## _law_cell_at -/
def cellV (ns : List Int) (k : Int) : Int := ns.getD k.toNat 0
def sp__law_cell_at (K : PySem.W.Frag) : Sp := fun vs H Q _ => ∃ (a : Addr) (ns : List Int) (k : Int), vs = [.ref a, .int k] ∧ SqL K H a (iv ns) ∧ 0 ≤ k ∧ RetV (.int (cellV ns k)) H Q
theorem has__law_cell_at (T : Txt K mg cs) : Has P w K mg base 1 "_law_cell_at" ["_law_script", "_law_k"] (sp__law_cell_at K) := by
  refine T.d__law_cell_at.ok sc__law_cell_at (fun vs H Q E h => ?_) (fun f cdv A outer s H vs Q E hr h => ?_)
  · obtain ⟨a, ns, k, rfl, _⟩ := h
    rfl
  · obtain ⟨a, ns, k, rfl, hS, h0, q⟩ := h
    refine ⟨_, (pss_cons (ps_if (pt_cmpR op_lt (pv 1) (pe_callB (kk_len K) (by rfl) T.z_len b_len (pa_cons (pv 0) pa_nil)) (nomark _)) (pss_one (ps_ret (pe_ix (kk_ixl K) (pv 0) (pv 1) (fun _ _ => rfl)))) pss_nil)
      (pss_one (ps_ret pe_int))), ?_⟩
    refine q_when (et_test (ev_i0 (ev_var rfl) (ev_len (ev_var rfl) hS))) (fun hb H1 e1 => ?_) (fun hb H1 e1 => ?_)
    · have hk : k.toNat < ns.length := by
        have z := of_decide_eq_true hb
        rw [iv_len] at z
        omega
      have hx : atI (iv ns) k = some (.int (cellV ns k)) := by
        rw [show k = ((k.toNat : Nat) : Int) by omega]
        refine atI_nat (iv_get ?_)
        unfold cellV
        rw [Int.toNat_natCast, List.getD_eq_getElem?_getD, List.getElem?_eq_getElem hk]
        rfl
      exact s_ret (ev_op (ev_var rfl) (ev_var rfl) (rv_ixL (ex_l e1 hS) hx)) fun H2 e2 => q H2 (e1.trans e2)
    · have hk : ns.length ≤ k.toNat := by
        have z := of_decide_eq_false hb
        rw [iv_len] at z
        omega
      have hx : cellV ns k = 0 := by
        unfold cellV
        rw [List.getD_eq_getElem?_getD, List.getElem?_eq_none hk]
        rfl
      rw [hx] at q
      exact s_ret ev_c fun H2 e2 => q H2 (e1.trans e2)
theorem ev_cell {E : XK} {ta tb : TE} {σ : L2.St} {H : Hp} {a : Addr} {ns : List Int} {k : Int} (ha : Ev ta σ H (.ref a)) (hb : Ev tb σ H (.int k)) (hS : SqL K H a (iv ns)) (h0 : 0 ≤ k) :
    Ev (tCall (sp__law_cell_at K) [] E (tCons ta (tCons tb tNil))) σ H (.int (cellV ns k)) := ev_call (ea_two ha hb) fun H1 e Q q _ => ⟨a, ns, k, rfl, ex_l e hS, h0, q⟩
local macro_rules | `(tactic| walk_at "cg ev") => `(tactic| ((with_reducible apply ev_cell); (exact ev_var rfl); (walk_at "cg ev"); (walk_at "cg sq"); (walk_at "cg ar")))


/-! ## _law_is_row: where it is one -/
def sp__law_is_row : Sp := fun vs H Q _ => ∃ (a : Addr) (ns : List Int), vs = [.ref a, .int (ns.length : Int)] ∧ H a = some (.lst (iv ns)) ∧ Bits ns ∧ ns.length ≤ 100000 ∧ RetV (.bl true) H Q
theorem has__law_is_row (T : Txt K mg cs) : Has P w K mg base 1 "_law_is_row" ["_law_found", "_law_size"] sp__law_is_row := by
  refine T.d__law_is_row.ok sc__law_is_row (fun vs H Q E h => ?_) (fun f cdv A outer s H vs Q E hr h => ?_)
  · obtain ⟨a, n, rfl, _⟩ := h
    rfl
  · obtain ⟨a, ns, rfl, ha, hb, hl, q⟩ := h
    refine ⟨_, (pss_cons (ps_if (PW.pt (pw_or (pt_not (pt_val (pe_callB (kk_isi K) (by rfl) T.z_isinstance b_isinstance (pa_cons (pv 0) (pa_cons (pe_bltn (v := .ty "list") (u := .type "list") (by rfl) T.z_list b_list rfl) pa_nil))))) (pw_or1 (pt_cmpR op_neII (pe_callB (kk_len K) (by rfl) T.z_len b_len (pa_cons (pv 0) pa_nil)) (pv 1) (nomark _))))) (pss_one (ps_ret pe_bl)) pss_nil)
      (pss_one (ps_ret (pe_callB (kk_all K rfl) (by rfl) T.z_all b_all (pa_cons (pe_lc (own := [("_law_x", 2)]) (g := gName 2) (tt := tYes) rfl sc__law_is_row.nd (pi_list (pv 0)) (blkOk_by (own := [("_law_x", 2)]) (N := N__law_is_row) (sc := defScope s__law_is_row) (by decide +kernel)) (fun _ _ _ _ _ => pg_name (i := 2) sc__law_is_row.nd rfl (Or.inl rfl)) (fun _ _ _ _ _ => pts_nil) (fun _ _ _ _ _ => (pe_and (pe_callB (kk_isi K) (by rfl) T.z_isinstance b_isinstance (pa_cons (pv 2) (pa_cons (pe_bltn (v := .ty "int") (u := .type "int") (by rfl) T.z_int b_int rfl) pa_nil))) (pe_and (pe_not (pe_callB (kk_isi K) (by rfl) T.z_isinstance b_isinstance (pa_cons (pv 2) (pa_cons (pe_bltn (v := .ty "bool") (u := .type "bool") (by rfl) T.z_bool b_bool rfl) pa_nil)))) (pe_one (pe_chain op_le op_le pe_int (pv 2) pe_int)))))) pa_nil))))), ?_⟩
    refine q_when (et_or (by walk_at "cg et") (fun _ => by walk_at "cg et")) (fun hb H1 e1 => ?_) (fun _ H1 e1 => ?_)
    · simp at hb
    · refine s_ret (ev_allR (bs := (iv ns).map fun _ => true) (er_L (el_is (el_lcMap (fun _ => .bl true) (by walk_at "cg er") (by rw [iv_len]; omega) (fun _ => rfl) (fun i x H2 e2 hx => ?_)) ?_))) fun H2 e2 => ?_
      · obtain ⟨n, hn, rfl⟩ := iv_at hx
        have hn01 : (decide ((0 : Int) ≤ n) && decide (n ≤ 1)) = true := by
          rcases hb.get hn with rfl | rfl <;> rfl
        refine ev_is (ev_andV (by walk_at "cg ev") (fun _ => ev_andV (by walk_at "cg ev") (fun _ => ev_one (by walk_at "cg ev")))) ?_
        rw [hn01]
        rfl
      · rw [List.map_map]
        unfold iv
        rw [List.map_map, List.map_map]
        rfl
      · have z : ((iv ns).map fun _ => true).all id = true := by simp
        rw [z]
        exact q H2 (e1.trans e2)
theorem et_is_row {E : XK} {ta tb : TE} {σ : L2.St} {H : Hp} {ns : List Int} (ha : EvR ta σ H (iv ns)) (hb : Ev tb σ H (.int (ns.length : Int))) (h1 : Bits ns) (h2 : ns.length ≤ 100000) :
    Ev (tCall sp__law_is_row [] E (tCons ta (tCons tb tNil))) σ H (.bl true) := fun H1 e Q q => ha H1 e _ fun a H2 e2 h2' => hb H2 (e.trans e2) _ fun H3 e3 => ⟨a, ns, rfl, e3 _ _ h2', h1, h2, fun H4 e4 => q H4 ((e2.trans e3).trans e4)⟩


/-! ## is_sign, need_row: of what is one, and of what is none -/
def sp_is_sign (K : PySem.W.Frag) : Sp := fun vs H Q _ => ∃ (v : V) (b : Bool), vs = [v] ∧ ((b = true ∧ ∃ n : Int, v = .int n ∧ (n = 0 ∨ n = 1)) ∨ (b = false ∧ NotSign K H v)) ∧ RetV (.bl b) H Q
theorem has_is_sign (T : Txt K mg cs) : Has P w K mg base 1 "is_sign" ["value"] (sp_is_sign K) := by
  refine T.d_is_sign.ok sc_is_sign (fun vs H Q E h => ?_) (fun f cdv A outer s H vs Q E hr h => ?_)
  · obtain ⟨v, b, rfl, _⟩ := h
    rfl
  · obtain ⟨v, b, rfl, hv, q⟩ := h
    refine ⟨_, (pss_one (ps_ret (pe_and (pe_callB (kk_isi K) (by rfl) T.z_isinstance b_isinstance (pa_cons (pv 0) (pa_cons (pe_bltn (v := .ty "int") (u := .type "int") (by rfl) T.z_int b_int rfl) pa_nil))) (pe_and (pe_not (pe_callB (kk_isi K) (by rfl) T.z_isinstance b_isinstance (pa_cons (pv 0) (pa_cons (pe_bltn (v := .ty "bool") (u := .type "bool") (by rfl) T.z_bool b_bool rfl) pa_nil)))) (pe_one (pe_cmpR (kk_in K) (pv 0) (pe_tup (pa_cons pe_int (pa_cons pe_int pa_nil))) rfl)))))), ?_⟩
    have num : ∀ i : Int, Ev (tAndV (tCB (rIsi K) (tCons (tVar 0) (tCons (tC (.ty "int")) tNil))) (tAndV (tNotV (tCB (rIsi K) (tCons (tVar 0) (tCons (tC (.ty "bool")) tNil)))) (tOp (rIn K false) (tVar 0) (tTup (tCons (tC (.int 0)) (tCons (tC (.int 1)) tNil)))))) [some (.int i)] H (.bl (true && (!false && inV (.int i) [.int 0, .int 1]))) := fun i =>
      ev_andV (ev_isiF (ev_var rfl) rfl kit_int_int) (fun _ => ev_andV (ev_notV (ev_isiF (ev_var rfl) rfl kit_int_bool)) (fun _ => ev_one (ev_inU (ev_var rfl) (eu_tup (ea_two ev_c ev_c) (by decide)) rfl rfl)))
    have inv : ∀ i : Int, (true && (!false && inV (.int i) [.int 0, .int 1])) = decide (i = 0 ∨ i = 1) := fun i => by
      have z := inV_iv i [0, 1]
      show inV (.int i) (iv [0, 1]) = _
      rw [z]
      congr 1
      simp
    rcases hv with ⟨rfl, n, rfl, hn⟩ | ⟨rfl, ⟨i, rfl, h0, h1⟩ | ⟨k, rfl⟩ | ⟨t, kt, ty⟩⟩
    · exact s_ret (ev_is (num n) (congrArg V.bl (by rw [inv]; simp [hn]))) q
    · exact s_ret (ev_is (num i) (congrArg V.bl (by rw [inv]; simp [h0, h1]))) q
    · exact s_ret (ev_is (ev_andV (a := true) (ev_isiF (ev_var rfl) rfl kit_bool_int) (fun _ => ev_andV (a := false) (b := false) (ev_notV (ev_isiF (ev_var rfl) rfl kit_bool_bool)) (fun h => nomatch h))) rfl) q
    · exact s_ret (ev_is (ev_andV (a := false) (b := false) (ev_isi (ev_var rfl) (ty H (.refl H)) ty (kit_ty kt)) (fun h => nomatch h)) rfl) q
def sp_need_row : Sp := fun vs H Q _ => ∃ (a : Addr) (ns : List Int), vs = [.ref a] ∧ H a = some (.lst (iv ns)) ∧ Bits ns ∧ RetV .non H Q
theorem has_need_row (T : Txt K mg cs) : Has P w K mg base 2 "need_row" ["row"] sp_need_row := by
  refine T.d_need_row.ok sc_need_row (fun vs H Q E h => ?_) (fun f cdv A outer s H vs Q E hr h => ?_)
  · obtain ⟨a, n, rfl, _⟩ := h
    rfl
  · obtain ⟨a, ns, rfl, ha, hb, q⟩ := h
    refine ⟨_, (pss_cons (ps_if (pt_not (pt_val (pe_callB (kk_isi K) (by rfl) T.z_isinstance b_isinstance (pa_cons (pv 0) (pa_cons (pe_bltn (v := .ty "list") (u := .type "list") (by rfl) T.z_list b_list rfl) pa_nil))))) (pss_one ps_never) pss_nil)
      (pss_one (ps_for (passes_of rfl) rfl (pi_list (pv 0)) (pg_name (i := 1) sc_need_row.nd rfl (Or.inl rfl)) (pss_one (ps_if (pt_not (pt_val (pe_callH (has_is_sign T) (hr.mono (by decide)) (passes_call (takes_of rfl rfl rfl rfl) (fun _ _ _ _ h => h)) (pa_cons (pv 1) pa_nil)))) (pss_one ps_never) pss_nil))))), ?_⟩
    refine q_when (by walk_at "cg et") (fun hb H1 e1 => ?_) (fun _ H1 e1 => ?_)
    · simp at hb
    · refine s_forLn (ev_var rfl) (by walk_at "cg sq") (fun i σ' H' => Ex H H' ∧ ∃ v, σ' = [some (.ref a), v]) (fun H2 e2 => ⟨e1.trans e2, none, rfl⟩) (fun i σ' H' _ h => sq_of (h.1 _ _ ha)) (fun i x σ' H' hx h => ?_) (fun σ' H' h => q _ h.1)
      obtain ⟨e, v, rfl⟩ := h
      obtain ⟨n, hn, rfl⟩ := iv_at hx
      exact s_when (b := false) (et_is (et_not (et_B (ev_call (vs := [.int n]) (by walk_at "cg ea") fun H1 e1 Q q _ => ⟨_, true, rfl, .inl ⟨rfl, n, rfl, hb.get hn⟩, q⟩))) rfl) (fun h => nomatch h) (fun _ H2 e2 => ⟨e.trans e2, _, rfl⟩)


/-! ## lengthened, added -/
def sp_lengthened : Sp := fun vs H Q _ => ∃ (a : Addr) (ns : List Int) (n : Nat), vs = [.ref a, .int (n : Int)] ∧ H a = some (.lst (iv ns)) ∧ ns.length ≤ n ∧ n ≤ 100000 ∧ RetL (iv (longer ns n)) H Q
theorem has_lengthened (T : Txt K mg cs) : Has P w K mg base 1 "lengthened" ["row", "length"] sp_lengthened := by
  refine T.d_lengthened.ok sc_lengthened (fun vs H Q E h => ?_) (fun f cdv A outer s H vs Q E hr h => ?_)
  · obtain ⟨a, ns, n, rfl, _⟩ := h
    rfl
  · obtain ⟨a, ns, n, rfl, ha, h1, h2, q⟩ := h
    refine ⟨_, (pss_one (ps_ret (pe_op op_cat (pe_op op_rep (pe_lst (pa_cons pe_int pa_nil)) (pe_op op_sub (pv 1) (pe_callB (kk_len K) (by rfl) T.z_len b_len (pa_cons (pv 0) pa_nil)))) (pv 0)))), ?_⟩
    refine s_retL (el_is (el_catI (xs := List.replicate ((n : Int) - (ns.length : Int)).toNat 0) (ys := ns) (er_L (el_repI (by walk_at "cg ev") (by walk_at "cg ev") (by walk_at "cg ar"))) (by walk_at "cg er") (by rw [List.length_replicate]; omega)) ?_) q
    unfold longer
    rw [show ((n : Int) - (ns.length : Int)).toNat = n - ns.length by omega]
def addR (xs ys : List Int) : List Int := xorR (longer xs (max xs.length ys.length)) (longer ys (max xs.length ys.length))
def sp_added : Sp := fun vs H Q _ => ∃ (a b : Addr) (xs ys : List Int), vs = [.ref a, .ref b] ∧ H a = some (.lst (iv xs)) ∧ H b = some (.lst (iv ys)) ∧ Bits xs ∧ Bits ys ∧ xs.length ≤ 10000 ∧ ys.length ≤ 10000 ∧ RetL (iv (addR xs ys)) H Q
theorem has_added (T : Txt K mg cs) : Has P w K mg base 3 "added" ["one", "other"] sp_added := by
  refine T.d_added.ok sc_added (fun vs H Q E h => ?_) (fun f cdv A outer s H vs Q E hr h => ?_)
  · obtain ⟨a, b, xs, ys, rfl, _⟩ := h
    rfl
  · obtain ⟨a, b, xs, ys, rfl, ha, hb, bx, bY, lx, ly, q⟩ := h
    refine ⟨_, (pss_cons (ps_expr (pe_callH (has_need_row T) (hr.mono (by decide)) (passes_call (takes_of rfl rfl rfl rfl) (fun _ _ _ _ h => h)) (pa_cons (pv 0) pa_nil)))
      (pss_cons (ps_expr (pe_callH (has_need_row T) (hr.mono (by decide)) (passes_call (takes_of rfl rfl rfl rfl) (fun _ _ _ _ h => h)) (pa_cons (pv 1) pa_nil)))
      (pss_cons (ps_set (i := 2) sc_added.nd rfl (Or.inl rfl) (pe_callB (kk_max rfl) (by rfl) T.z_max b_max (pa_cons (pe_callB (kk_len K) (by rfl) T.z_len b_len (pa_cons (pv 0) pa_nil)) (pa_cons (pe_callB (kk_len K) (by rfl) T.z_len b_len (pa_cons (pv 1) pa_nil)) pa_nil))))
      (pss_cons (ps_set (i := 3) sc_added.nd rfl (Or.inl rfl) (pe_callH (has_lengthened T) (hr.mono (by decide)) (passes_call (takes_of rfl rfl rfl rfl) (fun _ _ _ _ h => h)) (pa_cons (pv 0) (pa_cons (pv 2) pa_nil))))
      (pss_cons (ps_set (i := 4) sc_added.nd rfl (Or.inl rfl) (pe_callH (has_lengthened T) (hr.mono (by decide)) (passes_call (takes_of rfl rfl rfl rfl) (fun _ _ _ _ h => h)) (pa_cons (pv 1) (pa_cons (pv 2) pa_nil))))
      (pss_one (ps_ret (pe_lc (own := [("a", 5), ("b", 6)]) (g := gTup K 2 (gCons (gName 5) (gCons (gName 6) gNil))) (tt := tYes) rfl sc_added.nd (pi_zip (by rfl) T.z_zip (pa_cons (pv 3) (pa_cons (pv 4) pa_nil))) (blkOk_by (own := [("a", 5), ("b", 6)]) (N := N_added) (sc := defScope s_added) (by decide +kernel)) (fun _ _ _ _ _ => pg_tup rfl (pgs_cons (pg_name (i := 5) sc_added.nd rfl (Or.inl rfl)) (pgs_cons (pg_name (i := 6) sc_added.nd rfl (Or.inl rfl)) pgs_nil))) (fun _ _ _ _ _ => pts_nil) (fun _ _ _ _ _ => (pe_op op_xor (pv 5) (pv 6))))))))))), ?_⟩
    refine q_dropC (by walk_at "cg ea") fun H1 e1 => ⟨a, xs, rfl, by walk_at "cg hp", bx, fun H2 e2 => ?_⟩
    refine q_dropC (by walk_at "cg ea") fun H3 e3 => ⟨b, ys, rfl, by walk_at "cg hp", bY, fun H4 e4 => ?_⟩
    refine q_asg (ev_is (ev_max2 (ev_lenI (xs := xs) (by walk_at "cg er")) (ev_lenI (xs := ys) (by walk_at "cg er"))) (congrArg V.int (max_cast _ _))) fun H5 e5 => ?_
    refine q_asgC (by walk_at "cg ea") fun H6 e6 => ⟨a, xs, _, rfl, by walk_at "cg hp", by omega, by omega, fun p H7 hp e7 h7 => ?_⟩
    refine q_asgC (by walk_at "cg ea") fun H8 e8 => ⟨b, ys, _, rfl, by walk_at "cg hp", by omega, by omega, fun p' H9 hp' e9 h9 => ?_⟩
    have e : Ex H H9 := (((((((e1.trans e2).trans e3).trans e4).trans e5).trans e6).trans e7).trans e8).trans e9
    refine s_retL (el_lcXor (xs := longer xs (max xs.length ys.length)) (ys := longer ys (max xs.length ys.length)) (er_var rfl (e9 _ _ (e8 _ _ h7))) (er_var rfl h9) (by rw [longer_len (by omega)]; omega) (fun _ _ => rfl) (fun x y H1 => by walk_at "cg ev")) fun p2 H10 n10 e10 h10 => ?_
    exact q p2 H10 (fresh_back e n10) (e.trans e10) h10


/-! ## one step of the rest -/
def redR (xs ds : List Int) : List Int := if xs.headD 0 = 0 then xs.tail else xorR xs.tail ds.tail
theorem redR_len {xs ds : List Int} (h : xs.length = ds.length) : (redR xs ds).length = xs.length - 1 := by
  unfold redR
  split
  · exact List.length_tail
  · unfold xorR
    rw [List.length_zipWith, List.length_tail, List.length_tail, h]
    exact Nat.min_self _
theorem Bits.tail {xs : List Int} (h : Bits xs) : Bits xs.tail := fun x hx => h x (List.mem_of_mem_tail hx)
theorem redR_bits {xs ds : List Int} (h : Bits xs) (k : Bits ds) : Bits (redR xs ds) := by
  unfold redR
  split
  · exact h.tail
  · exact xorR_bits h.tail k.tail
theorem head_at {xs : List Int} (h : 0 < xs.length) : xs[0]? = some (xs.headD 0) := by
  cases xs with
  | nil => exact absurd h (Nat.lt_irrefl _)
  | cons x r => rfl
def sp_reduced : Sp := fun vs H Q _ => ∃ (a b : Addr) (xs ds : List Int), vs = [.ref a, .ref b] ∧ H a = some (.lst (iv xs)) ∧ H b = some (.lst (iv ds)) ∧ Bits xs ∧ Bits ds ∧ xs.length = ds.length ∧ 0 < xs.length ∧ xs.length ≤ 10000 ∧ RetL (iv (redR xs ds)) H Q
theorem has_reduced (T : Txt K mg cs) : Has P w K mg base 1 "reduced" ["row", "divisor"] sp_reduced := by
  refine T.d_reduced.ok sc_reduced (fun vs H Q E h => ?_) (fun f cdv A outer s H vs Q E hr h => ?_)
  · obtain ⟨a, b, xs, ds, rfl, _⟩ := h
    rfl
  · obtain ⟨a, b, xs, ds, rfl, ha, hb, bx, bd, hl, h0, hz, q⟩ := h
    refine ⟨_, (pss_cons (ps_if (pt_cmpR op_eqII (pe_ix (kk_ixl K) (pv 0) pe_int (fun _ _ => rfl)) pe_int (nomark _)) (pss_one (ps_ret (pe_slice (kk_sl K) (pv 0) (po_some pe_int) po_none))) pss_nil)
      (pss_one (ps_ret (pe_lc (own := [("a", 2), ("b", 3)]) (g := gTup K 2 (gCons (gName 2) (gCons (gName 3) gNil))) (tt := tYes) rfl sc_reduced.nd (pi_zip (by rfl) T.z_zip (pa_cons (pe_slice (kk_sl K) (pv 0) (po_some pe_int) po_none) (pa_cons (pe_slice (kk_sl K) (pv 1) (po_some pe_int) po_none) pa_nil))) (blkOk_by (own := [("a", 2), ("b", 3)]) (N := N_reduced) (sc := defScope s_reduced) (by decide +kernel)) (fun _ _ _ _ _ => pg_tup rfl (pgs_cons (pg_name (i := 2) sc_reduced.nd rfl (Or.inl rfl)) (pgs_cons (pg_name (i := 3) sc_reduced.nd rfl (Or.inl rfl)) pgs_nil))) (fun _ _ _ _ _ => pts_nil) (fun _ _ _ _ _ => (pe_op op_xor (pv 2) (pv 3))))))), ?_⟩
    have g := head_at h0
    refine q_when (et_test (ev_i0 (ev_ixI (er_var rfl ha) ev_c (atI_nat (j := 0) g)) ev_c)) (fun hc H1 e1 => ?_) (fun hc H1 e1 => ?_)
    · have hh : xs.headD 0 = 0 := of_decide_eq_true hc
      refine s_retL (el_is (el_slFromI (xs := xs) (n := 1) (by walk_at "cg er") ev_c (by decide)) ?_) fun p H2 n2 e2 h2 => q p H2 (fresh_back e1 n2) (e1.trans e2) h2
      unfold redR
      rw [if_pos hh]
      exact congrArg iv List.drop_one
    · have hh : ¬ xs.headD 0 = 0 := of_decide_eq_false hc
      refine s_retL (el_is (el_lcXor (xs := xs.drop 1) (ys := ds.drop 1) (er_L (el_slFromI (n := 1) (by walk_at "cg er") ev_c (by decide))) (er_L (el_slFromI (n := 1) (by walk_at "cg er") ev_c (by decide))) (by rw [List.length_drop]; omega) (fun _ _ => rfl) (fun x y H1 => by walk_at "cg ev")) ?_) fun p H2 n2 e2 h2 => q p H2 (fresh_back e1 n2) (e1.trans e2) h2
      unfold redR
      rw [if_neg hh, List.drop_one, List.drop_one]


/-! ## the parting of a row: what quotient and rest make together -/
def pstep (ds : List Int) (st : List Int × List Int) (s : Int) : List Int × List Int := (st.1 ++ [(st.2 ++ [s]).headD 0], redR (st.2 ++ [s]) ds)
def prun (ds xs : List Int) : List Int × List Int := xs.foldl (pstep ds) ([], List.replicate (ds.length - 1) 0)
theorem prun_snoc (ds xs : List Int) (s : Int) : prun ds (xs ++ [s]) = pstep ds (prun ds xs) s := by
  unfold prun
  rw [List.foldl_append]
  rfl
theorem getD_left {xs ys : List Int} {k : Nat} (h : k < xs.length) : (xs ++ ys).getD k 0 = xs.getD k 0 := by
  rw [List.getD_eq_getElem?_getD, List.getD_eq_getElem?_getD, List.getElem?_append_left h]
/-- rows by their last sign -/
theorem snoc_ind {C : List Int → Prop} (h0 : C []) (h1 : ∀ xs x, C xs → C (xs ++ [x])) : ∀ xs, C xs := fun xs => by
  have z : ∀ n (xs : List Int), xs.length = n → C xs := by
    intro n
    induction n with
    | zero =>
      intro xs h
      rw [List.length_eq_zero_iff.mp h]
      exact h0
    | succ n ih =>
      intro xs h
      have ne : xs ≠ [] := fun e => by rw [e] at h; cases h
      rw [← List.dropLast_concat_getLast ne]
      exact h1 _ _ (ih _ (by rw [List.length_dropLast, h]; rfl))
  exact z _ xs rfl
theorem prun_len {ds : List Int} (h : 0 < ds.length) (xs : List Int) : (prun ds xs).1.length = xs.length ∧ (prun ds xs).2.length = ds.length - 1 := by
  induction xs using snoc_ind with
  | h0 => exact ⟨rfl, List.length_replicate⟩
  | h1 xs x ih =>
    rw [prun_snoc]
    refine ⟨by show (_ ++ [_]).length = _; rw [List.length_append, List.length_append, ih.1]; rfl, ?_⟩
    show (redR _ ds).length = _
    rw [redR_len (by rw [List.length_append, ih.2]; show _ + 1 = _; omega), List.length_append, ih.2]
    rfl
theorem headD_bit {xs : List Int} (h : Bits xs) : xs.headD 0 = 0 ∨ xs.headD 0 = 1 := by
  cases xs with
  | nil => exact .inl rfl
  | cons x r => exact h x List.mem_cons_self
theorem prun_bits {ds : List Int} (hd : Bits ds) {xs : List Int} (hx : Bits xs) : Bits (prun ds xs).1 ∧ Bits (prun ds xs).2 := by
  induction xs using snoc_ind with
  | h0 => exact ⟨.nil, .rep _ (.inl rfl)⟩
  | h1 xs x ih =>
    have b1 : Bits xs := fun y hy => hx y (List.mem_append_left _ hy)
    have b2 : x = 0 ∨ x = 1 := hx x (List.mem_append_right _ List.mem_cons_self)
    rw [prun_snoc]
    have bl : Bits ((prun ds xs).2 ++ [x]) := (ih b1).2.append (.one b2)
    exact ⟨(ih b1).1.append (.one (headD_bit bl)), redR_bits bl hd⟩
theorem sm_head {hs : List Int} {h : Int} (ds : List Int) (s : Nat) : ∀ t, t ≤ hs.length → sm (hs ++ [h]) ds s t = sm hs ds s t
  | 0, _ => rfl
  | t + 1, ht => by
    show sm (hs ++ [h]) ds s t + tm (hs ++ [h]) ds s t = sm hs ds s t + tm hs ds s t
    rw [sm_head ds s t (by omega)]
    unfold tm
    rw [getD_left (by omega)]
theorem sm_none {hs ds : List Int} {s : Nat} : ∀ t, (∀ k, k < t → ¬ (k ≤ s ∧ s - k < ds.length)) → sm hs ds s t = 0
  | 0, _ => rfl
  | t + 1, h => by
    show sm hs ds s t + tm hs ds s t = 0
    rw [sm_none t fun k hk => h k (by omega)]
    unfold tm
    rw [if_neg (h t (by omega))]
    rfl
theorem getD_none {xs : List Int} {k : Nat} (h : xs.length ≤ k) : xs.getD k 0 = 0 := by
  rw [List.getD_eq_getElem?_getD, List.getElem?_eq_none h]
  rfl
/-- one step, sign by sign -/
theorem step_at {ls ds : List Int} (hl : ls.length = ds.length) (h0 : ds.headD 0 = 1) (bl : Bits ls) (bd : Bits ds) (hp : 0 < ls.length) (j : Nat) (hj : j < ls.length) :
    (ls.getD j 0) % 2 = (ls.headD 0 * ds.getD j 0 + if 1 ≤ j then (redR ls ds).getD (j - 1) 0 else 0) % 2 := by
  cases ls with
  | nil => cases hp
  | cons l r =>
    cases ds with
    | nil => cases hl
    | cons d e =>
      have d1 : d = 1 := h0
      subst d1
      cases j with
      | zero => simp
      | succ j =>
        rw [if_pos (by omega)]
        show r.getD j 0 % 2 = (l * e.getD j 0 + (redR (l :: r) (1 :: e)).getD j 0) % 2
        have hj' : j < r.length := by simpa using hj
        have he : r.length = e.length := by simpa using hl
        unfold redR
        rcases bl l List.mem_cons_self with rfl | rfl
        · simp
        · rw [if_neg (show ¬ ((1 : Int) :: r).headD 0 = 0 from (by decide : ¬ (1 : Int) = 0))]
          have b1 : Bits r := bl.tail
          have b2 : Bits e := bd.tail
          have g : (xorR r e).getD j 0 = (r.getD j 0 + e.getD j 0) % 2 := by
            unfold xorR
            rw [List.getD_eq_getElem?_getD, List.getElem?_zipWith, List.getElem?_eq_getElem hj', List.getElem?_eq_getElem (show j < e.length by omega), List.getD_eq_getElem?_getD, List.getElem?_eq_getElem hj', List.getD_eq_getElem?_getD, List.getElem?_eq_getElem (show j < e.length by omega)]
            exact xor_bit (b1 _ (List.getElem_mem _)) (b2 _ (List.getElem_mem _))
          show _ = (1 * e.getD j 0 + (xorR r e).getD j 0) % 2
          rw [g]
          omega
/-- the row with width noughts ahead -/
def ahead (w : Nat) (xs : List Int) (s : Nat) : Int := if s < w then 0 else xs.getD (s - w) 0
theorem prun_sum {ds : List Int} (h0 : ds.headD 0 = 1) (bd : Bits ds) : ∀ xs, Bits xs → ∀ s, s < xs.length + (ds.length - 1) →
    ahead (ds.length - 1) xs s % 2 = (sm (prun ds xs).1 ds s xs.length + if xs.length ≤ s then (prun ds xs).2.getD (s - xs.length) 0 else 0) % 2 := by
  have hp : 0 < ds.length := by
    cases ds with
    | nil => cases h0
    | cons d e => exact Nat.succ_pos _
  intro xs
  induction xs using snoc_ind with
  | h0 =>
    intro _ s hs
    have hs' : s < ds.length - 1 := by simpa using hs
    show ahead _ [] s % 2 = (0 + if 0 ≤ s then (List.replicate (ds.length - 1) (0 : Int)).getD (s - 0) 0 else 0) % 2
    unfold ahead
    rw [if_pos hs', if_pos (Nat.zero_le _), List.getD_eq_getElem?_getD, List.getElem?_replicate, if_pos (by omega)]
    rfl
  | h1 xs x ih =>
    intro bx s hs
    have b1 : Bits xs := fun y hy => bx y (List.mem_append_left _ hy)
    have b2 : x = 0 ∨ x = 1 := bx x (List.mem_append_right _ List.mem_cons_self)
    have L := prun_len hp xs
    have B := prun_bits bd b1
    rw [prun_snoc]
    generalize hls : (prun ds xs).2 ++ [x] = ls
    have hlen : ls.length = ds.length := by
      rw [← hls, List.length_append, L.2]
      show _ + 1 = _
      omega
    have bl : Bits ls := by
      rw [← hls]
      exact B.2.append (.one b2)
    have e1 : (pstep ds (prun ds xs) x).1 = (prun ds xs).1 ++ [ls.headD 0] := by rw [← hls]; rfl
    have e2 : (pstep ds (prun ds xs) x).2 = redR ls ds := by rw [← hls]; rfl
    rw [e1, e2]
    have hn : (xs ++ [x]).length = xs.length + 1 := by rw [List.length_append]; rfl
    rw [hn] at hs ⊢
    show _ = (sm _ ds s xs.length + tm _ ds s xs.length + _) % 2
    rw [sm_head ds s xs.length (by rw [L.1]; exact Nat.le_refl _)]
    have et : ((prun ds xs).1 ++ [ls.headD 0]).getD xs.length 0 = ls.headD 0 := by
      rw [List.getD_eq_getElem?_getD, List.getElem?_append_right (by rw [L.1]; exact Nat.le_refl _), L.1, Nat.sub_self]
      rfl
    unfold tm
    rw [et]
    by_cases c : xs.length ≤ s
    · -- the window
      have key : ahead (ds.length - 1) (xs ++ [x]) s % 2 = (sm (prun ds xs).1 ds s xs.length + ls.getD (s - xs.length) 0) % 2 := by
        by_cases c2 : s < xs.length + (ds.length - 1)
        · have := ih b1 s c2
          rw [if_pos c] at this
          have ea : ahead (ds.length - 1) (xs ++ [x]) s = ahead (ds.length - 1) xs s := by
            unfold ahead
            split
            · rfl
            · rw [getD_left (by omega)]
          have el : ls.getD (s - xs.length) 0 = (prun ds xs).2.getD (s - xs.length) 0 := by
            rw [← hls, getD_left (by rw [L.2]; omega)]
          rw [ea, el, this]
        · have es : s = xs.length + (ds.length - 1) := by omega
          have z : sm (prun ds xs).1 ds s xs.length = 0 := sm_none _ fun k hk => by omega
          have el : ls.getD (s - xs.length) 0 = x := by
            rw [← hls, List.getD_eq_getElem?_getD, List.getElem?_append_right (by rw [L.2]; omega), L.2, show s - xs.length - (ds.length - 1) = 0 by omega]
            rfl
          have ea : ahead (ds.length - 1) (xs ++ [x]) s = x := by
            unfold ahead
            rw [if_neg (by omega), List.getD_eq_getElem?_getD, List.getElem?_append_right (by omega), show s - (ds.length - 1) - xs.length = 0 by omega]
            rfl
          rw [z, el, ea, Int.zero_add]
      have st := step_at hlen h0 bl bd (by omega) (s - xs.length) (by omega)
      rw [key, if_pos ⟨c, by omega⟩]
      by_cases c3 : xs.length + 1 ≤ s
      · rw [if_pos (by omega), show s - xs.length - 1 = s - (xs.length + 1) by omega] at st
        rw [if_pos c3]
        omega
      · rw [if_neg (by omega)] at st
        rw [if_neg c3]
        omega
    · rw [if_neg (by omega), if_neg (by omega)]
      have := ih b1 s (by omega)
      rw [if_neg c] at this
      have ea : ahead (ds.length - 1) (xs ++ [x]) s = ahead (ds.length - 1) xs s := by
        unfold ahead
        split
        · rfl
        · rw [getD_left (by omega)]
      rw [ea, this]
      simp
/-- the first heads are noughts -/
theorem heads_zero {ds : List Int} (h0 : ds.headD 0 = 1) (bd : Bits ds) {xs : List Int} (bx : Bits xs) : ∀ n k, k < n → k < ds.length - 1 → k < xs.length → (prun ds xs).1.getD k 0 = 0 := by
  intro n
  induction n with
  | zero => intro k h; cases h
  | succ n ih =>
    intro s hk hw hx
    by_cases hlt : s < n
    · exact ih s hlt hw hx
    have S := prun_sum h0 bd xs bx s (by omega)
    unfold ahead at S
    rw [if_pos hw, if_neg (by omega), Int.add_zero] at S
    have z : ∀ t, sm (prun ds xs).1 ds s t = if s < t then (prun ds xs).1.getD s 0 else 0 := by
      intro t
      induction t with
      | zero => rfl
      | succ t iht =>
        show sm (prun ds xs).1 ds s t + tm (prun ds xs).1 ds s t = _
        rw [iht]
        unfold tm
        by_cases c : t ≤ s ∧ s - t < ds.length
        · rw [if_pos c]
          by_cases c2 : t = s
          · subst c2
            rw [if_neg (by omega), if_pos (by omega), Nat.sub_self]
            have : ds.getD 0 0 = 1 := by
              cases ds with
              | nil => cases h0
              | cons d e => exact h0
            rw [this]
            omega
          · rw [ih t (by omega) (by omega) (by omega), if_neg (by omega), if_neg (by omega)]
            omega
        · rw [if_neg c]
          by_cases c2 : t = s
          · subst c2
            omega
          · by_cases c3 : s < t
            · rw [if_pos c3, if_pos (by omega)]
              omega
            · rw [if_neg c3, if_neg (by omega)]
              rfl
    rw [z, if_pos hx] at S
    rcases bit_getD (prun_bits bd bx).1 s with e | e
    · exact e
    · rw [e] at S
      exact absurd S (by decide)
theorem sm_shift {hs ds : List Int} {w : Nat} (h : ∀ k, k < w → hs.getD k 0 = 0) (t : Nat) : ∀ m, sm hs ds (t + w) (w + m) = sm (hs.drop w) ds t m
  | 0 => by
    have z : ∀ n, n ≤ w → sm hs ds (t + w) n = 0 := by
      intro n
      induction n with
      | zero => intro _; rfl
      | succ n ih =>
        intro hn
        show sm hs ds (t + w) n + tm hs ds (t + w) n = 0
        rw [ih (by omega)]
        unfold tm
        rw [h n (by omega)]
        split <;> omega
    exact z w (Nat.le_refl _)
  | m + 1 => by
    show sm hs ds (t + w) (w + m) + tm hs ds (t + w) (w + m) = sm (hs.drop w) ds t m + tm (hs.drop w) ds t m
    rw [sm_shift h t m]
    congr 1
    unfold tm
    have g : (hs.drop w).getD m 0 = hs.getD (w + m) 0 := by
      rw [List.getD_eq_getElem?_getD, List.getD_eq_getElem?_getD, List.getElem?_drop]
    rw [g, show t + w - (w + m) = t - m by omega]
    have z : (w + m ≤ t + w ∧ t - m < ds.length) ↔ (m ≤ t ∧ t - m < ds.length) := by omega
    simp only [z]
/-- quotient times divisor, and the rest, make the row -/
theorem parted_makes {ds : List Int} (h0 : ds.headD 0 = 1) (bd : Bits ds) {xs : List Int} (bx : Bits xs) (t : Nat) (ht : t < max xs.length (ds.length - 1)) :
    ((if max xs.length (ds.length - 1) - (ds.length - 1) ≤ t then (prun ds xs).2.getD (t - (max xs.length (ds.length - 1) - (ds.length - 1))) 0 else 0) + sm ((prun ds xs).1.drop (ds.length - 1)) ds t ((prun ds xs).1.drop (ds.length - 1)).length) % 2 = (longer xs (max xs.length (ds.length - 1))).getD t 0 := by
  have hp : 0 < ds.length := by
    cases ds with
    | nil => cases h0
    | cons d e => exact Nat.succ_pos _
  have L := prun_len hp xs
  have fin : ∀ z : Int, (z = 0 ∨ z = 1) → z % 2 = z := fun z h => by omega
  by_cases c : ds.length - 1 ≤ xs.length
  · rw [Nat.max_eq_left c]
    have S := prun_sum h0 bd xs bx (t + (ds.length - 1)) (by omega)
    have e : ahead (ds.length - 1) xs (t + (ds.length - 1)) = xs.getD t 0 := by
      unfold ahead
      rw [if_neg (by omega), Nat.add_sub_cancel]
    have sh := sm_shift (hs := (prun ds xs).1) (ds := ds) (w := ds.length - 1) (fun k hk => heads_zero h0 bd bx (k + 1) k (by omega) hk (by omega)) t (xs.length - (ds.length - 1))
    rw [show ds.length - 1 + (xs.length - (ds.length - 1)) = xs.length by omega] at sh
    rw [List.length_drop, L.1, ← sh]
    have lg : longer xs xs.length = xs := by
      unfold longer
      rw [Nat.sub_self]
      rfl
    rw [lg]
    rw [e, fin _ (bit_getD bx t)] at S
    rw [S]
    by_cases c2 : xs.length - (ds.length - 1) ≤ t
    · rw [if_pos c2, if_pos (by omega), show t + (ds.length - 1) - xs.length = t - (xs.length - (ds.length - 1)) by omega]
      omega
    · rw [if_neg c2, if_neg (by omega)]
      omega
  · have c' : xs.length ≤ ds.length - 1 := by omega
    rw [Nat.max_eq_right c', Nat.sub_self, if_pos (Nat.zero_le _), Nat.sub_zero]
    have hd : ((prun ds xs).1.drop (ds.length - 1)) = [] := List.drop_of_length_le (by rw [L.1]; omega)
    rw [hd]
    show (_ + 0) % 2 = _
    have S := prun_sum h0 bd xs bx (t + xs.length) (by omega)
    rw [if_pos (by omega), Nat.add_sub_cancel] at S
    have z : sm (prun ds xs).1 ds (t + xs.length) xs.length = 0 := by
      have zz : ∀ n, n ≤ xs.length → sm (prun ds xs).1 ds (t + xs.length) n = 0 := by
        intro n
        induction n with
        | zero => intro _; rfl
        | succ n ih =>
          intro hn
          show sm _ ds _ n + tm _ ds _ n = 0
          rw [ih (by omega)]
          unfold tm
          rw [heads_zero h0 bd bx (n + 1) n (by omega) (by omega) (by omega)]
          split <;> omega
      exact zz _ (Nat.le_refl _)
    rw [z] at S
    have e : ahead (ds.length - 1) xs (t + xs.length) = (longer xs (ds.length - 1)).getD t 0 := by
      unfold ahead longer
      by_cases c2 : t + xs.length < ds.length - 1
      · rw [if_pos c2, getD_left (by rw [List.length_replicate]; omega), List.getD_eq_getElem?_getD, List.getElem?_replicate, if_pos (by omega)]
        rfl
      · rw [if_neg c2, List.getD_eq_getElem?_getD, List.getD_eq_getElem?_getD, List.getElem?_append_right (by rw [List.length_replicate]; omega), List.length_replicate, show t + xs.length - (ds.length - 1) = t - (ds.length - 1 - xs.length) by omega]
    rw [e, fin _ (bit_getD (longer_bits bx _) t)] at S
    rw [S]
    congr 1
    omega


/-! ## noughts behind a row: the steps, and the reach -/
structure IsDiv (ds : List Int) : Prop where
  bits : Bits ds
  two : 2 ≤ ds.length
  top : ds.length ≤ 13
  head : ds.headD 0 = 1
  last : ds.getD (ds.length - 1) 0 = 1
def nxt (ds R : List Int) : List Int := redR (R ++ [0]) ds
def its (ds : List Int) : Nat → List Int → List Int
  | 0, R => R
  | n + 1, R => nxt ds (its ds n R)
theorem its_add (ds R : List Int) (m : Nat) : ∀ n, its ds (n + m) R = its ds n (its ds m R)
  | 0 => by rw [Nat.zero_add]; rfl
  | n + 1 => by
    rw [show n + 1 + m = (n + m) + 1 by omega]
    show nxt ds _ = nxt ds _
    rw [its_add ds R m n]
def RowOf (w : Nat) (R : List Int) : Prop := Bits R ∧ R.length = w
theorem nxt_row {ds R : List Int} (D : IsDiv ds) (h : RowOf (ds.length - 1) R) : RowOf (ds.length - 1) (nxt ds R) := by
  have h2 := D.two
  have hl : (R ++ [0]).length = ds.length := by
    rw [List.length_append, h.2]
    show _ + 1 = _
    omega
  refine ⟨redR_bits (h.1.append (.one (.inl rfl))) D.bits, ?_⟩
  show (redR _ _).length = _
  rw [redR_len hl, hl]
theorem its_row {ds R : List Int} (D : IsDiv ds) (h : RowOf (ds.length - 1) R) : ∀ n, RowOf (ds.length - 1) (its ds n R)
  | 0 => h
  | n + 1 => nxt_row D (its_row D h n)
/-- the signs of the next rest -/
theorem nxt_at {ds R : List Int} (D : IsDiv ds) (h : RowOf (ds.length - 1) R) {j : Nat} (hj : j < ds.length - 1) : (nxt ds R).getD j 0 = ((R ++ [0]).getD (j + 1) 0 + R.headD 0 * ds.getD (j + 1) 0) % 2 := by
  have h2 := D.two
  have hl : (R ++ [0]).length = ds.length := by
    rw [List.length_append, h.2]
    show _ + 1 = _
    omega
  have bl : Bits (R ++ [0]) := h.1.append (.one (.inl rfl))
  have st := step_at hl D.head bl D.bits (by omega) (j + 1) (by omega)
  have hh : (R ++ [0]).headD 0 = R.headD 0 := by
    cases R with
    | nil => rfl
    | cons x r => rfl
  rw [if_pos (by omega), Nat.add_sub_cancel, hh] at st
  have b1 := bit_getD (nxt_row D h).1 j
  show (redR (R ++ [0]) ds).getD j 0 = _
  have b1' : (redR (R ++ [0]) ds).getD j 0 = 0 ∨ (redR (R ++ [0]) ds).getD j 0 = 1 := b1
  have b2 := bit_getD bl (j + 1)
  have b3 := bit_getD D.bits (j + 1)
  have b4 := headD_bit h.1
  rcases b1' with a | a <;> rcases b2 with b | b <;> rcases b3 with c | c <;> rcases b4 with d | d <;> rw [a, b, c, d] at st ⊢ <;> first | rfl | exact absurd st (by decide)
theorem row_ext {w : Nat} {R S : List Int} (h : RowOf w R) (k : RowOf w S) (e : ∀ j, j < w → R.getD j 0 = S.getD j 0) : R = S := by
  apply List.ext_getElem?
  intro j
  by_cases hj : j < w
  · have := e j hj
    rw [List.getD_eq_getElem?_getD, List.getD_eq_getElem?_getD, List.getElem?_eq_getElem (by rw [h.2]; exact hj), List.getElem?_eq_getElem (by rw [k.2]; exact hj)] at this
    rw [List.getElem?_eq_getElem (by rw [h.2]; exact hj), List.getElem?_eq_getElem (by rw [k.2]; exact hj)]
    exact congrArg some this
  · rw [List.getElem?_eq_none (by rw [h.2]; omega), List.getElem?_eq_none (by rw [k.2]; omega)]
theorem headD_getD (R : List Int) : R.headD 0 = R.getD 0 0 := by
  cases R with
  | nil => rfl
  | cons x r => rfl
theorem nxt_inj {ds R S : List Int} (D : IsDiv ds) (h : RowOf (ds.length - 1) R) (k : RowOf (ds.length - 1) S) (e : nxt ds R = nxt ds S) : R = S := by
  have h2 := D.two
  have hd : R.headD 0 = S.headD 0 := by
    have a := nxt_at D h (j := ds.length - 2) (by omega)
    have b := nxt_at D k (j := ds.length - 2) (by omega)
    rw [e, b] at a
    have z1 : (R ++ [0]).getD (ds.length - 2 + 1) 0 = 0 := by
      rw [List.getD_eq_getElem?_getD, List.getElem?_append_right (by rw [h.2]; omega), h.2, show ds.length - 2 + 1 - (ds.length - 1) = 0 by omega]
      rfl
    have z2 : (S ++ [0]).getD (ds.length - 2 + 1) 0 = 0 := by
      rw [List.getD_eq_getElem?_getD, List.getElem?_append_right (by rw [k.2]; omega), k.2, show ds.length - 2 + 1 - (ds.length - 1) = 0 by omega]
      rfl
    have z3 : ds.getD (ds.length - 2 + 1) 0 = 1 := by
      rw [show ds.length - 2 + 1 = ds.length - 1 by omega]
      exact D.last
    rw [z1, z2, z3] at a
    have b1 := headD_bit h.1
    have b2 := headD_bit k.1
    omega
  refine row_ext h k fun j hj => ?_
  cases j with
  | zero => rw [← headD_getD, ← headD_getD, hd]
  | succ j =>
    have a := nxt_at D h (j := j) (by omega)
    have b := nxt_at D k (j := j) (by omega)
    rw [e, b, hd, getD_left (by rw [k.2]; exact hj), getD_left (by rw [h.2]; exact hj)] at a
    have b1 := bit_getD h.1 (j + 1)
    have b2 := bit_getD k.1 (j + 1)
    omega
theorem its_inj {ds R S : List Int} (D : IsDiv ds) (h : RowOf (ds.length - 1) R) (k : RowOf (ds.length - 1) S) : ∀ n, its ds n R = its ds n S → R = S
  | 0, e => e
  | n + 1, e => its_inj D h k n (nxt_inj D (its_row D h n) (its_row D k n) e)
/-! ### pigeons -/
theorem pigeon : ∀ (N : Nat) (g : Nat → Nat), (∀ i, i ≤ N → g i < N) → ∃ i j, i < j ∧ j ≤ N ∧ g i = g j
  | 0, g, h => absurd (h 0 (Nat.le_refl _)) (Nat.not_lt_zero _)
  | N + 1, g, h => by
    by_cases c : ∃ i, i ≤ N ∧ g i = g (N + 1)
    · obtain ⟨i, hi, e⟩ := c
      exact ⟨i, N + 1, by omega, Nat.le_refl _, e⟩
    · have c' : ∀ i, i ≤ N → g i ≠ g (N + 1) := fun i hi e => c ⟨i, hi, e⟩
      have hv := h (N + 1) (Nat.le_refl _)
      obtain ⟨i, j, hij, hj, e⟩ := pigeon N (fun i => if g (N + 1) < g i then g i - 1 else g i) (fun i hi => by
        have a := h i (by omega)
        have b := c' i hi
        show (if g (N + 1) < g i then g i - 1 else g i) < N
        split <;> omega)
      refine ⟨i, j, hij, by omega, ?_⟩
      have e' : (if g (N + 1) < g i then g i - 1 else g i) = (if g (N + 1) < g j then g j - 1 else g j) := e
      have b1 := c' i (by omega)
      have b2 := c' j hj
      split at e' <;> split at e' <;> omega
/-- a row as a number -/
def val : List Int → Nat
  | [] => 0
  | x :: r => x.toNat * 2 ^ r.length + val r
theorem val_lt : ∀ {R : List Int}, Bits R → val R < 2 ^ R.length
  | [], _ => by decide
  | x :: r, h => by
    have ih := val_lt (R := r) fun y hy => h y (List.mem_cons_of_mem _ hy)
    rw [List.length_cons, Nat.pow_succ]
    show x.toNat * 2 ^ r.length + val r < _
    rcases h x List.mem_cons_self with rfl | rfl
    · show 0 * _ + _ < _
      omega
    · show 1 * _ + _ < _
      omega
theorem val_inj : ∀ {R S : List Int}, Bits R → Bits S → R.length = S.length → val R = val S → R = S
  | [], [], _, _, _, _ => rfl
  | [], _ :: _, _, _, h, _ => by cases h
  | _ :: _, [], _, _, h, _ => by cases h
  | x :: r, y :: s, hR, hS, hl, e => by
    have hl' : r.length = s.length := by simpa using hl
    have bR : Bits r := fun z hz => hR z (List.mem_cons_of_mem _ hz)
    have bS : Bits s := fun z hz => hS z (List.mem_cons_of_mem _ hz)
    have l1 := val_lt bR
    have l2 := val_lt bS
    rw [hl'] at l1
    have e' : x.toNat * 2 ^ r.length + val r = y.toNat * 2 ^ s.length + val s := e
    rw [hl'] at e'
    rcases hR x List.mem_cons_self with rfl | rfl <;> rcases hS y List.mem_cons_self with rfl | rfl
    · rw [val_inj bR bS hl' (by simpa using e')]
    · exfalso
      have e2 : 0 * 2 ^ s.length + val r = 1 * 2 ^ s.length + val s := e'
      omega
    · exfalso
      have e2 : 1 * 2 ^ s.length + val r = 0 * 2 ^ s.length + val s := e'
      omega
    · rw [val_inj bR bS hl' (by have e2 : 1 * 2 ^ s.length + val r = 1 * 2 ^ s.length + val s := e'; omega)]
theorem val_rep : ∀ w, val (List.replicate w 0) = 0
  | 0 => rfl
  | w + 1 => by
    rw [List.replicate_succ]
    show 0 * _ + val (List.replicate w 0) = 0
    rw [val_rep w]
    omega
/-- the rest that the power 0 leaves -/
def beg (ds : List Int) : List Int := List.replicate (ds.length - 2) 0 ++ [1]
theorem beg_row {ds : List Int} (D : IsDiv ds) : RowOf (ds.length - 1) (beg ds) := by
  have h2 := D.two
  refine ⟨(Bits.rep _ (.inl rfl)).append (.one (.inr rfl)), ?_⟩
  unfold beg
  rw [List.length_append, List.length_replicate]
  show _ + 1 = _
  omega
def zer (ds : List Int) : List Int := List.replicate (ds.length - 1) 0
theorem zer_row {ds : List Int} : RowOf (ds.length - 1) (zer ds) := ⟨.rep _ (.inl rfl), List.length_replicate⟩
theorem zer_getD (n j : Nat) : (List.replicate n (0 : Int)).getD j 0 = 0 := by
  rw [List.getD_eq_getElem?_getD, List.getElem?_replicate]
  split <;> rfl
theorem nxt_zer {ds : List Int} (D : IsDiv ds) : nxt ds (zer ds) = zer ds := by
  refine row_ext (nxt_row D zer_row) zer_row fun j hj => ?_
  rw [nxt_at D zer_row hj]
  have z : (zer ds).headD 0 = 0 := by rw [headD_getD]; exact zer_getD _ _
  have z2 : (zer ds ++ [0]).getD (j + 1) 0 = 0 := by
    have e : zer ds ++ [0] = List.replicate (ds.length - 1 + 1) 0 := List.replicate_succ'.symm
    rw [e]
    exact zer_getD _ _
  have z3 : (zer ds).getD j 0 = 0 := zer_getD _ _
  rw [z, z2, z3]
  omega
theorem its_zer {ds : List Int} (D : IsDiv ds) : ∀ n, its ds n (zer ds) = zer ds
  | 0 => rfl
  | n + 1 => by
    show nxt ds (its ds n (zer ds)) = _
    rw [its_zer D n, nxt_zer D]
theorem beg_getD {ds : List Int} (D : IsDiv ds) (j : Nat) : (beg ds).getD j 0 = if j = ds.length - 2 then 1 else 0 := by
  unfold beg
  by_cases h : j < ds.length - 2
  · rw [getD_left (by rw [List.length_replicate]; exact h), zer_getD, if_neg (by omega)]
  · rw [List.getD_eq_getElem?_getD, List.getElem?_append_right (by rw [List.length_replicate]; omega), List.length_replicate]
    by_cases h2 : j = ds.length - 2
    · rw [if_pos h2, h2, Nat.sub_self]
      rfl
    · rw [if_neg h2, List.getElem?_eq_none (by show 1 ≤ _; omega)]
      rfl
theorem beg_ne {ds : List Int} (D : IsDiv ds) : beg ds ≠ zer ds := fun e => by
  have h2 := D.two
  have a := beg_getD D (ds.length - 2)
  rw [if_pos rfl, e] at a
  have b : (zer ds).getD (ds.length - 2) 0 = 0 := zer_getD _ _
  rw [b] at a
  exact absurd a (by decide)
theorem its_ne {ds : List Int} (D : IsDiv ds) {R : List Int} (h : RowOf (ds.length - 1) R) (ne : R ≠ zer ds) (n : Nat) : its ds n R ≠ zer ds := fun e => by
  rw [← its_zer D n] at e
  exact ne (its_inj D h zer_row n e)
theorem comes_back {ds : List Int} (D : IsDiv ds) : ∃ m, 1 ≤ m ∧ m ≤ 2 ^ (ds.length - 1) - 1 ∧ its ds m (beg ds) = beg ds := by
  have R := fun n => its_row D (beg_row D) n
  have pos : ∀ n, 0 < val (its ds n (beg ds)) := fun n => by
    refine Nat.pos_of_ne_zero fun e => its_ne D (beg_row D) (beg_ne D) n ?_
    refine val_inj (R n).1 zer_row.1 ((R n).2.trans zer_row.2.symm) ?_
    rw [e]
    exact (val_rep _).symm
  obtain ⟨i, j, hij, hj, e⟩ := pigeon (2 ^ (ds.length - 1) - 1) (fun n => val (its ds n (beg ds)) - 1) (fun i _ => by
    have l := val_lt (R i).1
    rw [(R i).2] at l
    have p := pos i
    show val _ - 1 < _
    omega)
  have e' : val (its ds i (beg ds)) - 1 = val (its ds j (beg ds)) - 1 := e
  have p1 := pos i
  have p2 := pos j
  have e2 := val_inj (R i).1 (R j).1 ((R i).2.trans (R j).2.symm) (by omega)
  refine ⟨j - i, by omega, by omega, ?_⟩
  rw [show j = i + (j - i) by omega, its_add] at e2
  exact (its_inj D (beg_row D) (its_row D (beg_row D) _) i e2).symm
/-- the least such number -/
structure IsReach (ds : List Int) (m : Nat) : Prop where
  pos : 1 ≤ m
  back : its ds m (beg ds) = beg ds
  least : ∀ k, 1 ≤ k → k < m → its ds k (beg ds) ≠ beg ds
theorem least_of {p : Nat → Prop} : ∀ n, p n → ∃ m, m ≤ n ∧ p m ∧ ∀ k, k < m → ¬ p k := by
  intro n
  induction n using Nat.strongRecOn with
  | ind n ih =>
    intro h
    by_cases c : ∃ k, k < n ∧ p k
    · obtain ⟨k, hk, pk⟩ := c
      obtain ⟨m, h1, h2, h3⟩ := ih k hk pk
      exact ⟨m, by omega, h2, h3⟩
    · exact ⟨n, Nat.le_refl _, h, fun k hk pk => c ⟨k, hk, pk⟩⟩
theorem has_reach_ {ds : List Int} (D : IsDiv ds) : ∃ m, IsReach ds m ∧ m ≤ 2 ^ (ds.length - 1) - 1 := by
  obtain ⟨m, h1, h2, h3⟩ := comes_back D
  obtain ⟨k, a, ⟨b1, b2⟩, c⟩ := least_of (p := fun m => 1 ≤ m ∧ its ds m (beg ds) = beg ds) m ⟨h1, h3⟩
  exact ⟨k, ⟨b1, b2, fun j hj hjk e => c j hjk ⟨hj, e⟩⟩, by omega⟩
open Classical in
noncomputable def rch (ds : List Int) : Nat := if h : ∃ m, IsReach ds m ∧ m ≤ 2 ^ (ds.length - 1) - 1 then choose h else 0
theorem rch_is {ds : List Int} (D : IsDiv ds) : IsReach ds (rch ds) ∧ rch ds ≤ 2 ^ (ds.length - 1) - 1 := by
  have h := has_reach_ D
  unfold rch
  rw [dif_pos h]
  exact Classical.choose_spec h
theorem rch_top {ds : List Int} (D : IsDiv ds) : rch ds ≤ 4095 := by
  have a := (rch_is D).2
  have b : 2 ^ (ds.length - 1) ≤ 2 ^ 12 := Nat.pow_le_pow_right (by decide) (by have := D.top; omega)
  omega
/-- at least the width -/
theorem its_early {ds : List Int} (D : IsDiv ds) : ∀ k, k ≤ ds.length - 2 → ∀ j, j < ds.length - 1 → (its ds k (beg ds)).getD j 0 = if j + k = ds.length - 2 then 1 else 0
  | 0, _, j, hj => by
    show (beg ds).getD j 0 = _
    rw [beg_getD D]
    rfl
  | k + 1, hk, j, hj => by
    have ih := its_early D k (by omega)
    have R := its_row D (beg_row D) k
    show (nxt ds _).getD j 0 = _
    rw [nxt_at D R hj, headD_getD, ih 0 (by omega), if_neg (by omega), Int.zero_mul, Int.add_zero]
    by_cases c : j + 1 < ds.length - 1
    · rw [getD_left (by rw [R.2]; exact c), ih (j + 1) c]
      have z : (j + 1 + k = ds.length - 2) ↔ (j + (k + 1) = ds.length - 2) := by omega
      simp only [z]
      split <;> rfl
    · have z : (its ds k (beg ds) ++ [0]).getD (j + 1) 0 = 0 := by
        rw [List.getD_eq_getElem?_getD, List.getElem?_append_right (by rw [R.2]; omega), R.2, show j + 1 - (ds.length - 1) = 0 by omega]
        rfl
      rw [z, if_neg (by omega)]
      rfl
theorem rch_wide {ds : List Int} (D : IsDiv ds) : ds.length - 1 ≤ rch ds := by
  have h2 := D.two
  have I := (rch_is D).1
  refine Nat.le_of_not_lt fun hlt => ?_
  have hk : rch ds ≤ ds.length - 2 := by omega
  have e := its_early D (rch ds) hk (ds.length - 2) (by omega)
  rw [I.back, beg_getD D, if_pos rfl, if_neg (by have := I.pos; omega)] at e
  exact absurd e (by decide)


/-! ## need_divisor, parted -/
def sp_need_divisor (cs : Cs) : Sp := fun vs H Q E => ∃ (a : Addr) (ds : List Int), vs = [.ref a] ∧ H a = some (.lst (iv ds)) ∧ Bits ds ∧ (ds.headD 0 = 1 → RetV .non H Q) ∧ (ds.headD 0 ≠ 1 → ∀ H', Ex H H' → E (.ref cs.NoDivisor) none H')
theorem has_need_divisor (T : Txt K mg cs) : Has P w K mg base 3 "need_divisor" ["divisor"] (sp_need_divisor cs) := by
  refine T.d_need_divisor.ok sc_need_divisor (fun vs H Q E h => ?_) (fun f cdv A outer s H vs Q E hr h => ?_)
  · obtain ⟨a, ds, rfl, _⟩ := h
    rfl
  · obtain ⟨a, ds, rfl, ha, bd, q1, q2⟩ := h
    refine ⟨_, (pss_cons (ps_expr (pe_callH (has_need_row T) (hr.mono (by decide)) (passes_call (takes_of rfl rfl rfl rfl) (fun _ _ _ _ h => h)) (pa_cons (pv 0) pa_nil)))
      (pss_one (ps_if (PW.pt (pw_or (pt_cmpR op_eqII (pe_callB (kk_len K) (by rfl) T.z_len b_len (pa_cons (pv 0) pa_nil)) pe_int (nomark _)) (pw_or1 (pt_cmpR op_eqII (pe_ix (kk_ixl K) (pv 0) pe_int (fun _ _ => rfl)) pe_int (nomark _))))) (pss_one (ps_raise rfl (takes_of rfl rfl rfl rfl) (pmk_own PySem.F.excBase_ValueError T.e_NoDivisor.x T.e_NoDivisor.g T.e_NoDivisor.k T.e_NoDivisor.r (by exact rfl)))) pss_nil))), ?_⟩
    refine q_dropC (by walk_at "cg ea") fun H1 e1 => ⟨a, ds, rfl, by walk_at "cg hp", bd, fun H2 e2 => ?_⟩
    have e := e1.trans e2
    have c2 : H2 a = some (.lst (iv ds)) := by walk_at "cg hp"
    clear e1 e2
    cases ds with
    | nil =>
      refine s_when (et_or (b := true) (et_test (ev_i0 (ev_lenI (er_var rfl c2)) ev_c)) (fun h => by simp at h)) (fun _ H3 e3 => ?_) (fun h => by simp at h)
      exact q2 (by decide) H3 (e.trans e3)
    | cons d r =>
      have g : (d :: r)[0]? = some d := rfl
      refine s_when (et_or (et_test (ev_i0 (ev_lenI (er_var rfl c2)) ev_c)) (fun _ => et_test (ev_i0 (ev_ixI (er_var rfl c2) ev_c (atI_nat (j := 0) g)) ev_c))) (fun hb H3 e3 => ?_) (fun hb H3 e3 => ?_)
      · refine q2 (fun h => ?_) H3 (e.trans e3)
        have h' : d = 1 := h
        subst h'
        rw [Bool.or_eq_true, decide_eq_true_eq, decide_eq_true_eq, List.length_cons] at hb
        omega
      · refine q1 ?_ H3 (e.trans e3)
        show d = 1
        rw [Bool.or_eq_false_iff, decide_eq_false_iff_not, decide_eq_false_iff_not] at hb
        have := bd d List.mem_cons_self
        omega
def RetQ (xs ys : List Int) (H : Hp) (Q : VK) : Prop := ∀ p a b H2, Ex H H2 → H a = none → H b = none → a ≠ b → H2 p = some (.tup [.ref a, .ref b]) → H2 a = some (.lst (iv xs)) → H2 b = some (.lst (iv ys)) → Q (.ref p) H2
def sp_parted (cs : Cs) : Sp := fun vs H Q E => ∃ (a b : Addr) (xs ds : List Int), vs = [.ref a, .ref b] ∧ H a = some (.lst (iv xs)) ∧ H b = some (.lst (iv ds)) ∧ Bits xs ∧ Bits ds ∧ xs.length ≤ 10000 ∧ ds.length ≤ 1000 ∧
  (ds.headD 0 = 1 → RetQ ((prun ds xs).1.drop (ds.length - 1)) (prun ds xs).2 H Q) ∧ (ds.headD 0 ≠ 1 → ∀ H', Ex H H' → E (.ref cs.NoDivisor) none H')
theorem has_parted (T : Txt K mg cs) : Has P w K mg base 4 "parted" ["row", "divisor"] (sp_parted cs) := by
  refine T.d_parted.ok sc_parted (fun vs H Q E h => ?_) (fun f cdv A outer s H vs Q E hr h => ?_)
  · obtain ⟨a, b, xs, ds, rfl, _⟩ := h
    rfl
  · obtain ⟨a, b, xs, ds, rfl, ha, hb, bx, bd, lx, ld, q1, q2⟩ := h
    refine ⟨_, (pss_cons (ps_expr (pe_callH (has_need_row T) (hr.mono (by decide)) (passes_call (takes_of rfl rfl rfl rfl) (fun _ _ _ _ h => h)) (pa_cons (pv 0) pa_nil)))
      (pss_cons (ps_expr (pe_callH (has_need_divisor T) (hr.mono (by decide)) (passes_call (takes_of rfl rfl rfl rfl) (fun _ _ _ _ h => h)) (pa_cons (pv 1) pa_nil)))
      (pss_cons (ps_set (i := 2) sc_parted.nd rfl (Or.inl rfl) (pe_op op_sub (pe_callB (kk_len K) (by rfl) T.z_len b_len (pa_cons (pv 1) pa_nil)) pe_int))
      (pss_cons (ps_set (i := 3) sc_parted.nd rfl (Or.inl rfl) (pe_op op_rep (pe_lst (pa_cons pe_int pa_nil)) (pv 2)))
      (pss_cons (ps_set (i := 4) sc_parted.nd rfl (Or.inl rfl) (pe_lst pa_nil))
      (pss_cons (ps_for (passes_of rfl) rfl (pi_list (pv 0)) (pg_name (i := 5) sc_parted.nd rfl (Or.inl rfl)) (pss_cons (ps_set (i := 6) sc_parted.nd rfl (Or.inl rfl) (pe_op op_cat (pv 3) (pe_lst (pa_cons (pv 5) pa_nil))))
      (pss_cons (ps_expr (pe_bm PySem.F.plainAttrs_list PySem.F.slot_list_append PySem.F.type_list_append mt_append (pv 4) (pa_cons (pe_ix (kk_ixl K) (pv 6) pe_int (fun _ _ => rfl)) pa_nil)))
      (pss_one (ps_set (i := 3) sc_parted.nd rfl (Or.inl rfl) (pe_callH (has_reduced T) (hr.mono (by decide)) (passes_call (takes_of rfl rfl rfl rfl) (fun _ _ _ _ h => h)) (pa_cons (pv 6) (pa_cons (pv 1) pa_nil))))))))
      (pss_one (ps_ret (pe_tup (pa_cons (pe_slice (kk_sl K) (pv 4) (po_some (pv 2)) po_none) (pa_cons (pv 3) pa_nil))))))))))), ?_⟩
    refine q_dropC (by walk_at "cg ea") fun H1 e1 => ⟨a, xs, rfl, by walk_at "cg hp", bx, fun H2 e2 => ?_⟩
    refine q_dropC (by walk_at "cg ea") fun H3 e3 => ⟨b, ds, rfl, by walk_at "cg hp", bd, fun h0 H4 e4 => ?_, fun h0 H4 e4 => q2 h0 H4 (((e1.trans e2).trans e3).trans e4)⟩
    have e : Ex H H4 := ((e1.trans e2).trans e3).trans e4
    clear e1 e2 e3 e4
    have hp : 0 < ds.length := by
      cases ds with
      | nil => cases h0
      | cons d r => exact Nat.succ_pos _
    refine q_asg (ev_is (v := .int ((ds.length : Int) - 1)) (w := .int ((ds.length - 1 : Nat) : Int)) (by walk_at "cg ev") (congrArg V.int (by omega))) fun H5 e5 => ?_
    refine q_asgL (xs := iv (List.replicate (ds.length - 1) 0)) (el_repN ev_c (ev_var rfl) (by omega)) fun p H6 n6 e6 h6 => ?_
    refine q_asgL el_nilI fun l H7 n7 e7 h7 => ?_
    have nl : H l = none := fresh_back ((e.trans e5).trans e6) n7
    refine q_forLn (ev_var rfl) (by walk_at "cg sq") (fun i σ' H' => Ex H H' ∧ H' l = some (.lst (iv (prun ds (xs.take i)).1)) ∧ ∃ (p : Addr) (v v' : Option V), σ' = [some (.ref a), some (.ref b), some (.int (ds.length - 1 : Nat)), some (.ref p), some (.ref l), v, v'] ∧ H p = none ∧ p ≠ l ∧ H' p = some (.lst (iv (prun ds (xs.take i)).2))) ?_ (fun i σ' H' _ h => sq_of (h.1 _ _ ha)) ?_ ?_
    · intro H8 e8
      refine ⟨(((e.trans e5).trans e6).trans e7).trans e8, e8 _ _ h7, p, none, none, rfl, fresh_back (e.trans e5) n6, ne_of_none h6 n7, ?_⟩
      rw [e8 _ _ (e7 _ _ h6)]
      rfl
    · rintro i x σ' H' hx ⟨e', hl, p, v, v', rfl, np, npl, hpp⟩
      obtain ⟨n, hn, rfl⟩ := iv_at hx
      have L := prun_len hp (xs.take i)
      have B := prun_bits bd (bx.take i)
      have bn := bx.get hn
      have step : prun ds (xs.take (i + 1)) = pstep ds (prun ds (xs.take i)) n := by
        rw [List.take_add_one, hn]
        exact prun_snoc _ _ _
      refine q_asgL (xs := iv ((prun ds (xs.take i)).2 ++ [n])) (el_catI (er_var rfl hpp) (er_L (el_oneI (by walk_at "cg ev"))) (by rw [L.2, List.length_singleton]; omega)) fun m H8 n8 e8 h8 => ?_
      have nml : m ≠ l := fun z => by rw [z, hl] at n8; cases n8
      have llen : ((prun ds (xs.take i)).2 ++ [n]).length = ds.length := by rw [List.length_append, L.2]; show _ + 1 = _; omega
      have g := head_at (xs := (prun ds (xs.take i)).2 ++ [n]) (by omega)
      refine q_appI nl (e'.trans e8) (e8 _ _ hl) (ev_var rfl) (ev_ixI (er_var rfl h8) ev_c (atI_nat (j := 0) g)) (by rw [L.1, List.length_take]; omega) fun H9 e9 k9 h9 => ?_
      have c8 : H9 m = some (.lst (iv ((prun ds (xs.take i)).2 ++ [n]))) := k9 _ _ nml h8
      refine s_asgC (by walk_at "cg ea") fun H10 e10 => ⟨m, b, (prun ds (xs.take i)).2 ++ [n], ds, rfl, e10 _ _ c8, e10 _ _ (e9 _ _ hb), B.2.append (.one bn), bd, llen, by omega, by omega, fun p2 H11 n11 e11 h11 => ?_⟩
      refine ⟨(e9.trans e10).trans e11, ?_, p2, _, _, rfl, fresh_back (e9.trans e10) n11, fun z => ?_, ?_⟩
      · rw [step]
        exact e11 _ _ (e10 _ _ h9)
      · rw [z, e10 _ _ h9] at n11
        cases n11
      · rw [step]
        exact h11
    · rintro σ' H' ⟨e', hl, p, v, v', rfl, np, npl, hpp⟩
      rw [iv_len, List.take_length] at hl hpp
      have L := prun_len hp xs
      have slc : EvL (tSl (rSlL K) (tVar 4) (tPart (tVar 2)) tNoPart) [some (V.ref a), some (.ref b), some (.int (ds.length - 1 : Nat)), some (.ref p), some (.ref l), v, v'] H' (iv ((prun ds xs).1.drop (ds.length - 1))) := el_slFromI (n := ((ds.length - 1 : Nat) : Int)) (er_var rfl hl) (ev_var rfl) (by omega)
      refine slc H' (Ex.refl H') _ fun m H8 n8 e8 h8 => ?_
      refine ⟨_, rfl, by show 2 ≤ 2 ^ 24; decide, fun t ht => ?_⟩
      have npm : m ≠ p := fun z => by rw [z, hpp] at n8; cases n8
      exact q1 h0 t m p _ ((e'.trans e8).trans (Ex.new ht)) (fresh_back e' n8) np npm upd_same (Ex.new ht _ _ h8) (Ex.new ht _ _ (e8 _ _ hpp))


/-! ## _law_step_by -/
def addM (xs ys : List Int) : List Int := List.zipWith (fun a b => (a + b) % 2) xs ys
theorem addM_eq : ∀ {xs ys : List Int}, Bits xs → Bits ys → addM xs ys = xorR xs ys
  | [], _, _, _ => rfl
  | _ :: _, [], _, _ => rfl
  | x :: xs, y :: ys, hx, hy => by
    show (x + y) % 2 :: addM xs ys = Builtin.bitXor x y :: xorR xs ys
    rw [addM_eq (xs := xs) (ys := ys) (fun z k => hx z (List.mem_cons_of_mem _ k)) (fun z k => hy z (List.mem_cons_of_mem _ k)), xor_bit (hx x List.mem_cons_self) (hy y List.mem_cons_self)]
theorem el_lcAdd {K : PySem.W.Frag} {ta tb : TE} {σ : L2.St} {H : Hp} {i j : Nat} {vs : List Nat} {te : TE} {xs ys : List Int} (ha : EvR ta σ H (iv xs)) (hb : EvR tb σ H (iv ys)) (hz : xs.length ≤ 1000000) (hw : ∀ x y, wipe (((wipe σ vs).set i (some x)).set j (some y)) vs = wipe σ vs)
    (he : ∀ (x y : Int) H1, Ev te (((wipe σ vs).set i (some (.int x))).set j (some (.int y))) H1 (.int ((x + y) % 2))) :
    EvL (tLc (iZip K (tCons ta (tCons tb tNil))) (gTup K 2 (gCons (gName i) (gCons (gName j) gNil))) tYes te vs) σ H (iv (addM xs ys)) := by
  refine el_is (el_lcZip (fun x y => match x, y with | .int a, .int b => .int ((a + b) % 2) | _, _ => .non) ha hb (by rw [iv_len]; exact hz) hw (fun k x y H1 e hx hy => ?_)) ?_
  · obtain ⟨n, _, rfl⟩ := iv_at hx
    obtain ⟨m, _, rfl⟩ := iv_at hy
    exact he n m H1
  · unfold addM iv
    rw [List.zipWith_map, List.map_zipWith]
theorem step_red {L ds : List Int} (hL : Bits L) (hd : Bits ds) : (if L.headD 0 = 1 then addM L ds else L).tail = redR L ds := by
  unfold redR
  rcases headD_bit hL with h | h
  · rw [h, if_neg (by decide), if_pos rfl]
  · rw [h, if_pos rfl, if_neg (by decide), addM_eq hL hd]
    cases L with
    | nil => rfl
    | cons x r => cases ds with
      | nil =>
        show ([] : List Int) = xorR r []
        unfold xorR
        rw [List.zipWith_nil_right]
      | cons y s => rfl
def sp__law_step_by : Sp := fun vs H Q _ => ∃ (a b : Addr) (R ds : List Int) (s : Int), vs = [.ref a, .int s, .ref b] ∧ H a = some (.lst (iv R)) ∧ H b = some (.lst (iv ds)) ∧ Bits R ∧ Bits ds ∧ (s = 0 ∨ s = 1) ∧ R.length ≤ 1000 ∧ RetL (iv (redR (R ++ [s]) ds)) H Q
theorem has__law_step_by (T : Txt K mg cs) : Has P w K mg base 1 "_law_step_by" ["_law_rest", "_law_sign", "_law_divisor"] sp__law_step_by := by
  refine T.d__law_step_by.ok sc__law_step_by (fun vs H Q E h => ?_) (fun f cdv A outer s H vs Q E hr h => ?_)
  · obtain ⟨a, b, R, ds, s, rfl, _⟩ := h
    rfl
  · obtain ⟨a, b, R, ds, s, rfl, ha, hb, bR, bd, bs, lR, q⟩ := h
    refine ⟨_, (pss_cons (ps_set (i := 3) sc__law_step_by.nd rfl (Or.inl rfl) (pe_op op_cat (pv 0) (pe_lst (pa_cons (pv 1) pa_nil))))
      (pss_cut (ps_if (pt_cmpR op_eqII (pe_ix (kk_ixl K) (pv 3) pe_int (fun _ _ => rfl)) pe_int (nomark _)) (pss_one (ps_setLc (i := 3) (own := [("_law_a", 4), ("_law_b", 5)]) (g := gTup K 2 (gCons (gName 4) (gCons (gName 5) gNil))) (tt := tYes) rfl sc__law_step_by.nd rfl rfl (sw_true rfl rfl rfl (by decide +kernel)) (pi_zip (by rfl) T.z_zip (pa_cons (pv 3) (pa_cons (pv 2) pa_nil))) (blkOk_by (own := [("_law_a", 4), ("_law_b", 5)]) (N := N__law_step_by) (sc := defScope s__law_step_by) (by decide +kernel)) (fun _ _ _ _ _ => pg_tup rfl (pgs_cons (pg_name (i := 4) sc__law_step_by.nd rfl (Or.inl rfl)) (pgs_cons (pg_name (i := 5) sc__law_step_by.nd rfl (Or.inl rfl)) pgs_nil))) (fun _ _ _ _ _ => pts_nil) (fun _ _ _ _ _ => (pe_op op_mod (pe_op op_add (pv 4) (pv 5)) pe_int)))) pss_nil)
      (pss_one (ps_ret (pe_slice (kk_sl K) (pv 3) (po_some pe_int) po_none))))), ?_⟩
    have bL : Bits (R ++ [s]) := bR.append (.one bs)
    have hp : 0 < (R ++ [s]).length := by rw [List.length_append]; show 0 < _ + 1; omega
    have lL : (R ++ [s]).length ≤ 2000 := by rw [List.length_append]; show _ + 1 ≤ _; omega
    refine q_asgL (xs := iv (R ++ [s])) (el_catI (er_var rfl ha) (er_L (el_oneI (ev_var rfl))) (by rw [List.length_singleton]; omega)) fun p H1 n1 e1 h1 => ?_
    refine q_cut (M := fun σ' H' => ∃ p, σ' = [some (.ref a), some (.int s), some (.ref b), some (.ref p), none, none] ∧ Ex H H' ∧ H p = none ∧ H' p = some (.lst (iv (if (R ++ [s]).headD 0 = 1 then addM (R ++ [s]) ds else R ++ [s])))) ?_ ?_
    · refine s_when (et_test (ev_i0 (ev_ixI (er_var rfl h1) ev_c (atI_nat (j := 0) (head_at hp))) ev_c)) (fun hc H2 e2 => ?_) (fun hc H2 e2 => ⟨p, rfl, e1.trans e2, n1, ?_⟩)
      · refine s_asgL (el_lcAdd (xs := R ++ [s]) (ys := ds) (er_var rfl (e2 _ _ h1)) (by walk_at "cg er") (by omega) (fun _ _ => rfl) (fun x y H3 => by walk_at "cg ev")) fun p2 H3 n3 e3 h3 => ⟨p2, rfl, (e1.trans e2).trans e3, fresh_back (e1.trans e2) n3, ?_⟩
        rw [if_pos (of_decide_eq_true hc)]
        exact h3
      · rw [if_neg (of_decide_eq_false hc)]
        exact e2 _ _ h1
    · rintro σ' H' ⟨p2, rfl, e, n2, h2⟩
      refine s_retL (el_is (el_slFromI (n := 1) (er_var rfl h2) ev_c (by decide)) ?_) fun p3 H3 n3 e3 h3 => q p3 H3 (fresh_back e n3) (e.trans e3) h3
      rw [← step_red bL bd]
      exact congrArg iv List.drop_one


/-! ## _law_divisor_by: some divisor of a gate -/
def sp__law_divisor_by : Sp := fun vs H Q _ => ∃ (c n : Int), vs = [.int c, .int n] ∧ ∀ ds, IsDiv ds → RetL (iv ds) H Q
theorem isDiv_of {ks : List Int} (h : Bits ks) (hl : ks.length ≤ 11) : IsDiv ([1] ++ ks ++ [1]) where
  bits := ((Bits.one (.inr rfl)).append h).append (.one (.inr rfl))
  two := by rw [List.length_append, List.length_append]; show 2 ≤ 1 + _ + 1; omega
  top := by rw [List.length_append, List.length_append]; show 1 + _ + 1 ≤ 13; omega
  head := rfl
  last := by
    have l : ([1] ++ ks ++ [1] : List Int).length = ([1] ++ ks : List Int).length + 1 := List.length_append
    rw [l, Nat.add_sub_cancel, List.getD_eq_getElem?_getD, List.getElem?_append_right (Nat.le_refl _), Nat.sub_self]
    rfl
theorem has__law_divisor_by (T : Txt K mg cs) : Has P w K mg base 1 "_law_divisor_by" ["_law_cell", "_law_bits"] sp__law_divisor_by := by
  refine T.d__law_divisor_by.ok sc__law_divisor_by (fun vs H Q E h => ?_) (fun f cdv A outer s H vs Q E hr h => ?_)
  · obtain ⟨c, n, rfl, _⟩ := h
    rfl
  · obtain ⟨c, n, rfl, q⟩ := h
    refine ⟨_, (pss_cons (ps_set (i := 2) sc__law_divisor_by.nd rfl (Or.inl rfl) (pe_op op_add pe_int (pe_op op_mod (pv 0) pe_int)))
      (pss_cut (ps_if (pt_cmpR op_eqII (pe_op op_mod (pe_op op_fdiv (pv 0) pe_int) pe_int) pe_int (nomark _)) (pss_one (ps_set (i := 2) sc__law_divisor_by.nd rfl (Or.inl rfl) (pe_op op_add pe_int (pe_op op_mod (pe_op op_fdiv (pv 0) pe_int) pe_int)))) pss_nil)
      (pss_cut (ps_if (pt_cmpR op_eqII (pe_op op_mod (pe_op op_fdiv (pv 0) pe_int) pe_int) pe_int (nomark _)) (pss_one (ps_set (i := 2) sc__law_divisor_by.nd rfl (Or.inl rfl) (pe_op op_add pe_int (pe_op op_mod (pe_op op_fdiv (pv 0) pe_int) pe_int)))) pss_nil)
      (pss_cons (ps_set (i := 3) sc__law_divisor_by.nd rfl (Or.inl rfl) (pe_lst pa_nil))
      (pss_cons (ps_for (passes_of rfl) rfl (pi_range1 (by rfl) T.z_range (pa_cons (pe_op op_sub (pv 2) pe_int) pa_nil)) (pg_name (i := 4) sc__law_divisor_by.nd rfl (Or.inl rfl)) (pss_cons (ps_expr (pe_bm PySem.F.plainAttrs_list PySem.F.slot_list_append PySem.F.type_list_append mt_append (pv 3) (pa_cons (pe_op op_mod (pv 1) pe_int) pa_nil)))
      (pss_one (ps_set (i := 1) sc__law_divisor_by.nd rfl (Or.inl rfl) (pe_op op_fdiv (pv 1) pe_int)))))
      (pss_one (ps_ret (pe_op op_cat (pe_op op_cat (pe_lst (pa_cons pe_int pa_nil)) (pv 3)) (pe_lst (pa_cons pe_int pa_nil)))))))))), ?_⟩
    refine q_asg (by walk_at "cg ev") fun H1 e1 => ?_
    refine q_cut (M := fun σ' H' => ∃ (d : Int), σ' = [some (.int c), some (.int n), some (.int d), none, none] ∧ (1 ≤ d ∧ d ≤ 12) ∧ Ex H H') ?_ ?_
    · refine s_when (by walk_at "cg et") (fun _ H2 e2 => ?_) (fun _ H2 e2 => ⟨_, rfl, by omega, e1.trans e2⟩)
      exact s_asg (by walk_at "cg ev") fun H3 e3 => ⟨_, rfl, by omega, (e1.trans e2).trans e3⟩
    clear e1
    rintro σ' H2 ⟨d, rfl, hd, e2⟩
    refine q_cut (M := fun σ' H' => ∃ (d : Int), σ' = [some (.int c), some (.int n), some (.int d), none, none] ∧ (1 ≤ d ∧ d ≤ 12) ∧ Ex H H') ?_ ?_
    · refine s_when (by walk_at "cg et") (fun _ H3 e3 => ?_) (fun _ H3 e3 => ⟨_, rfl, hd, e2.trans e3⟩)
      exact s_asg (by walk_at "cg ev") fun H4 e4 => ⟨_, rfl, by omega, (e2.trans e3).trans e4⟩
    clear e2 hd
    rintro σ' H3 ⟨d, rfl, hd, e3⟩
    refine q_asgL el_nilI fun p H4 n4 e4 h4 => ?_
    have np : H p = none := fresh_back e3 n4
    refine q_forR1 (n := d - 1) (by walk_at "cg ea") (by omega) (fun i σ' H' => ∃ (m : Int) (ks : List Int) (v : Option V), σ' = [some (.int c), some (.int m), some (.int d), some (.ref p), v] ∧ Bits ks ∧ ks.length = i ∧ Ex H H' ∧ H' p = some (.lst (iv ks))) ?_ ?_ ?_
    · exact fun H5 e5 => ⟨n, [], none, rfl, .nil, rfl, (e3.trans e4).trans e5, e5 _ _ h4⟩
    · rintro i σ' H' hi ⟨m, ks, v, rfl, bk, lk, e, hp⟩
      refine q_appI np e hp (ev_var rfl) (by walk_at "cg ev") (by omega) fun H5 e5 _ h5 => ?_
      exact s_asg (by walk_at "cg ev") fun H6 e6 => ⟨_, _, _, rfl, bk.append (.one (bit_mod _)), by rw [List.length_append, lk]; rfl, e5.trans e6, e6 _ _ h5⟩
    · rintro σ' H' ⟨m, ks, v, rfl, bk, lk, e, hp⟩
      refine s_retL (el_catI (xs := [1] ++ ks) (ys := [1]) (er_L (el_catI (xs := [1]) (er_L (el_oneI ev_c)) (er_var rfl hp) (by show 1 + _ ≤ _; omega))) (er_L (el_oneI ev_c)) (by rw [List.length_append]; show 1 + _ + 1 ≤ _; omega)) fun p2 H5 n5 e5 h5 => ?_
      exact q _ (isDiv_of bk (by omega)) p2 H5 (fresh_back e n5) (e.trans e5) h5


/-! ## need_gate_divisor, reach -/
def sp_need_gate_divisor (cs : Cs) : Sp := fun vs H Q E => ∃ (b : Addr) (ds : List Int), vs = [.ref b] ∧ H b = some (.lst (iv ds)) ∧ Bits ds ∧ (IsDiv ds → RetV .non H Q) ∧ (¬ IsDiv ds → ∀ H', Ex H H' → E (.ref cs.NoDivisor) none H')
theorem last_at {ds : List Int} (h : 0 < ds.length) : atI ds (-1) = some (ds.getD (ds.length - 1) 0) := by
  have ne : ds ≠ [] := fun e => by rw [e] at h; cases h
  have e : ds = ds.dropLast ++ [ds.getLast ne] := (List.dropLast_concat_getLast ne).symm
  have g : ds.getD (ds.length - 1) 0 = ds.getLast ne := by
    rw [List.getD_eq_getElem?_getD, ← List.getLast?_eq_getElem?, List.getLast?_eq_getLast ne]
    rfl
  rw [g]
  conv => lhs; rw [e]
  exact atI_last _ _
theorem has_need_gate_divisor (T : Txt K mg cs) : Has P w K mg base 3 "need_gate_divisor" ["divisor"] (sp_need_gate_divisor cs) := by
  refine T.d_need_gate_divisor.ok sc_need_gate_divisor (fun vs H Q E h => ?_) (fun f cdv A outer s H vs Q E hr h => ?_)
  · obtain ⟨b, ds, rfl, _⟩ := h
    rfl
  · obtain ⟨b, ds, rfl, hb, bd, q1, q2⟩ := h
    refine ⟨_, (pss_cons (ps_expr (pe_callH (has_need_row T) (hr.mono (by decide)) (passes_call (takes_of rfl rfl rfl rfl) (fun _ _ _ _ h => h)) (pa_cons (pv 0) pa_nil)))
      (pss_cons (ps_if (PW.pt (pw_or (pt_cmpR op_lt (pe_callB (kk_len K) (by rfl) T.z_len b_len (pa_cons (pv 0) pa_nil)) (pe_globI T.g_FEWEST_SIGNS) (nomark _)) (pw_or1 (pt_cmpR op_gt (pe_callB (kk_len K) (by rfl) T.z_len b_len (pa_cons (pv 0) pa_nil)) (pe_globI T.g_MOST_SIGNS) (nomark _))))) (pss_one (ps_raise rfl (takes_of rfl rfl rfl rfl) (pmk_own PySem.F.excBase_ValueError T.e_NoDivisor.x T.e_NoDivisor.g T.e_NoDivisor.k T.e_NoDivisor.r (by exact rfl)))) pss_nil)
      (pss_one (ps_if (PW.pt (pw_or (pt_cmpR op_eqII (pe_ix (kk_ixl K) (pv 0) pe_int (fun _ _ => rfl)) pe_int (nomark _)) (pw_or1 (pt_cmpR op_eqII (pe_ix (kk_ixl K) (pv 0) (pe_un un_neg pe_int) (fun _ _ => rfl)) pe_int (nomark _))))) (pss_one (ps_raise rfl (takes_of rfl rfl rfl rfl) (pmk_own PySem.F.excBase_ValueError T.e_NoDivisor.x T.e_NoDivisor.g T.e_NoDivisor.k T.e_NoDivisor.r (by exact rfl)))) pss_nil)))), ?_⟩
    refine q_dropC (by walk_at "cg ea") fun H1 e1 => ⟨b, ds, rfl, by walk_at "cg hp", bd, fun H2 e2 => ?_⟩
    have c2 : H2 b = some (.lst (iv ds)) := by walk_at "cg hp"
    have e := e1.trans e2
    clear e1 e2
    refine q_when (et_or (et_test (ev_i0 (ev_lenI (er_var rfl c2)) ev_c)) (fun _ => et_test (ev_i0 (ev_lenI (er_var rfl c2)) ev_c))) (fun hc H3 e3 => ?_) (fun hc H3 e3 => ?_)
    · refine q2 (fun D => ?_) H3 (e.trans e3)
      have := D.two
      have := D.top
      rw [Bool.or_eq_true, decide_eq_true_eq, decide_eq_true_eq] at hc
      omega
    · rw [Bool.or_eq_false_iff, decide_eq_false_iff_not, decide_eq_false_iff_not] at hc
      have hp : 0 < ds.length := by omega
      have c3 := e3 _ _ c2
      refine s_when (et_or (et_test (ev_i0 (ev_ixI (er_var rfl c3) ev_c (atI_nat (j := 0) (head_at hp))) ev_c)) (fun _ => et_test (ev_i0 (ev_ixI (er_var rfl c3) (ev_un ev_c ru_neg) (last_at hp)) ev_c))) (fun hc2 H4 e4 => ?_) (fun hc2 H4 e4 => ?_)
      · refine q2 (fun D => ?_) H4 ((e.trans e3).trans e4)
        rw [Bool.or_eq_true, decide_eq_true_eq, decide_eq_true_eq, D.head, D.last] at hc2
        omega
      · refine q1 ?_ H4 ((e.trans e3).trans e4)
        rw [Bool.or_eq_false_iff, decide_eq_false_iff_not, decide_eq_false_iff_not] at hc2
        have b1 := headD_bit bd
        have b2 := bit_getD bd (ds.length - 1)
        exact ⟨bd, by omega, by omega, by omega, by omega⟩
theorem red1_at {ds R : List Int} (D : IsDiv ds) (h : RowOf (ds.length - 1) R) {j : Nat} (hj : j < ds.length - 1) : (redR (R ++ [1]) ds).getD j 0 = ((nxt ds R).getD j 0 + if j = ds.length - 2 then 1 else 0) % 2 := by
  have h2 := D.two
  have hl : (R ++ [1]).length = ds.length := by
    rw [List.length_append, h.2]
    show _ + 1 = _
    omega
  have bl : Bits (R ++ [1]) := h.1.append (.one (.inr rfl))
  have st := step_at hl D.head bl D.bits (by omega) (j + 1) (by omega)
  have hh : (R ++ [1]).headD 0 = R.headD 0 := by
    cases R with
    | nil => exact absurd h.2 (by show ¬ 0 = _; omega)
    | cons x r => rfl
  rw [if_pos (by omega), Nat.add_sub_cancel, hh] at st
  rw [nxt_at D h hj]
  have b1 := bit_getD (redR_bits bl D.bits) j
  have b4 := headD_bit h.1
  have b3 := bit_getD D.bits (j + 1)
  by_cases c : j = ds.length - 2
  · have z1 : (R ++ [1]).getD (j + 1) 0 = 1 := by
      rw [List.getD_eq_getElem?_getD, List.getElem?_append_right (by rw [h.2]; omega), h.2, show j + 1 - (ds.length - 1) = 0 by omega]
      rfl
    have z0 : (R ++ [0]).getD (j + 1) 0 = 0 := by
      rw [List.getD_eq_getElem?_getD, List.getElem?_append_right (by rw [h.2]; omega), h.2, show j + 1 - (ds.length - 1) = 0 by omega]
      rfl
    rw [z1] at st
    rw [z0, if_pos c]
    rcases b1 with a | a <;> rcases b3 with c | c <;> rcases b4 with d | d <;> rw [a, c, d] at st <;> rw [a, c, d] <;> first | rfl | exact absurd st (by decide)
  · rw [getD_left (by rw [h.2]; omega)] at st
    rw [getD_left (by rw [h.2]; omega), if_neg c]
    have b2 := bit_getD h.1 (j + 1)
    rcases b1 with a | a <;> rcases b2 with b | b <;> rcases b3 with c | c <;> rcases b4 with d | d <;> rw [a, b, c, d] at st <;> rw [a, b, c, d] <;> first | rfl | exact absurd st (by decide)
theorem red1_row {ds R : List Int} (D : IsDiv ds) (h : RowOf (ds.length - 1) R) : RowOf (ds.length - 1) (redR (R ++ [1]) ds) := by
  have h2 := D.two
  have hl : (R ++ [1]).length = ds.length := by
    rw [List.length_append, h.2]
    show _ + 1 = _
    omega
  exact ⟨redR_bits (h.1.append (.one (.inr rfl))) D.bits, by rw [redR_len hl, hl]⟩
theorem no_yes {w : Nat} {R : List Int} (h : RowOf w R) : ¬ (1 : Int) ∈ R ↔ R = List.replicate w 0 := by
  constructor
  · intro hn
    refine row_ext h ⟨.rep _ (.inl rfl), List.length_replicate⟩ fun j hj => ?_
    rw [zer_getD]
    rcases bit_getD h.1 j with e | e
    · exact e
    · refine absurd ?_ hn
      have hj' : j < R.length := by rw [h.2]; exact hj
      rw [List.getD_eq_getElem?_getD, List.getElem?_eq_getElem hj'] at e
      rw [← (show R[j] = 1 from e)]
      exact List.getElem_mem _
  · intro e hm
    rw [e] at hm
    exact absurd (List.mem_replicate.mp hm).2 (by decide)
theorem red1_zero {ds R : List Int} (D : IsDiv ds) (h : RowOf (ds.length - 1) R) : ¬ (1 : Int) ∈ redR (R ++ [1]) ds ↔ nxt ds R = beg ds := by
  rw [no_yes (red1_row D h)]
  have h2 := D.two
  constructor
  · intro e
    refine row_ext (nxt_row D h) (beg_row D) fun j hj => ?_
    have a := red1_at D h hj
    rw [e, zer_getD] at a
    rw [beg_getD D]
    have b := bit_getD (nxt_row D h).1 j
    split <;> rename_i c
    · rw [if_pos c] at a
      omega
    · rw [if_neg c] at a
      omega
  · intro e
    refine row_ext (red1_row D h) ⟨.rep _ (.inl rfl), List.length_replicate⟩ fun j hj => ?_
    rw [red1_at D h hj, e, beg_getD D, zer_getD]
    split <;> rfl
theorem prun_one {ds : List Int} (D : IsDiv ds) : (prun ds [1]).2 = beg ds := by
  have h2 := D.two
  show redR (List.replicate (ds.length - 1) 0 ++ [1]) ds = beg ds
  unfold redR beg
  rw [show ds.length - 1 = (ds.length - 2) + 1 by omega, List.replicate_succ]
  rfl
def sp_reach (cs : Cs) : Sp := fun vs H Q E => ∃ (b : Addr) (ds : List Int), vs = [.ref b] ∧ H b = some (.lst (iv ds)) ∧ Bits ds ∧ (IsDiv ds → RetV (.int (rch ds : Nat)) H Q) ∧ (¬ IsDiv ds → ∀ H', Ex H H' → E (.ref cs.NoDivisor) none H')
theorem has_reach (T : Txt K mg cs) : Has P w K mg base 5 "reach" ["divisor"] (sp_reach cs) := by
  refine T.d_reach.ok sc_reach (fun vs H Q E h => ?_) (fun f cdv A outer s H vs Q E hr h => ?_)
  · obtain ⟨b, ds, rfl, _⟩ := h
    rfl
  · obtain ⟨b, ds, rfl, hb, bd, q1, q2⟩ := h
    refine ⟨_, (pss_cons (ps_expr (pe_callH (has_need_gate_divisor T) (hr.mono (by decide)) (passes_call (takes_of rfl rfl rfl rfl) (fun _ _ _ _ h => h)) (pa_cons (pv 0) pa_nil)))
      (pss_cons (ps_set (i := 1) sc_reach.nd rfl (Or.inl rfl) pe_int)
      (pss_cons (ps_asg (pe_callH (has_parted T) (hr.mono (by decide)) (passes_call (takes_of rfl rfl rfl rfl) (fun _ _ _ _ h => h)) (pa_cons (pe_lst (pa_cons pe_int pa_nil)) (pa_cons (pv 0) pa_nil))) (pg_tup rfl (pgs_cons (pg_name (i := 2) sc_reach.nd rfl (Or.inl rfl)) (pgs_cons (pg_name (i := 3) sc_reach.nd rfl (Or.inl rfl)) pgs_nil))))
      (pss_cons (ps_while (passes_of rfl) (pt_cmpR (kk_in K) pe_int (pe_callH (has_reduced T) (hr.mono (by decide)) (passes_call (takes_of rfl rfl rfl rfl) (fun _ _ _ _ h => h)) (pa_cons (pe_op op_cat (pv 3) (pe_lst (pa_cons pe_int pa_nil))) (pa_cons (pv 0) pa_nil))) rfl) (pss_cons (ps_set (i := 3) sc_reach.nd rfl (Or.inl rfl) (pe_callH (has_reduced T) (hr.mono (by decide)) (passes_call (takes_of rfl rfl rfl rfl) (fun _ _ _ _ h => h)) (pa_cons (pe_op op_cat (pv 3) (pe_lst (pa_cons pe_int pa_nil))) (pa_cons (pv 0) pa_nil))))
      (pss_one (ps_aug (i := 1) sc_reach.nd rfl (Or.inl rfl) pe_int ip_add))))
      (pss_one (ps_ret (pv 1))))))), ?_⟩
    refine q_dropC (by walk_at "cg ea") fun H1 e1 => ⟨b, ds, rfl, by walk_at "cg hp", bd, fun D H2 e2 => ?_, fun D H2 e2 => q2 D H2 (e1.trans e2)⟩
    have h2 := D.two
    have ht := D.top
    have I := rch_is D
    refine q_asg ev_c fun H3 e3 => ?_
    refine q_asgG (call_go ((eap_er (er_L (el_oneI (n := 1) ev_c)) (eap_ev (ev_var rfl) eap_nil)) H3 (Ex.refl H3) _ fun vs H4 e4 hv => ?_))
    obtain ⟨p, _, rfl, hp, _, rfl, rfl⟩ := hv
    have c4 : H4 b = some (.lst (iv ds)) := by walk_at "cg hp"
    have e := ((e1.trans e2).trans e3).trans e4
    clear e1 e2 e3 e4
    refine ⟨p, b, [1], ds, rfl, hp, c4, .one (.inr rfl), bd, by decide, by omega, fun _ pt pq pr H5 e5 _ _ _ ht5 _ hr5 => ?_, fun h => absurd D.head h⟩
    rw [prun_one D] at hr5
    refine tup2_go (st_of ht5) ?_
    refine q_while (fun m σ' H' => Ex H H' ∧ ∃ (k : Nat) (p2 : Addr) (v : Option V), k + m = rch ds ∧ 1 ≤ m ∧ σ' = [some (.ref b), some (.int ((k : Int) + 1)), v, some (.ref p2)] ∧ H' p2 = some (.lst (iv (its ds k (beg ds))))) (rch ds) ⟨e.trans e5, 0, pr, _, Nat.zero_add _, I.1.pos, rfl, hr5⟩ ?_
    rintro m σ' H' ⟨e', k, p2, v, hk, hm, rfl, hp2⟩
    have R := its_row D (beg_row D) k
    have cb : H' b = some (.lst (iv ds)) := e' _ _ hb
    have call : ∀ (s : Int) (H1 : Hp), Ex H' H1 → (s = 0 ∨ s = 1) → ∀ {E : XK}, EvL (tCall sp_reduced [] E (tCons (tOp rCat (tVar 3) (tLst (tCons (tC (.int s)) tNil))) (tCons (tVar 0) tNil))) [some (.ref b), some (.int ((k : Int) + 1)), v, some (.ref p2)] H1 (iv (redR (its ds k (beg ds) ++ [s]) ds)) := fun s H1 e1 hs E =>
      el_callP (eap_er (er_L (el_catI (er_var rfl (e1 _ _ hp2)) (er_L (el_oneI ev_c)) (by rw [R.2, List.length_singleton]; omega))) (eap_ev (ev_var rfl) eap_nil)) (by
        rintro vs H2 e2 ⟨p, _, rfl, hp, _, rfl, rfl⟩ Q qq
        have hl : (its ds k (beg ds) ++ [s]).length = ds.length := by
          rw [List.length_append, R.2]
          show _ + 1 = _
          omega
        exact ⟨p, b, _, ds, rfl, hp, e2 _ _ (e1 _ _ cb), R.1.append (.one hs), bd, hl, by omega, by omega, qq⟩)
    refine ⟨_, et_test (ev_inR ev_c (er_L (call 1 H' (Ex.refl H') (.inr rfl)))), fun hc H6 e6 => ?_, fun hc H6 e6 => ?_⟩
    · have hc' : its ds (k + 1) (beg ds) ≠ beg ds := fun z => (red1_zero D R).mpr z (of_decide_eq_true hc)
      have hk1 : k + 1 ≠ rch ds := fun z => hc' (z ▸ I.1.back)
      refine ⟨fun σ2 H2 => Ex H H2 ∧ ∃ (p2 : Addr) (v : Option V), σ2 = [some (.ref b), some (.int (((k + 1 : Nat) : Int) + 1)), v, some (.ref p2)] ∧ H2 p2 = some (.lst (iv (its ds (k + 1) (beg ds)))), fun σ2 H2 ⟨e2, p3, v3, es, h3⟩ => ⟨m - 1, by omega, e2, k + 1, p3, v3, by omega, by omega, es, h3⟩, ?_⟩
      refine q_asgL (call 0 H6 e6 (.inl rfl)) fun p3 H7 n7 e7 h7 => ?_
      refine s_aug (a := (k : Int) + 1) (b := 1) rfl ev_c fun H8 e8 => ⟨((e'.trans e6).trans e7).trans e8, p3, v, ?_, e8 _ _ h7⟩
      show [some (V.ref b), some (.int ((k : Int) + 1 + 1)), v, some (.ref p3)] = _
      rw [show ((k : Int) + 1 + 1) = (((k + 1 : Nat) : Int) + 1) by omega]
    · have hc' : its ds (k + 1) (beg ds) = beg ds := (red1_zero D R).mp (of_decide_eq_false hc)
      have er : rch ds = k + 1 := by
        have b : ¬ k + 1 < rch ds := fun h => I.1.least _ (by omega) h hc'
        omega
      refine s_ret (ev_var rfl) fun H7 e7 => ?_
      have z : (k : Int) + 1 = ((rch ds : Nat) : Int) := by rw [er]; omega
      rw [z]
      exact q1 D _ ((e'.trans e6).trans e7)


/-! ## rows run through a divisor, from any rest on -/
def restR (ds xs : List Int) : List Int := (prun ds xs).2
def stepR (ds R : List Int) (s : Int) : List Int := redR (R ++ [s]) ds
def runR (ds R xs : List Int) : List Int := xs.foldl (stepR ds) R
theorem runR_append (ds R xs ys : List Int) : runR ds R (xs ++ ys) = runR ds (runR ds R xs) ys := List.foldl_append
theorem runR_snoc (ds R xs : List Int) (s : Int) : runR ds R (xs ++ [s]) = stepR ds (runR ds R xs) s := runR_append ds R xs [s]
theorem restR_run (ds xs : List Int) : restR ds xs = runR ds (zer ds) xs := by
  induction xs using snoc_ind with
  | h0 => rfl
  | h1 xs x ih =>
    rw [runR_snoc, ← ih]
    unfold restR
    rw [prun_snoc]
    rfl
theorem restR_snoc (ds xs : List Int) (s : Int) : restR ds (xs ++ [s]) = stepR ds (restR ds xs) s := by rw [restR_run, restR_run, runR_snoc]
theorem restR_append (ds xs ys : List Int) : restR ds (xs ++ ys) = runR ds (restR ds xs) ys := by rw [restR_run, restR_run, runR_append]
theorem step_row {ds R : List Int} {s : Int} (D : IsDiv ds) (h : RowOf (ds.length - 1) R) (hs : s = 0 ∨ s = 1) : RowOf (ds.length - 1) (stepR ds R s) := by
  have h2 := D.two
  have hl : (R ++ [s]).length = ds.length := by
    rw [List.length_append, h.2]
    show _ + 1 = _
    omega
  exact ⟨redR_bits (h.1.append (.one hs)) D.bits, by unfold stepR; rw [redR_len hl, hl]⟩
theorem run_row {ds : List Int} (D : IsDiv ds) : ∀ {xs R : List Int}, RowOf (ds.length - 1) R → Bits xs → RowOf (ds.length - 1) (runR ds R xs)
  | [], _, h, _ => h
  | x :: xs, _, h, hx => run_row D (xs := xs) (step_row D h (hx x List.mem_cons_self)) fun z k => hx z (List.mem_cons_of_mem _ k)
theorem rest_row {ds xs : List Int} (D : IsDiv ds) (hx : Bits xs) : RowOf (ds.length - 1) (restR ds xs) := by
  rw [restR_run]
  exact run_row D zer_row hx
theorem step_getD {ds R : List Int} {s : Int} (D : IsDiv ds) (h : RowOf (ds.length - 1) R) (hs : s = 0 ∨ s = 1) {j : Nat} (hj : j < ds.length - 1) :
    (stepR ds R s).getD j 0 = ((R ++ [s]).getD (j + 1) 0 + R.headD 0 * ds.getD (j + 1) 0) % 2 := by
  have h2 := D.two
  have hl : (R ++ [s]).length = ds.length := by
    rw [List.length_append, h.2]
    show _ + 1 = _
    omega
  have bl : Bits (R ++ [s]) := h.1.append (.one hs)
  have st := step_at hl D.head bl D.bits (by omega) (j + 1) (by omega)
  have hh : (R ++ [s]).headD 0 = R.headD 0 := by
    cases R with
    | nil => exact absurd h.2 (by show ¬ 0 = _; omega)
    | cons x r => rfl
  rw [if_pos (by omega), Nat.add_sub_cancel, hh] at st
  have b1 := bit_getD (redR_bits bl D.bits) j
  have b2 := bit_getD bl (j + 1)
  have b3 := bit_getD D.bits (j + 1)
  have b4 := headD_bit h.1
  show (redR (R ++ [s]) ds).getD j 0 = _
  rcases b1 with a | a <;> rcases b2 with b | b <;> rcases b3 with c | c <;> rcases b4 with d | d <;> rw [a, b, c, d] at st <;> rw [a, b, c, d] <;> first | rfl | exact absurd st (by decide)
/-! ### sums of rows of one length -/
theorem xor_getD : ∀ {A B : List Int}, Bits A → Bits B → A.length = B.length → ∀ j : Nat, (xorR A B).getD j 0 = (A.getD j 0 + B.getD j 0) % 2
  | [], [], _, _, _, _ => rfl
  | [], _ :: _, _, _, h, _ => nomatch h
  | _ :: _, [], _, _, h, _ => nomatch h
  | a :: A, b :: B, ha, hb, hl, j => by
    cases j with
    | zero => exact xor_bit (ha a List.mem_cons_self) (hb b List.mem_cons_self)
    | succ j => exact xor_getD (A := A) (B := B) ha.tail hb.tail (Nat.succ.inj hl) j
theorem xor_len {A B : List Int} (h : A.length = B.length) : (xorR A B).length = A.length := by
  unfold xorR
  rw [List.length_zipWith, h]
  exact Nat.min_self _
theorem xor_row {w : Nat} {A B : List Int} (h : RowOf w A) (k : RowOf w B) : RowOf w (xorR A B) := ⟨xorR_bits h.1 k.1, by rw [xor_len (h.2.trans k.2.symm), h.2]⟩
theorem xor_append {A B A' B' : List Int} (h : A.length = B.length) : xorR (A ++ A') (B ++ B') = xorR A B ++ xorR A' B' := List.zipWith_append h
theorem xor_rows {w : Nat} {A B C : List Int} (h : RowOf w A) (k : RowOf w B) (l : RowOf w C) (e : ∀ j, j < w → C.getD j 0 = (A.getD j 0 + B.getD j 0) % 2) : xorR A B = C :=
  row_ext (xor_row h k) l fun j hj => by rw [e j hj, xor_getD h.1 k.1 (h.2.trans k.2.symm)]
theorem rep_row (w : Nat) : RowOf w (List.replicate w (0 : Int)) := ⟨.rep _ (.inl rfl), List.length_replicate⟩
theorem xor_zero {w : Nat} {A : List Int} (h : RowOf w A) : xorR A (List.replicate w 0) = A := xor_rows h (rep_row w) h fun j _ => by
  rw [zer_getD]
  have := bit_getD h.1 j
  omega
theorem zero_xor {w : Nat} {A : List Int} (h : RowOf w A) : xorR (List.replicate w 0) A = A := xor_rows (rep_row w) h h fun j _ => by
  rw [zer_getD]
  have := bit_getD h.1 j
  omega
theorem xor_self {w : Nat} {A : List Int} (h : RowOf w A) : xorR A A = List.replicate w 0 := xor_rows h h (rep_row w) fun j _ => by
  rw [zer_getD]
  have := bit_getD h.1 j
  omega
theorem xor_eq_zero {w : Nat} {A B : List Int} (h : RowOf w A) (k : RowOf w B) (e : xorR A B = List.replicate w 0) : A = B := row_ext h k fun j hj => by
  have z := xor_getD h.1 k.1 (h.2.trans k.2.symm) j
  rw [e, zer_getD] at z
  have := bit_getD h.1 j
  have := bit_getD k.1 j
  omega
theorem xor_back {w : Nat} {A B : List Int} (h : RowOf w A) (k : RowOf w B) : xorR (xorR A B) B = A := xor_rows (xor_row h k) k h fun j _ => by
  rw [xor_getD h.1 k.1 (h.2.trans k.2.symm)]
  have := bit_getD h.1 j
  have := bit_getD k.1 j
  omega
theorem bxor_bit {a b : Int} (ha : a = 0 ∨ a = 1) (hb : b = 0 ∨ b = 1) : Builtin.bitXor a b = 0 ∨ Builtin.bitXor a b = 1 := by
  rw [xor_bit ha hb]
  exact bit_mod _
theorem step_xor {ds A B : List Int} {a b : Int} (D : IsDiv ds) (hA : RowOf (ds.length - 1) A) (hB : RowOf (ds.length - 1) B) (ha : a = 0 ∨ a = 1) (hb : b = 0 ∨ b = 1) :
    stepR ds (xorR A B) (Builtin.bitXor a b) = xorR (stepR ds A a) (stepR ds B b) := by
  have hx := xor_row hA hB
  have hl := hA.2.trans hB.2.symm
  have sA := step_row D hA ha
  have sB := step_row D hB hb
  refine row_ext (step_row D hx (bxor_bit ha hb)) (xor_row sA sB) fun j hj => ?_
  rw [step_getD D hx (bxor_bit ha hb) hj, xor_getD sA.1 sB.1 (sA.2.trans sB.2.symm), step_getD D hA ha hj, step_getD D hB hb hj]
  have e : xorR A B ++ [Builtin.bitXor a b] = xorR (A ++ [a]) (B ++ [b]) := (xor_append (A' := [a]) (B' := [b]) hl).symm
  rw [e, xor_getD (hA.1.append (.one ha)) (hB.1.append (.one hb)) (by rw [List.length_append, List.length_append, hl]; rfl), headD_getD, xor_getD hA.1 hB.1 hl, headD_getD, headD_getD]
  have b3 := bit_getD D.bits (j + 1)
  rcases b3 with c | c <;> rw [c] <;> omega
theorem run_xor {ds : List Int} (D : IsDiv ds) : ∀ {xs ys A B : List Int}, RowOf (ds.length - 1) A → RowOf (ds.length - 1) B → xs.length = ys.length → Bits xs → Bits ys → runR ds (xorR A B) (xorR xs ys) = xorR (runR ds A xs) (runR ds B ys)
  | [], [], _, _, _, _, _, _, _ => rfl
  | [], _ :: _, _, _, _, _, h, _, _ => nomatch h
  | _ :: _, [], _, _, _, _, h, _, _ => nomatch h
  | x :: xs, y :: ys, A, B, hA, hB, hl, hx, hy => by
    have bx := hx x List.mem_cons_self
    have by_ := hy y List.mem_cons_self
    show runR ds (stepR ds (xorR A B) (Builtin.bitXor x y)) (xorR xs ys) = xorR (runR ds (stepR ds A x) xs) (runR ds (stepR ds B y) ys)
    rw [step_xor D hA hB bx by_]
    exact run_xor D (step_row D hA bx) (step_row D hB by_) (Nat.succ.inj hl) hx.tail hy.tail
theorem rest_xor {ds xs ys : List Int} (D : IsDiv ds) (hl : xs.length = ys.length) (hx : Bits xs) (hy : Bits ys) : restR ds (xorR xs ys) = xorR (restR ds xs) (restR ds ys) := by
  rw [restR_run, restR_run, restR_run, ← run_xor D zer_row zer_row hl hx hy]
  congr 1
  exact (xor_self zer_row).symm
theorem run_zeros (ds R : List Int) : ∀ n, runR ds R (List.replicate n 0) = its ds n R
  | 0 => rfl
  | n + 1 => by
    rw [List.replicate_succ', runR_snoc, run_zeros ds R n]
    rfl
theorem rest_zeros (ds xs : List Int) (n : Nat) : restR ds (xs ++ List.replicate n 0) = its ds n (restR ds xs) := by rw [restR_append, run_zeros]
/-- a row no longer than the width is its own rest -/
theorem run_small {ds : List Int} (D : IsDiv ds) {xs : List Int} (hl : xs.length ≤ ds.length - 1) : restR ds xs = List.replicate (ds.length - 1 - xs.length) 0 ++ xs := by
  induction xs using snoc_ind with
  | h0 =>
    rw [List.append_nil]
    rfl
  | h1 xs x ih =>
    rw [List.length_append] at hl
    have hl' : xs.length + 1 ≤ ds.length - 1 := hl
    rw [restR_snoc, ih (by omega), List.length_append]
    show redR _ ds = List.replicate (ds.length - 1 - (xs.length + 1)) 0 ++ (xs ++ [x])
    rw [show ds.length - 1 - xs.length = (ds.length - 1 - (xs.length + 1)) + 1 by omega, List.replicate_succ]
    unfold redR
    rw [if_pos (by rfl), List.cons_append, List.cons_append, List.tail_cons, List.append_assoc]
theorem rest_of_row {ds R : List Int} (D : IsDiv ds) (h : RowOf (ds.length - 1) R) : restR ds R = R := by
  rw [run_small D (by rw [h.2]; exact Nat.le_refl _), h.2, Nat.sub_self]
  rfl
theorem rest_later {ds R : List Int} (D : IsDiv ds) (h : RowOf (ds.length - 1) R) (n : Nat) : restR ds (R ++ List.replicate n 0) = its ds n R := by rw [rest_zeros, rest_of_row D h]
/-- behind a rest: what it becomes, and the rest of what follows -/
theorem run_from {ds R xs : List Int} (D : IsDiv ds) (h : RowOf (ds.length - 1) R) (hx : Bits xs) : runR ds R xs = xorR (its ds xs.length R) (restR ds xs) := by
  have e := run_xor D (xs := List.replicate xs.length 0) (ys := xs) h zer_row List.length_replicate (.rep _ (.inl rfl)) hx
  rw [show xorR R (zer ds) = R from xor_zero h, zero_xor ⟨hx, rfl⟩, run_zeros] at e
  rw [e, restR_run]
/-! ### the check -/
def chk (ds xs : List Int) : List Int := its ds (ds.length - 1) (restR ds xs)
theorem chk_row {ds xs : List Int} (D : IsDiv ds) (hx : Bits xs) : RowOf (ds.length - 1) (chk ds xs) := its_row D (rest_row D hx) _
theorem sealed_zero {ds xs : List Int} (D : IsDiv ds) (hx : Bits xs) : restR ds (xs ++ chk ds xs) = zer ds := by
  have C := chk_row D hx
  rw [restR_append, run_from D (rest_row D hx) C.1, C.2, rest_of_row D C]
  exact xor_self C
/-! ### one sign alone, and what is turned -/
def unitR (n p : Nat) : List Int := List.replicate p 0 ++ 1 :: List.replicate (n - 1 - p) 0
theorem unit_row {n p : Nat} (h : p < n) : RowOf n (unitR n p) := by
  refine ⟨(Bits.rep _ (.inl rfl)).append (.cons (.inr rfl) (.rep _ (.inl rfl))), ?_⟩
  unfold unitR
  rw [List.length_append, List.length_replicate, List.length_cons, List.length_replicate]
  omega
theorem step_one {ds : List Int} (D : IsDiv ds) : stepR ds (zer ds) 1 = beg ds := by
  rw [← prun_one D]
  rfl
theorem rest_unit {ds : List Int} (D : IsDiv ds) (n p : Nat) : restR ds (unitR n p) = its ds (n - 1 - p) (beg ds) := by
  unfold unitR
  rw [restR_run, runR_append, run_zeros, its_zer D]
  show runR ds (stepR ds (zer ds) 1) _ = _
  rw [step_one D, run_zeros]
theorem unit_getD {n p : Nat} (h : p < n) (j : Nat) : (unitR n p).getD j 0 = if j = p then 1 else 0 := by
  unfold unitR
  by_cases c : j < p
  · rw [getD_left (by rw [List.length_replicate]; omega), zer_getD, if_neg (by omega)]
  · rw [List.getD_eq_getElem?_getD, List.getElem?_append_right (by rw [List.length_replicate]; omega), List.length_replicate]
    by_cases c2 : j = p
    · subst c2
      rw [Nat.sub_self, if_pos rfl]
      rfl
    · rw [if_neg c2, show j - p = (j - p - 1) + 1 by omega, List.getElem?_cons_succ, ← List.getD_eq_getElem?_getD, zer_getD]
def turnR (xs : List Int) (p : Nat) : List Int := xs.take p ++ [1 - xs.getD p 0] ++ xs.drop (p + 1)
theorem turn_bits {xs : List Int} (h : Bits xs) (p : Nat) : Bits (turnR xs p) := ((h.take _).append (.one (by have := bit_getD h p; omega))).append (h.drop _)
theorem turn_len {xs : List Int} {p : Nat} (h : p < xs.length) : (turnR xs p).length = xs.length := by
  unfold turnR
  rw [List.length_append, List.length_append, List.length_take, List.length_drop, List.length_singleton]
  omega
theorem turn_getD {xs : List Int} {p : Nat} (h : p < xs.length) (j : Nat) : (turnR xs p).getD j 0 = if j = p then 1 - xs.getD p 0 else xs.getD j 0 := by
  unfold turnR
  have lt : (xs.take p).length = p := by rw [List.length_take]; omega
  rw [List.append_assoc]
  by_cases c : j < p
  · rw [getD_left (by omega), if_neg (by omega), List.getD_eq_getElem?_getD, List.getElem?_take, if_pos c, List.getD_eq_getElem?_getD]
  · rw [List.getD_eq_getElem?_getD, List.getElem?_append_right (by omega), lt]
    by_cases c2 : j = p
    · subst c2
      rw [Nat.sub_self, if_pos rfl]
      rfl
    · rw [if_neg c2, show j - p = (j - p - 1) + 1 by omega]
      show (((1 - xs.getD p 0) :: xs.drop (p + 1))[j - p - 1 + 1]?).getD 0 = _
      rw [List.getElem?_cons_succ, List.getElem?_drop, show p + 1 + (j - p - 1) = j by omega, ← List.getD_eq_getElem?_getD]
theorem turn_xor {xs : List Int} {p : Nat} (h : p < xs.length) (b : Bits xs) : turnR xs p = xorR xs (unitR xs.length p) :=
  (xor_rows ⟨b, rfl⟩ (unit_row h) ⟨turn_bits b p, turn_len h⟩ fun j _ => by
    rw [turn_getD h, unit_getD h]
    have := bit_getD b j
    split
    · rename_i e
      subst e
      omega
    · omega).symm
theorem turn_rest {ds xs : List Int} {p : Nat} (D : IsDiv ds) (h : p < xs.length) (b : Bits xs) : restR ds (turnR xs p) = xorR (restR ds xs) (its ds (xs.length - 1 - p) (beg ds)) := by
  rw [turn_xor h b, rest_xor D (unit_row h).2.symm b (unit_row h).1, rest_unit D]
theorem turn_turn {xs : List Int} {p : Nat} (h : p < xs.length) (b : Bits xs) : turnR (turnR xs p) p = xs := by
  rw [turn_xor (by rw [turn_len h]; exact h) (turn_bits b p), turn_len h, turn_xor h b]
  exact xor_back ⟨b, rfl⟩ (unit_row h)
/-- one sign alone leaves a yes, two leave unlike rests -/
theorem its_beg_ne {ds : List Int} (D : IsDiv ds) {p q : Nat} (hp : p < rch ds) (hq : q < rch ds) (e : its ds p (beg ds) = its ds q (beg ds)) : p = q := by
  have key : ∀ {a b : Nat}, a < b → b < rch ds → its ds a (beg ds) ≠ its ds b (beg ds) := fun {a b} hab hb z => by
    have I := (rch_is D).1
    rw [show b = a + (b - a) by omega, its_add] at z
    have z2 := its_inj D (beg_row D) (its_row D (beg_row D) (b - a)) a z
    exact I.least (b - a) (by omega) (by omega) z2.symm
  by_cases c : p < q
  · exact absurd e (key c hq)
  · by_cases c2 : q < p
    · exact absurd e.symm (key c2 hp)
    · omega
/-! ### what comes back when the reach is taken out -/
theorem its_xor {ds A B : List Int} (D : IsDiv ds) (hA : RowOf (ds.length - 1) A) (hB : RowOf (ds.length - 1) B) (n : Nat) : its ds n (xorR A B) = xorR (its ds n A) (its ds n B) := by
  rw [← run_zeros, ← run_zeros, ← run_zeros, ← run_xor D hA hB rfl (.rep _ (.inl rfl)) (.rep _ (.inl rfl))]
  congr 1
  exact (xor_self (rep_row n)).symm
theorem its_rch_run {ds : List Int} (D : IsDiv ds) {xs : List Int} (hx : Bits xs) : its ds (rch ds) (restR ds xs) = restR ds xs := by
  induction xs using snoc_ind with
  | h0 => exact its_zer D _
  | h1 xs x ih =>
    have b1 : Bits xs := fun y hy => hx y (List.mem_append_left _ hy)
    have b2 : x = 0 ∨ x = 1 := hx x (List.mem_append_right _ List.mem_cons_self)
    have R := rest_row D b1
    have nx := nxt_row D R
    have ih' := ih b1
    have com : its ds (rch ds) (nxt ds (restR ds xs)) = nxt ds (restR ds xs) := by
      have a := its_add ds (restR ds xs) 1 (rch ds)
      have b := its_add ds (restR ds xs) (rch ds) 1
      rw [Nat.add_comm, b] at a
      have a' : nxt ds (its ds (rch ds) (restR ds xs)) = its ds (rch ds) (nxt ds (restR ds xs)) := a
      rw [← a', ih']
    have I := (rch_is D).1
    rw [restR_snoc]
    rcases b2 with rfl | rfl
    · exact com
    · have e : stepR ds (restR ds xs) 1 = xorR (nxt ds (restR ds xs)) (beg ds) := by
        have z := step_xor (a := 0) (b := 1) D R zer_row (.inl rfl) (.inr rfl)
        rw [show xorR (restR ds xs) (zer ds) = restR ds xs from xor_zero R, step_one D] at z
        exact z
      rw [e, its_xor D nx (beg_row D), com, I.back]
theorem its_rch {ds R : List Int} (D : IsDiv ds) (h : RowOf (ds.length - 1) R) : its ds (rch ds) R = R := by
  have z := its_rch_run D h.1
  rw [rest_of_row D h] at z
  exact z
theorem its_mod {ds R : List Int} (D : IsDiv ds) (h : RowOf (ds.length - 1) R) (n : Nat) : its ds (n % rch ds) R = its ds n R := by
  have m : ∀ q, its ds (rch ds * q) R = R := fun q => by
    induction q with
    | zero => rfl
    | succ q ih => rw [Nat.mul_succ, its_add, its_rch D h, ih]
  conv => rhs; rw [← Nat.mod_add_div n (rch ds), its_add, m]
/-! ### a stretch -/
theorem stretch_ne {ds : List Int} (D : IsDiv ds) {P : List Int} (hb : Bits P) (hl : P.length ≤ ds.length - 1) (h1 : (1 : Int) ∈ P) (a t : Nat) : restR ds (List.replicate a 0 ++ P ++ List.replicate t 0) ≠ zer ds := by
  rw [rest_zeros, restR_append, restR_run, run_zeros, its_zer D, ← restR_run]
  refine its_ne D (rest_row D hb) (fun e => ?_) t
  rw [run_small D hl] at e
  have : (1 : Int) ∈ zer ds := by
    rw [← e]
    exact List.mem_append_right _ h1
  exact absurd (List.mem_replicate.mp this).2 (by decide)
/-! ### an even number of yes -/
theorem xor_sum : ∀ {A B : List Int}, Bits A → Bits B → A.length = B.length → (xorR A B).sum % 2 = (A.sum + B.sum) % 2
  | [], [], _, _, _ => rfl
  | [], _ :: _, _, _, h => nomatch h
  | _ :: _, [], _, _, h => nomatch h
  | a :: A, b :: B, ha, hb, hl => by
    have ih := xor_sum (A := A) (B := B) ha.tail hb.tail (Nat.succ.inj hl)
    show (Builtin.bitXor a b + (xorR A B).sum) % 2 = (a + A.sum + (b + B.sum)) % 2
    rw [xor_bit (ha a List.mem_cons_self) (hb b List.mem_cons_self)]
    omega
theorem red_sum {L ds : List Int} (hL : Bits L) (hd : Bits ds) (hl : L.length = ds.length) (h0 : ds.headD 0 = 1) (he : ds.sum % 2 = 0) : (redR L ds).sum % 2 = L.sum % 2 := by
  cases L with
  | nil =>
    cases ds with
    | nil => rfl
    | cons d e => cases hl
  | cons l r =>
    cases ds with
    | nil => cases hl
    | cons d e =>
      have d1 : d = 1 := h0
      subst d1
      have he' : (1 + e.sum) % 2 = 0 := he
      unfold redR
      show (if l = 0 then r else xorR r e).sum % 2 = (l + r.sum) % 2
      rcases hL l List.mem_cons_self with rfl | rfl
      · rw [if_pos rfl]
        omega
      · rw [if_neg (by decide), xor_sum (fun z k => hL z (List.mem_cons_of_mem _ k)) (fun z k => hd z (List.mem_cons_of_mem _ k)) (Nat.succ.inj hl)]
        omega
theorem rest_sum {ds : List Int} (D : IsDiv ds) (he : ds.sum % 2 = 0) {xs : List Int} (hx : Bits xs) : (restR ds xs).sum % 2 = xs.sum % 2 := by
  induction xs using snoc_ind with
  | h0 =>
    show (zer ds).sum % 2 = 0
    unfold zer
    generalize ds.length - 1 = n
    induction n with
    | zero => rfl
    | succ n ih =>
      show (0 + (List.replicate n (0 : Int)).sum) % 2 = 0
      omega
  | h1 xs x ih =>
    have b1 : Bits xs := fun y hy => hx y (List.mem_append_left _ hy)
    have b2 : x = 0 ∨ x = 1 := hx x (List.mem_append_right _ List.mem_cons_self)
    have R := rest_row D b1
    have h2 := D.two
    rw [restR_snoc]
    unfold stepR
    rw [red_sum (R.1.append (.one b2)) D.bits (by rw [List.length_append, R.2]; show _ + 1 = _; omega) D.head he, List.sum_append, List.sum_append]
    have := ih b1
    show (_ + (x + 0)) % 2 = (_ + (x + 0)) % 2
    omega
theorem odd_ne {ds xs : List Int} (D : IsDiv ds) (he : ds.sum % 2 = 0) (hx : Bits xs) (ho : xs.sum % 2 = 1) : restR ds xs ≠ zer ds := fun e => by
  have a := rest_sum D he hx
  have b := rest_sum (xs := []) D he .nil
  rw [e] at a
  have b' : (zer ds).sum % 2 = 0 := b
  omega


/-! ## Gate: what stands at its address -/
def gfs (r : Int) (da : Addr) (w : Int) (ev : Bool) : List (Str × V) := putF "even" (.bl ev) (putF "width" (.int w) (putF "divisor" (.ref da) (putF "reach" (.int r) [])))
theorem gfs_no {r : Int} {da : Addr} {w : Int} {ev : Bool} {m : Str} (h1 : ¬ m = "even") (h2 : ¬ m = "width") (h3 : ¬ m = "divisor") (h4 : ¬ m = "reach") : (gfs r da w ev).lookup m = none := by
  unfold gfs
  rw [lookup_putF, if_neg h1, lookup_putF, if_neg h2, lookup_putF, if_neg h3, lookup_putF, if_neg h4]
  rfl
theorem gfs_even {r : Int} {da : Addr} {w : Int} {ev : Bool} : (gfs r da w ev).lookup ("even" : Str) = some (V.bl ev) := by
  unfold gfs
  rw [lookup_putF, if_pos rfl]
theorem gfs_width {r : Int} {da : Addr} {w : Int} {ev : Bool} : (gfs r da w ev).lookup ("width" : Str) = some (V.int w) := by
  unfold gfs
  rw [lookup_putF, if_neg (by decide +kernel), lookup_putF, if_pos rfl]
theorem gfs_divisor {r : Int} {da : Addr} {w : Int} {ev : Bool} : (gfs r da w ev).lookup ("divisor" : Str) = some (V.ref da) := by
  unfold gfs
  rw [lookup_putF, if_neg (by decide +kernel), lookup_putF, if_neg (by decide +kernel), lookup_putF, if_pos rfl]
theorem gfs_reach {r : Int} {da : Addr} {w : Int} {ev : Bool} : (gfs r da w ev).lookup ("reach" : Str) = some (V.int r) := by
  unfold gfs
  rw [lookup_putF, if_neg (by decide +kernel), lookup_putF, if_neg (by decide +kernel), lookup_putF, if_neg (by decide +kernel), lookup_putF, if_pos rfl]
theorem putF_len (f : Str) (v : V) : ∀ fs : List (Str × V), (putF f v fs).length ≤ fs.length + 1
  | [] => Nat.le_refl _
  | (g, x) :: r => by
    show (if g = f then (g, v) :: r else (g, x) :: putF f v r).length ≤ _
    have := putF_len f v r
    split
    · exact Nat.le_succ _
    · rw [List.length_cons, List.length_cons]
      omega
def evenB (ds : List Int) : Bool := decide (((ds.count 1 : Nat) : Int) % 2 = 0)
structure GateAt (cs : Cs) (H : Hp) (g da : Addr) (ds : List Int) : Prop where
  D : IsDiv ds
  ob : ∃ dx, H g = some (.ins cs.Gate dx (gfs (rch ds : Nat) da (ds.length - 1 : Nat) (evenB ds)))
  dv : H da = some (.lst (iv ds))
theorem GateAt.mono {H H' : Hp} {g da : Addr} {ds : List Int} (G : GateAt cs H g da ds) (e : Ex H H') : GateAt cs H' g da ds := ⟨G.D, G.ob.imp fun _ h => e _ _ h, e _ _ G.dv⟩
theorem GateAt.kp {H H' : Hp} {g da l : Addr} {ds : List Int} (G : GateAt cs H g da ds) (k : Kp l H H') (n1 : g ≠ l) (n2 : da ≠ l) : GateAt cs H' g da ds := ⟨G.D, G.ob.imp fun _ h => k _ _ n1 h, k _ _ n2 G.dv⟩
def EvG (cs : Cs) (te : TE) (σ : L2.St) (H : Hp) (ds : List Int) : Prop := ∀ H1, Ex H H1 → ∀ Q : VK, (∀ g da H2, H1 g = none → H1 da = none → Ex H1 H2 → GateAt cs H2 g da ds → Q (.ref g) H2) → te σ H1 Q
theorem upd2_ex {H H' : Hp} {y dy : Addr} {o1 o2 : HO} (ny : H y = none) (nd : H dy = none) (k : Kp y (upd (upd H dy o1) y o2) H') : Ex H H' := fun a o h => by
  have h1 : a ≠ y := ne_of_none h ny
  refine k a o h1 ?_
  rw [upd_ne h1, upd_ne (ne_of_none h nd)]
  exact h
theorem upd2_none {H : Hp} {y dy a : Addr} {o1 o2 : HO} (h : upd (upd H dy o1) y o2 a = none) : H a = none ∧ a ≠ y ∧ a ≠ dy := by
  have h1 : a ≠ y := fun e => by rw [e, upd_same] at h; cases h
  rw [upd_ne h1] at h
  have h2 : a ≠ dy := fun e => by rw [e, upd_same] at h; cases h
  rw [upd_ne h2] at h
  exact ⟨h, h1, h2⟩
theorem upd2_at {H : Hp} {y dy a : Addr} {o o1 o2 : HO} (ny : H y = none) (nd : H dy = none) (h : H a = some o) : upd (upd H dy o1) y o2 a = some o := by
  rw [upd_ne (ne_of_none h ny), upd_ne (ne_of_none h nd)]
  exact h
theorem q_fldW {σ : L2.St} {H : Hp} {ta te : TE} {f : Str} {D : Ends} {tz : TS}
    (h : te σ H fun y H1 => ta σ H1 fun x H2 => ∃ a C dx fs, x = .ref a ∧ H2 a = some (.ins C dx fs) ∧ Cls K C ∧ NoAttr K C f ∧ fs.length < 1000 ∧ tz D σ (upd H2 a (.ins C dx (putF f y fs)))) : tSeq (sFld K ta te f) tz D σ H := h
theorem var_go {σ : L2.St} {H : Hp} {i : Nat} {v : V} {Q : VK} (h : σ[i]? = some (some v)) (k : Q v H) : tVar i σ H Q := ⟨v, h, k⟩
def sp_Gate___init__ (cs : Cs) : Sp := fun vs H Q E => ∃ (p dx b : Addr) (ds : List Int), vs = [.ref p, .ref b] ∧ H p = some (.ins cs.Gate dx []) ∧ H b = some (.lst (iv ds)) ∧ Bits ds ∧
  (IsDiv ds → ∀ da H', H da = none → Kp p H H' → GateAt cs H' p da ds → Q .non H') ∧ (¬ IsDiv ds → ∀ H', Ex H H' → E (.ref cs.NoDivisor) none H')
theorem has_Gate___init__ (T : Txt K mg cs) : HasI P w K mg base 6 cs.Gate ["self", "divisor"] (sp_Gate___init__ cs) := by
  refine T.i_Gate.ok sc_Gate___init__ (fun vs H Q E h => ?_) (fun f cdv A outer s H vs Q E hr h => ?_)
  · obtain ⟨p, dx, b, ds, rfl, _⟩ := h
    rfl
  · obtain ⟨p, dx, b, ds, rfl, hp, hb, bd, q1, q2⟩ := h
    refine ⟨_, (pss_cons (ps_fld (pv 0) (pe_callH (has_reach T) (hr.mono (by decide)) (passes_call (takes_of rfl rfl rfl rfl) (fun _ _ _ _ h => h)) (pa_cons (pv 1) pa_nil)) rfl)
      (pss_cons (ps_fld (pv 0) (pe_callTy (kk_list K) (by rfl) T.z_list b_list (pa_cons (pv 1) pa_nil)) rfl)
      (pss_cons (ps_fld (pv 0) (pe_op op_sub (pe_callB (kk_len K) (by rfl) T.z_len b_len (pa_cons (pv 1) pa_nil)) pe_int) rfl)
      (pss_one (ps_fld (pv 0) (pe_cmpR op_eqII (pe_op op_mod (pe_bm PySem.F.plainAttrs_list PySem.F.slot_list_count PySem.F.type_list_count (kk_count K) (pv 1) (pa_cons pe_int pa_nil)) pe_int) pe_int (nomark _)) rfl))))), ?_⟩
    have npb : b ≠ p := ne_of hb hp (by intro z; cases z)
    refine q_fldW (call_go (ea_go (by walk_at "cg ea") fun H1 e1 => ⟨b, ds, rfl, e1 _ _ hb, bd, fun D H2 e2 => var_go rfl ⟨p, cs.Gate, dx, [], rfl, e2 _ _ (e1 _ _ hp), T.c_Gate.cl, T.n_Gate_reach, by decide, ?_⟩, fun D H2 e2 => q2 D H2 (e1.trans e2)⟩))
    have k3 : Kp p H (upd H2 p (.ins cs.Gate dx (putF "reach" (.int (rch ds : Nat)) []))) := (Kp.of (e1.trans e2)).trans .upd
    have h3 : (upd H2 p (.ins cs.Gate dx (putF "reach" (.int (rch ds : Nat)) []))) p = some (.ins cs.Gate dx (putF "reach" (.int (rch ds : Nat)) [])) := upd_same
    generalize (upd H2 p (.ins cs.Gate dx (putF "reach" (.int (rch ds : Nat)) []))) = H3 at k3 h3 ⊢
    have b3 : H3 b = some (.lst (iv ds)) := k3 _ _ npb hb
    clear e1 e2
    refine q_fldL (el_listR (er_var rfl b3)) (ev_var rfl) h3 T.c_Gate.cl T.n_Gate_divisor (Nat.lt_of_le_of_lt (putF_len _ _ _) (by show 1 < 1000; decide)) fun da H4 n4 e4 h4 => ?_
    have nda : H da = none := by
      cases hd : H da with
      | none => rfl
      | some o =>
        by_cases c : da = p
        · rw [c, h3] at n4
          cases n4
        · rw [k3 _ _ c hd] at n4
          cases n4
    have ndp : da ≠ p := (ne_of_none h3 n4).symm
    have npd : p ≠ da := fun e => ndp e.symm
    have k5 : Kp p H (upd H4 p (.ins cs.Gate dx (putF "divisor" (.ref da) (putF "reach" (.int (rch ds : Nat)) [])))) := (k3.trans (Kp.of e4)).trans .upd
    have h5 : (upd H4 p (.ins cs.Gate dx (putF "divisor" (.ref da) (putF "reach" (.int (rch ds : Nat)) [])))) p = some (.ins cs.Gate dx (putF "divisor" (.ref da) (putF "reach" (.int (rch ds : Nat)) []))) := upd_same
    have d5 : (upd H4 p (.ins cs.Gate dx (putF "divisor" (.ref da) (putF "reach" (.int (rch ds : Nat)) [])))) da = some (.lst (iv ds)) := by rw [upd_ne ndp]; exact h4
    generalize (upd H4 p (.ins cs.Gate dx (putF "divisor" (.ref da) (putF "reach" (.int (rch ds : Nat)) [])))) = H5 at k5 h5 d5 ⊢
    have b5 : H5 b = some (.lst (iv ds)) := k5 _ _ npb hb
    have two := D.two
    clear k3 b3 e4 h4 h3
    refine q_fld (v := .int ((ds.length - 1 : Nat) : Int)) (ev_is (v := .int ((ds.length : Int) - 1)) (ev_i0 (ev_lenI (er_var rfl b5)) ev_c) (congrArg V.int (by omega))) (ev_var rfl) h5 T.c_Gate.cl T.n_Gate_width (Nat.lt_of_le_of_lt (putF_len _ _ _) (by show 2 < 1000; decide)) fun H6 e6 => ?_
    have k7 : Kp p H (upd H6 p (.ins cs.Gate dx (putF "width" (.int ((ds.length - 1 : Nat) : Int)) (putF "divisor" (.ref da) (putF "reach" (.int (rch ds : Nat)) []))))) := (k5.trans (Kp.of e6)).trans .upd
    have h7 : (upd H6 p (.ins cs.Gate dx (putF "width" (.int ((ds.length - 1 : Nat) : Int)) (putF "divisor" (.ref da) (putF "reach" (.int (rch ds : Nat)) []))))) p = some (.ins cs.Gate dx (putF "width" (.int ((ds.length - 1 : Nat) : Int)) (putF "divisor" (.ref da) (putF "reach" (.int (rch ds : Nat)) [])))) := upd_same
    have d7 : (upd H6 p (.ins cs.Gate dx (putF "width" (.int ((ds.length - 1 : Nat) : Int)) (putF "divisor" (.ref da) (putF "reach" (.int (rch ds : Nat)) []))))) da = some (.lst (iv ds)) := by rw [upd_ne ndp]; exact e6 _ _ d5
    generalize (upd H6 p (.ins cs.Gate dx (putF "width" (.int ((ds.length - 1 : Nat) : Int)) (putF "divisor" (.ref da) (putF "reach" (.int (rch ds : Nat)) []))))) = H7 at k7 h7 d7 ⊢
    have b7 : H7 b = some (.lst (iv ds)) := k7 _ _ npb hb
    clear k5 b5 e6 h5 d5
    refine s_fld (v := .bl (evenB ds)) (ev_is (ev_i0 (ev_mod (ev_count (er_var rfl b7) ev_c) ev_c (by walk_at "cg ar")) ev_c) rfl) (ev_var rfl) h7 T.c_Gate.cl T.n_Gate_even (Nat.lt_of_le_of_lt (putF_len _ _ _) (Nat.lt_of_le_of_lt (Nat.succ_le_succ (putF_len _ _ _)) (by show 3 < 1000; decide))) fun H8 e8 => ?_
    refine q1 D da _ nda ((k7.trans (Kp.of e8)).trans .upd) ⟨D, ⟨dx, upd_same⟩, ?_⟩
    rw [upd_ne ndp]
    exact e8 _ _ d7
theorem eg_make {E : XK} {σ : L2.St} {H : Hp} {tx : TE} {ds : List Int} (D : IsDiv ds) (h : EvR tx σ H (iv ds)) : EvG cs (tMake cs.Gate (sp_Gate___init__ cs) [] E (tCons tx tNil)) σ H ds := fun H1 e Q q =>
  h H1 e _ fun b H2 e2 h2 => fun y dy ny nd ne => ⟨y, dy, b, ds, rfl, upd_same, upd2_at ny nd h2, D.bits, fun D da H' nda k G =>
    ⟨rfl, q y da H' (fresh_back e2 ny) (fresh_back e2 (upd2_none nda).1) (e2.trans (upd2_ex ny nd k)) G⟩, fun n => absurd D n⟩


/-! ## Gate.rest -/
theorem gfs_rest {r : Int} {da : Addr} {w : Int} {ev : Bool} : (gfs r da w ev).lookup ("rest" : Str) = none := gfs_no (by decide +kernel) (by decide +kernel) (by decide +kernel) (by decide +kernel)
def sp_Gate_rest (cs : Cs) : Sp := fun vs H Q _ => ∃ (g da a : Addr) (ds xs : List Int), vs = [.ref g, .ref a] ∧ GateAt cs H g da ds ∧ H a = some (.lst (iv xs)) ∧ Bits xs ∧ xs.length ≤ 10000 ∧ RetL (iv (restR ds xs)) H Q
theorem has_Gate_rest (T : Txt K mg cs) : HasM P w K mg base 5 cs.Gate "rest" ["self", "row"] (sp_Gate_rest cs) := by
  refine T.m_Gate_rest.ok sc_Gate_rest (fun vs H Q E h => ?_) (fun f cdv A outer s H vs Q E hr h => ?_)
  · obtain ⟨g, da, a, ds, xs, rfl, _⟩ := h
    rfl
  · obtain ⟨g, da, a, ds, xs, rfl, G, ha, bx, lx, q⟩ := h
    refine ⟨_, (pss_cons (ps_asg (pe_callH (has_parted T) (hr.mono (by decide)) (passes_call (takes_of rfl rfl rfl rfl) (fun _ _ _ _ h => h)) (pa_cons (pv 1) (pa_cons (pe_fld (pv 0) rfl) pa_nil))) (pg_tup rfl (pgs_cons (pg_name (i := 2) sc_Gate_rest.nd rfl (Or.inl rfl)) (pgs_cons (pg_name (i := 3) sc_Gate_rest.nd rfl (Or.inl rfl)) pgs_nil))))
      (pss_one (ps_ret (pv 3)))), ?_⟩
    obtain ⟨dx, ho⟩ := G.ob
    have top := G.D.top
    refine q_asgG (call_go (ea_go (vs := [.ref a, .ref da]) (ea_cons (ev_var rfl) (ea_one (ev_fld (ev_var rfl) ho T.c_Gate.cl T.n_Gate_divisor gfs_divisor))) fun H1 e1 => ?_))
    refine ⟨a, da, xs, ds, rfl, e1 _ _ ha, e1 _ _ G.dv, bx, G.D.bits, lx, by omega, fun _ pt pq pr H2 e2 _ nr _ ht _ hR => ?_, fun h => absurd G.D.head h⟩
    refine tup2_go (st_of ht) ?_
    exact s_ret (ev_var rfl) fun H3 e3 => q pr H3 (fresh_back e1 nr) ((e1.trans e2).trans e3) (e3 _ _ hR)
theorem el_rest {E : XK} {σ : L2.St} {H : Hp} {ta te : TE} {g da : Addr} {ds xs : List Int} (ha : Ev ta σ H (.ref g)) (G : GateAt cs H g da ds) (h : EvR te σ H (iv xs)) (bx : Bits xs) (lx : xs.length ≤ 10000) : EvL (tMeth cs.Gate "rest" (sp_Gate_rest cs) [] E ta (tCons te tNil)) σ H (iv (restR ds xs)) := by
  obtain ⟨dx, ho⟩ := G.ob
  refine el_meth ha ho gfs_rest (eap_er h eap_nil) fun vs H1 e1 hv Q q => ?_
  obtain ⟨p, _, rfl, hp, rfl⟩ := hv
  exact ⟨g, da, p, ds, xs, rfl, G.mono e1, hp, bx, lx, q⟩


/-! ## _law_rest_by -/
def sp__law_rest_by : Sp := fun vs H Q _ => ∃ (a b : Addr) (xs ds : List Int), vs = [.ref a, .ref b] ∧ H a = some (.lst (iv xs)) ∧ H b = some (.lst (iv ds)) ∧ Bits xs ∧ Bits ds ∧ 0 < ds.length ∧ ds.length ≤ 100 ∧ RetL (iv (restR ds xs)) H Q
theorem has__law_rest_by (T : Txt K mg cs) : Has P w K mg base 2 "_law_rest_by" ["_law_row", "_law_divisor"] sp__law_rest_by := by
  refine T.d__law_rest_by.ok sc__law_rest_by (fun vs H Q E h => ?_) (fun f cdv A outer s H vs Q E hr h => ?_)
  · obtain ⟨a, b, xs, ds, rfl, _⟩ := h
    rfl
  · obtain ⟨a, b, xs, ds, rfl, ha, hb, bx, bd, hp, ld, q⟩ := h
    refine ⟨_, (pss_cons (ps_set (i := 2) sc__law_rest_by.nd rfl (Or.inl rfl) (pe_op op_rep (pe_lst (pa_cons pe_int pa_nil)) (pe_op op_sub (pe_callB (kk_len K) (by rfl) T.z_len b_len (pa_cons (pv 1) pa_nil)) pe_int)))
      (pss_cons (ps_for (passes_of rfl) rfl (pi_list (pv 0)) (pg_name (i := 3) sc__law_rest_by.nd rfl (Or.inl rfl)) (pss_one (ps_set (i := 2) sc__law_rest_by.nd rfl (Or.inl rfl) (pe_callH (has__law_step_by T) (hr.mono (by decide)) passL (pa_cons (pv 2) (pa_cons (pv 3) (pa_cons (pv 1) pa_nil)))))))
      (pss_one (ps_ret (pv 2))))), ?_⟩
    refine q_asgL (xs := iv (List.replicate (ds.length - 1) 0)) (el_repN ev_c (ev_is (v := .int ((ds.length : Int) - 1)) (by walk_at "cg ev") (congrArg V.int (by omega))) (by omega)) fun p H1 n1 e1 h1 => ?_
    refine q_forLn (ev_var rfl) (by walk_at "cg sq") (fun i σ' H' => Ex H H' ∧ ∃ (p : Addr) (v : Option V), σ' = [some (.ref a), some (.ref b), some (.ref p), v] ∧ H p = none ∧ H' p = some (.lst (iv (prun ds (xs.take i)).2))) ?_ (fun i σ' H' _ h => sq_of (h.1 _ _ ha)) ?_ ?_
    · exact fun H2 e2 => ⟨e1.trans e2, p, none, rfl, n1, e2 _ _ h1⟩
    · rintro i x σ' H' hx ⟨e', p, v, rfl, np, hpp⟩
      obtain ⟨n, hn, rfl⟩ := iv_at hx
      have L := prun_len hp (xs.take i)
      have B := prun_bits bd (bx.take i)
      have step : prun ds (xs.take (i + 1)) = pstep ds (prun ds (xs.take i)) n := by
        rw [List.take_add_one, hn]
        exact prun_snoc _ _ _
      refine s_asgC (by walk_at "cg ea") fun H8 e8 => ⟨p, b, (prun ds (xs.take i)).2, ds, n, rfl, e8 _ _ hpp, e8 _ _ (e' _ _ hb), B.2, bd, bx.get hn, by omega, fun p2 H9 n9 e9 h9 => ⟨(e'.trans e8).trans e9, p2, _, rfl, fresh_back (e'.trans e8) n9, ?_⟩⟩
      rw [step]
      exact h9
    · rintro σ' H' ⟨e', p, v, rfl, np, hpp⟩
      rw [iv_len, List.take_length] at hpp
      exact s_ret (ev_var rfl) fun H8 e8 => q p _ np (e'.trans e8) (e8 _ _ hpp)


/-! ## _law_reach_by -/
def sp__law_reach_by : Sp := fun vs H Q _ => ∃ (b : Addr) (ds : List Int), vs = [.ref b] ∧ H b = some (.lst (iv ds)) ∧ IsDiv ds ∧ RetV (.int (rch ds : Nat)) H Q
theorem has__law_reach_by (T : Txt K mg cs) : Has P w K mg base 2 "_law_reach_by" ["_law_divisor"] sp__law_reach_by := by
  refine T.d__law_reach_by.ok sc__law_reach_by (fun vs H Q E h => ?_) (fun f cdv A outer s H vs Q E hr h => ?_)
  · obtain ⟨b, ds, rfl, _⟩ := h
    rfl
  · obtain ⟨b, ds, rfl, hb, D, q⟩ := h
    refine ⟨_, (pss_cons (ps_set (i := 1) sc__law_reach_by.nd rfl (Or.inl rfl) (pe_op op_cat (pe_op op_rep (pe_lst (pa_cons pe_int pa_nil)) (pe_op op_sub (pe_callB (kk_len K) (by rfl) T.z_len b_len (pa_cons (pv 0) pa_nil)) pe_int)) (pe_lst (pa_cons pe_int pa_nil))))
      (pss_cons (ps_set (i := 2) sc__law_reach_by.nd rfl (Or.inl rfl) (pv 1))
      (pss_cons (ps_for (passes_of rfl) rfl (pi_range2 (by rfl) T.z_range (pa_cons pe_int (pa_cons pe_int pa_nil))) (pg_name (i := 3) sc__law_reach_by.nd rfl (Or.inl rfl)) (pss_cons (ps_set (i := 2) sc__law_reach_by.nd rfl (Or.inl rfl) (pe_callH (has__law_step_by T) (hr.mono (by decide)) passL (pa_cons (pv 2) (pa_cons pe_int (pa_cons (pv 0) pa_nil)))))
      (pss_one (ps_if (pt_cmpR (kk_eqD K hr.units) (pv 2) (pv 1) (nomark _)) (pss_one (ps_ret (pv 3))) pss_nil))))
      (pss_one (ps_ret pe_int))))), ?_⟩
    have h2 := D.two
    have ht := D.top
    have I := rch_is D
    have it := rch_top D
    refine q_asgL (xs := iv (beg ds)) (el_catI (xs := List.replicate (ds.length - 2) 0) (ys := [1]) (er_L (el_repN ev_c (ev_is (v := .int ((ds.length : Int) - 2)) (by walk_at "cg ev") (congrArg V.int (by omega))) (by omega))) (er_L (el_oneI ev_c)) (by rw [List.length_replicate]; show _ + 1 ≤ _; omega)) fun p H1 n1 e1 h1 => ?_
    refine q_asg (ev_var rfl) fun H2 e2 => ?_
    refine q_forR2 (lo := 1) (n := 4096) (by walk_at "cg ea") (by omega) (fun i σ' H' => Ex H H' ∧ H' p = some (.lst (iv (beg ds))) ∧ (∀ k, 1 ≤ k → k ≤ i → its ds k (beg ds) ≠ beg ds) ∧ ∃ (p2 : Addr) (v : Option V), σ' = [some (.ref b), some (.ref p), some (.ref p2), v] ∧ H' p2 = some (.lst (iv (its ds i (beg ds))))) ?_ ?_ ?_
    · exact fun H3 e3 => ⟨(e1.trans e2).trans e3, e3 _ _ (e2 _ _ h1), fun k h1 h2 => by omega, p, none, rfl, e3 _ _ (e2 _ _ h1)⟩
    · rintro i σ' H' hi ⟨e', hp, no, p2, v, rfl, hp2⟩
      have R := its_row D (beg_row D) i
      refine q_asgC (by walk_at "cg ea") fun H8 e8 => ⟨p2, b, its ds i (beg ds), ds, 0, rfl, e8 _ _ hp2, e8 _ _ (e' _ _ hb), R.1, D.bits, .inl rfl, by rw [R.2]; omega, fun p3 H9 n9 e9 h9 => ?_⟩
      have hp9 : H9 p = some (.lst (iv (beg ds))) := e9 _ _ (e8 _ _ hp)
      have h9' : H9 p3 = some (.lst (iv (its ds (i + 1) (beg ds)))) := h9
      refine s_when (et_test (ev_eqR (er_var rfl h9') (er_var rfl hp9))) (fun hc H10 e10 => ?_) (fun hc H10 e10 => ?_)
      · refine s_ret (ev_var rfl) fun H11 e11 => ?_
        have hc' : its ds (i + 1) (beg ds) = beg ds := of_decide_eq_true hc
        have er : rch ds = i + 1 := by
          have a : ¬ rch ds < i + 1 := fun h => no _ I.1.pos (by omega) I.1.back
          have b : ¬ i + 1 < rch ds := fun h => I.1.least _ (by omega) h hc'
          omega
        have z : (1 : Int) + (i : Int) = ((rch ds : Nat) : Int) := by rw [er]; omega
        rw [z]
        exact q _ ((((e'.trans e8).trans e9).trans e10).trans e11)
      · refine ⟨(((e'.trans e8).trans e9).trans e10), e10 _ _ hp9, fun k h1 h2 => ?_, p3, _, rfl, e10 _ _ h9'⟩
        by_cases hk : k ≤ i
        · exact no k h1 hk
        · have : k = i + 1 := by omega
          subst this
          exact of_decide_eq_false hc
    · rintro σ' H' ⟨e', hp, no, _⟩
      exact absurd I.1.back (no _ I.1.pos (by omega))


/-! ## is_count, Gate.later -/
def countB : V → Option Bool
  | .int i => some (decide (0 ≤ i) && decide (i ≤ 1000000000000000000))
  | .bl _ => some false
  | .non => some false
  | _ => none
def sp_is_count : Sp := fun vs H Q _ => ∃ (v : V) (b : Bool), vs = [v] ∧ countB v = some b ∧ RetV (.bl b) H Q
theorem has_is_count (T : Txt K mg cs) : Has P w K mg base 1 "is_count" ["value"] sp_is_count := by
  refine T.d_is_count.ok sc_is_count (fun vs H Q E h => ?_) (fun f cdv A outer s H vs Q E hr h => ?_)
  · obtain ⟨v, b, rfl, _⟩ := h
    rfl
  · obtain ⟨v, b, rfl, hv, q⟩ := h
    refine ⟨_, (pss_cons (ps_if (PW.pt (pw_or (pt_not (pt_val (pe_callB (kk_isi K) (by rfl) T.z_isinstance b_isinstance (pa_cons (pv 0) (pa_cons (pe_bltn (v := .ty "int") (u := .type "int") (by rfl) T.z_int b_int rfl) pa_nil))))) (pw_or1 (pt_val (pe_callB (kk_isi K) (by rfl) T.z_isinstance b_isinstance (pa_cons (pv 0) (pa_cons (pe_bltn (v := .ty "bool") (u := .type "bool") (by rfl) T.z_bool b_bool rfl) pa_nil))))))) (pss_one (ps_ret pe_bl)) pss_nil)
      (pss_one (ps_ret (pe_chain op_le op_le pe_int (pv 0) (pe_globI T.g_MOST_NOUGHTS))))), ?_⟩
    cases v with
    | int i =>
      cases hv
      refine q_when (b := false) (et_is (et_or (a := false) (et_is (et_not (et_B (ev_isiF (ev_var rfl) rfl kit_int_int))) rfl) (fun _ => et_B (ev_isiF (ev_var rfl) rfl kit_int_bool))) rfl) (fun h => nomatch h) (fun _ H1 e1 => ?_)
      obtain ⟨t, gm⟩ := T.g_MOST_NOUGHTS
      exact s_ret (ev_chain ev_c (ev_var rfl) ev_c) fun H2 e2 => q H2 (e1.trans e2)
    | bl k =>
      cases hv
      refine q_when (b := true) (et_is (et_or (a := false) (et_is (et_not (et_B (ev_isiF (ev_var rfl) rfl kit_bool_int))) rfl) (fun _ => et_B (ev_isiF (ev_var rfl) rfl kit_bool_bool))) rfl) (fun _ H1 e1 => ?_) (fun h => nomatch h)
      exact s_ret ev_c fun H2 e2 => q H2 (e1.trans e2)
    | non =>
      cases hv
      refine q_when (b := true) (et_is (et_or (a := true) (et_is (et_not (et_B (ev_isiF (ev_var rfl) rfl kit_NoneType_int))) rfl) (b := false) (fun h => nomatch h)) rfl) (fun _ H1 e1 => ?_) (fun h => nomatch h)
      exact s_ret ev_c fun H2 e2 => q H2 (e1.trans e2)
    | str _ => cases hv
    | byt _ => cases hv
    | flt _ => cases hv
    | ref _ => cases hv
    | ty _ => cases hv
theorem gfs_later {r : Int} {da : Addr} {w : Int} {ev : Bool} : (gfs r da w ev).lookup ("later" : Str) = none := gfs_no (by decide +kernel) (by decide +kernel) (by decide +kernel) (by decide +kernel)
def sp_Gate_later (cs : Cs) : Sp := fun vs H Q E => ∃ (g da a : Addr) (v : V) (ds R : List Int), vs = [.ref g, .ref a, v] ∧ GateAt cs H g da ds ∧ H a = some (.lst (iv R)) ∧ RowOf (ds.length - 1) R ∧
  ((∃ m : Nat, v = .int (m : Int) ∧ m ≤ 1000000000000000000 ∧ RetL (iv (its ds (m % rch ds) R)) H Q) ∨ (countB v = some false ∧ ∀ H', Ex H H' → E (.ref cs.NoCount) none H'))
theorem has_Gate_later (T : Txt K mg cs) : HasM P w K mg base 6 cs.Gate "later" ["self", "rest", "many"] (sp_Gate_later cs) := by
  refine T.m_Gate_later.ok sc_Gate_later (fun vs H Q E h => ?_) (fun f cdv A outer s H vs Q E hr h => ?_)
  · obtain ⟨g, da, a, v, ds, R, rfl, _⟩ := h
    rfl
  · obtain ⟨g, da, a, v, ds, R, rfl, G, ha, bR, hor⟩ := h
    refine ⟨_, (pss_cons (ps_expr (pe_callH (has_need_row T) (hr.mono (by decide)) (passes_call (takes_of rfl rfl rfl rfl) (fun _ _ _ _ h => h)) (pa_cons (pv 1) pa_nil)))
      (pss_cons (ps_if (pt_cmpR op_neII (pe_callB (kk_len K) (by rfl) T.z_len b_len (pa_cons (pv 1) pa_nil)) (pe_fld (pv 0) rfl) (nomark _)) (pss_one ps_never) pss_nil)
      (pss_cons (ps_if (pt_not (pt_val (pe_callH (has_is_count T) (hr.mono (by decide)) (passes_call (takes_of rfl rfl rfl rfl) (fun _ _ _ _ h => h)) (pa_cons (pv 2) pa_nil)))) (pss_one (ps_raise rfl (takes_of rfl rfl rfl rfl) (pmk_own PySem.F.excBase_ValueError T.e_NoCount.x T.e_NoCount.g T.e_NoCount.k T.e_NoCount.r (by exact rfl)))) pss_nil)
      (pss_one (ps_ret (pe_methH (pv 0) T.c_Gate.cl (has_Gate_rest T) (hr.mono (by decide)) (passes_call (takes_of rfl rfl rfl rfl) (fun _ _ _ _ h => h)) (pa_cons (pe_op op_cat (pv 1) (pe_op op_rep (pe_lst (pa_cons pe_int pa_nil)) (pe_op op_mod (pv 2) (pe_fld (pv 0) rfl)))) pa_nil))))))), ?_⟩
    have top := G.D.top
    have it := rch_top G.D
    have ip := (rch_is G.D).1.pos
    refine q_dropC (by walk_at "cg ea") fun H1 e1 => ⟨a, R, rfl, e1 _ _ ha, bR.1, fun H2 e2 => ?_⟩
    have e := e1.trans e2
    have a2 : H2 a = some (.lst (iv R)) := e _ _ ha
    have G2 := G.mono e
    obtain ⟨dx, ho⟩ := G2.ob
    clear e1 e2
    refine q_when (b := false) (et_is (et_test (ev_i0 (ev_lenI (er_var rfl a2)) (ev_fld (ev_var rfl) ho T.c_Gate.cl T.n_Gate_width gfs_width))) (by rw [bR.2]; simp)) (fun h => nomatch h) (fun _ H3 e3 => ?_)
    rcases hor with ⟨m, rfl, hm, q⟩ | ⟨hv, q⟩
    · have cb : countB (.int (m : Int)) = some true := by
        show some (decide ((0 : Int) ≤ (m : Int)) && decide ((m : Int) ≤ 1000000000000000000)) = some true
        rw [decide_eq_true (by omega), decide_eq_true (by omega)]
        rfl
      refine q_when (b := false) (et_is (et_not (et_B (ev_call (vs := [.int (m : Int)]) (by walk_at "cg ea") fun H1 e1 Q q _ => ⟨_, true, rfl, cb, q⟩))) rfl) (fun h => nomatch h) (fun _ H4 e4 => ?_)
      have eH := (e.trans e3).trans e4
      have G4 := G.mono eH
      obtain ⟨dx4, ho4⟩ := G4.ob
      have em : ((m : Int) % ((rch ds : Nat) : Int)) = ((m % rch ds : Nat) : Int) := rfl
      have lm : m % rch ds < rch ds := Nat.mod_lt _ (by omega)
      refine s_retL (xs := iv (its ds (m % rch ds) R)) (el_is (el_rest (xs := R ++ List.replicate (m % rch ds) 0) (ev_var rfl) G4 (er_L (el_catI (er_var rfl (eH _ _ ha)) (er_L (el_repN ev_c (ev_is (ev_mod (ev_var rfl) (ev_fld (ev_var rfl) ho4 T.c_Gate.cl T.n_Gate_reach gfs_reach) (by show (0 : Int) < _; omega)) (congrArg V.int em)) (by omega))) (by rw [List.length_replicate, bR.2]; omega))) (bR.1.append (.rep _ (.inl rfl))) (by rw [List.length_append, List.length_replicate, bR.2]; omega)) ?_) fun p H5 n5 e5 h5 => q p H5 (fresh_back eH n5) (eH.trans e5) h5
      rw [rest_later G.D bR]
    · refine q_when (b := true) (et_is (et_not (et_B (ev_call (vs := [v]) (by walk_at "cg ea") fun H1 e1 Q q _ => ⟨_, false, rfl, hv, q⟩))) rfl) (fun _ H4 e4 => ?_) (fun h => nomatch h)
      exact q H4 ((e.trans e3).trans e4)
theorem el_later {E : XK} {σ : L2.St} {H : Hp} {ta te tm : TE} {g da : Addr} {ds R : List Int} {m : Nat} (ha : Ev ta σ H (.ref g)) (G : GateAt cs H g da ds) (h : EvR te σ H (iv R)) (hm : Ev tm σ H (.int (m : Int))) (bR : RowOf (ds.length - 1) R) (lm : m ≤ 1000000000000000000) : EvL (tMeth cs.Gate "later" (sp_Gate_later cs) [] E ta (tCons te (tCons tm tNil))) σ H (iv (its ds (m % rch ds) R)) := by
  obtain ⟨dx, ho⟩ := G.ob
  refine el_meth ha ho gfs_later (eap_er h (eap_ev hm eap_nil)) fun vs H1 e1 hv Q q => ?_
  obtain ⟨p, _, rfl, hp, _, rfl, rfl⟩ := hv
  exact ⟨g, da, p, _, ds, R, rfl, G.mono e1, hp, bR, .inl ⟨m, rfl, lm, q⟩⟩


/-! ## Gate.check -/
theorem gfs_check {r : Int} {da : Addr} {w : Int} {ev : Bool} : (gfs r da w ev).lookup ("check" : Str) = none := gfs_no (by decide +kernel) (by decide +kernel) (by decide +kernel) (by decide +kernel)
def sp_Gate_check (cs : Cs) : Sp := fun vs H Q _ => ∃ (g da a : Addr) (ds xs : List Int), vs = [.ref g, .ref a] ∧ GateAt cs H g da ds ∧ H a = some (.lst (iv xs)) ∧ Bits xs ∧ xs.length ≤ 9000 ∧ RetL (iv (chk ds xs)) H Q
theorem has_Gate_check (T : Txt K mg cs) : HasM P w K mg base 6 cs.Gate "check" ["self", "row"] (sp_Gate_check cs) := by
  refine T.m_Gate_check.ok sc_Gate_check (fun vs H Q E h => ?_) (fun f cdv A outer s H vs Q E hr h => ?_)
  · obtain ⟨g, da, a, ds, xs, rfl, _⟩ := h
    rfl
  · obtain ⟨g, da, a, ds, xs, rfl, G, ha, bx, lx, q⟩ := h
    refine ⟨_, (pss_cons (ps_expr (pe_callH (has_need_row T) (hr.mono (by decide)) (passes_call (takes_of rfl rfl rfl rfl) (fun _ _ _ _ h => h)) (pa_cons (pv 1) pa_nil)))
      (pss_one (ps_ret (pe_methH (pv 0) T.c_Gate.cl (has_Gate_rest T) (hr.mono (by decide)) (passes_call (takes_of rfl rfl rfl rfl) (fun _ _ _ _ h => h)) (pa_cons (pe_op op_cat (pv 1) (pe_op op_rep (pe_lst (pa_cons pe_int pa_nil)) (pe_fld (pv 0) rfl))) pa_nil))))), ?_⟩
    have top := G.D.top
    refine q_dropC (by walk_at "cg ea") fun H1 e1 => ⟨a, xs, rfl, e1 _ _ ha, bx, fun H2 e2 => ?_⟩
    have e := e1.trans e2
    have a2 : H2 a = some (.lst (iv xs)) := e _ _ ha
    have G2 := G.mono e
    obtain ⟨dx, ho⟩ := G2.ob
    clear e1 e2
    refine s_retL (xs := iv (chk ds xs)) (el_is (el_rest (xs := xs ++ List.replicate (ds.length - 1) 0) (ev_var rfl) G2 (er_L (el_catI (by walk_at "cg er") (er_L (el_repN ev_c (ev_fld (ev_var rfl) ho T.c_Gate.cl T.n_Gate_width gfs_width) (by omega))) (by rw [List.length_replicate]; omega))) (bx.append (.rep _ (.inl rfl))) (by rw [List.length_append, List.length_replicate]; omega)) ?_) fun p H3 n3 e3 h3 => q p H3 (fresh_back e n3) (e.trans e3) h3
    rw [rest_zeros]
    rfl
theorem el_check {E : XK} {σ : L2.St} {H : Hp} {ta te : TE} {g da : Addr} {ds xs : List Int} (ha : Ev ta σ H (.ref g)) (G : GateAt cs H g da ds) (h : EvR te σ H (iv xs)) (bx : Bits xs) (lx : xs.length ≤ 9000) : EvL (tMeth cs.Gate "check" (sp_Gate_check cs) [] E ta (tCons te tNil)) σ H (iv (chk ds xs)) := by
  obtain ⟨dx, ho⟩ := G.ob
  refine el_meth ha ho gfs_check (eap_er h eap_nil) fun vs H1 e1 hv Q q => ?_
  obtain ⟨p, _, rfl, hp, rfl⟩ := hv
  exact ⟨g, da, p, ds, xs, rfl, G.mono e1, hp, bx, lx, q⟩


/-! ## _law_kept -/
def sp__law_kept : Sp := fun vs H Q _ => ∃ (hd : Addr) (L : List Addr) (n : Nat), vs = [.ref hd] ∧ HeldAt H hd L n ∧ RetV (.bl true) H Q
theorem has__law_kept (T : Txt K mg cs) : Has P w K mg base 1 "_law_kept" ["_law_held"] sp__law_kept := by
  refine T.d__law_kept.ok sc__law_kept (fun vs H Q E h => ?_) (fun f cdv A outer s H vs Q E hr h => ?_)
  · obtain ⟨hd, L, n, rfl, _⟩ := h
    rfl
  · obtain ⟨hd, L, n, rfl, ⟨ts, h1, h2, h3⟩, q⟩ := h
    refine ⟨_, (pss_cons (ps_for (passes_of rfl) rfl (pi_list (pv 0)) (pg_tup rfl (pgs_cons (pg_name (i := 1) sc__law_kept.nd rfl (Or.inl rfl)) (pgs_cons (pg_name (i := 2) sc__law_kept.nd rfl (Or.inl rfl)) pgs_nil))) (pss_one (ps_if (pt_cmpR (kk_neD K hr.units) (pv 1) (pv 2) (nomark _)) (pss_one (ps_ret pe_bl)) pss_nil)))
      (pss_one (ps_ret pe_bl))), ?_⟩
    refine q_forL (ev_var rfl) (sq_of h1) (fun i σ' H' => Ex H H' ∧ ∃ v1 v2, σ' = [some (.ref hd), v1, v2]) (fun H1 e1 => ⟨e1, none, none, rfl⟩) (fun i σ' H' _ h => sq_of (h.1 _ _ h1)) ?_ ?_
    · rintro i x σ' H' hx ⟨e, v1, v2, rfl⟩
      rw [List.getElem?_map] at hx
      cases ht : ts[i]? with
      | none => rw [ht] at hx; cases hx
      | some t =>
        rw [ht] at hx
        cases hx
        obtain ⟨a, b, ws, k1, k2, k3, _⟩ := h3 t (List.mem_of_getElem? ht)
        refine tup2_go (st_of (e _ _ k1)) ?_
        refine s_when (et_test (ev_neR (xs := ws) (ys := ws) (er_var rfl (e _ _ k2)) (er_var rfl (e _ _ k3)))) (fun hb => by simp at hb) (fun _ H2 e2 => ⟨e.trans e2, _, _, rfl⟩)
    · rintro σ' H' ⟨e, v1, v2, rfl⟩
      exact s_ret ev_c fun H2 e2 => q H2 (e.trans e2)


/-! ## Register: what stands at its address -/
def rfs (ga : Addr) (m : Int) (ra : Addr) : List (Str × V) := putF "_rest" (.ref ra) (putF "many" (.int m) (putF "gate" (.ref ga) []))
theorem rfs_no {ga : Addr} {i : Int} {ra : Addr} {m : Str} (h1 : ¬ m = "_rest") (h2 : ¬ m = "many") (h3 : ¬ m = "gate") : (rfs ga i ra).lookup m = none := by
  unfold rfs
  rw [lookup_putF, if_neg h1, lookup_putF, if_neg h2, lookup_putF, if_neg h3]
  rfl
theorem rfs_rest {ga : Addr} {i : Int} {ra : Addr} : (rfs ga i ra).lookup ("_rest" : Str) = some (V.ref ra) := by
  unfold rfs
  rw [lookup_putF, if_pos rfl]
theorem rfs_many {ga : Addr} {i : Int} {ra : Addr} : (rfs ga i ra).lookup ("many" : Str) = some (V.int i) := by
  unfold rfs
  rw [lookup_putF, if_neg (by decide +kernel), lookup_putF, if_pos rfl]
theorem rfs_gate {ga : Addr} {i : Int} {ra : Addr} : (rfs ga i ra).lookup ("gate" : Str) = some (V.ref ga) := by
  unfold rfs
  rw [lookup_putF, if_neg (by decide +kernel), lookup_putF, if_neg (by decide +kernel), lookup_putF, if_pos rfl]
theorem rfs_put {ga : Addr} {i : Int} {ra : Addr} : (rfs ga i ra).lookup ("put" : Str) = none := rfs_no (by decide +kernel) (by decide +kernel) (by decide +kernel)
theorem rfs_joined {ga : Addr} {i : Int} {ra : Addr} : (rfs ga i ra).lookup ("joined" : Str) = none := rfs_no (by decide +kernel) (by decide +kernel) (by decide +kernel)
structure RegAt (cs : Cs) (H : Hp) (r g da ra : Addr) (ds R : List Int) (m : Int) : Prop where
  ob : ∃ dx, H r = some (.ins cs.Register dx (rfs g m ra))
  G : GateAt cs H g da ds
  rv : H ra = some (.lst (iv R))
  row : RowOf (ds.length - 1) R
theorem RegAt.mono {H H' : Hp} {r g da ra : Addr} {ds R : List Int} {m : Int} (h : RegAt cs H r g da ra ds R m) (e : Ex H H') : RegAt cs H' r g da ra ds R m := ⟨h.ob.imp fun _ z => e _ _ z, h.G.mono e, e _ _ h.rv, h.row⟩
def sp_Register___init__ (cs : Cs) : Sp := fun vs H Q _ => ∃ (p dx g da : Addr) (ds : List Int), vs = [.ref p, .ref g] ∧ H p = some (.ins cs.Register dx []) ∧ GateAt cs H g da ds ∧ ∀ g2 d2 ra H', H g2 = none → H d2 = none → H ra = none → Kp p H H' → RegAt cs H' p g2 d2 ra ds (List.replicate (ds.length - 1) 0) 0 → Q .non H'
theorem has_Register___init__ (T : Txt K mg cs) : HasI P w K mg base 8 cs.Register ["self", "gate"] (sp_Register___init__ cs) := by
  refine T.i_Register.ok sc_Register___init__ (fun vs H Q E h => ?_) (fun f cdv A outer s H vs Q E hr h => ?_)
  · obtain ⟨p, dx, g, da, ds, rfl, _⟩ := h
    rfl
  · obtain ⟨p, dx, g, da, ds, rfl, hp, G, q⟩ := h
    refine ⟨_, (pss_cons (ps_fld (pv 0) (pe_makeH (has_Gate___init__ T) (hr.mono (by decide)) T.c_Gate.g (passes_call (takes_of rfl rfl rfl rfl) (fun _ _ _ _ h => h)) (pa_cons (pe_fld (pv 1) rfl) pa_nil)) rfl)
      (pss_cons (ps_fld (pv 0) pe_int rfl)
      (pss_one (ps_fld (pv 0) (pe_op op_rep (pe_lst (pa_cons pe_int pa_nil)) (pe_fld (pe_fld (pv 0) rfl) rfl)) rfl)))), ?_⟩
    have D := G.D
    have top := D.top
    have two := D.two
    obtain ⟨dxg, hog⟩ := G.ob
    refine q_fldW ?_
    refine eg_make (cs := cs) D (er_ev (ev_fld (ev_var rfl) hog T.c_Gate.cl T.n_Gate_divisor gfs_divisor) G.dv) H (.refl H) _ fun g2 d2 H1 ng2 nd2 e1 G2 => var_go rfl ⟨p, cs.Register, dx, [], rfl, e1 _ _ hp, T.c_Register.cl, T.n_Register_gate, by decide, ?_⟩
    have npg : g2 ≠ p := (ne_of_none hp ng2).symm
    have npd : d2 ≠ p := (ne_of_none hp nd2).symm
    have k2 : Kp p H (upd H1 p (.ins cs.Register dx (putF "gate" (.ref g2) []))) := (Kp.of e1).trans .upd
    have h2 : (upd H1 p (.ins cs.Register dx (putF "gate" (.ref g2) []))) p = some (.ins cs.Register dx (putF "gate" (.ref g2) [])) := upd_same
    have G3 : GateAt cs (upd H1 p (.ins cs.Register dx (putF "gate" (.ref g2) []))) g2 d2 ds := G2.kp .upd npg npd
    generalize (upd H1 p (.ins cs.Register dx (putF "gate" (.ref g2) []))) = H2 at k2 h2 G3 ⊢
    refine q_fld (v := .int 0) ev_c (ev_var rfl) h2 T.c_Register.cl T.n_Register_many (by show 1 < 1000; decide) fun H3 e3 => ?_
    have k4 : Kp p H (upd H3 p (.ins cs.Register dx (putF "many" (.int 0) (putF "gate" (.ref g2) [])))) := (k2.trans (Kp.of e3)).trans .upd
    have h4 : (upd H3 p (.ins cs.Register dx (putF "many" (.int 0) (putF "gate" (.ref g2) [])))) p = some (.ins cs.Register dx (putF "many" (.int 0) (putF "gate" (.ref g2) []))) := upd_same
    have G4 : GateAt cs (upd H3 p (.ins cs.Register dx (putF "many" (.int 0) (putF "gate" (.ref g2) [])))) g2 d2 ds := (G3.mono e3).kp .upd npg npd
    generalize (upd H3 p (.ins cs.Register dx (putF "many" (.int 0) (putF "gate" (.ref g2) [])))) = H4 at k4 h4 G4 ⊢
    obtain ⟨dx2, ho2⟩ := G4.ob
    have lk : (putF "many" (V.int 0) (putF "gate" (V.ref g2) [])).lookup ("gate" : Str) = some (V.ref g2) := by
      rw [lookup_putF, if_neg (by decide +kernel), lookup_putF, if_pos rfl]
    refine s_fldL (xs := iv (List.replicate (ds.length - 1) 0)) (el_repN ev_c (ev_fld (ev_fld (ev_var rfl) h4 T.c_Register.cl T.n_Register_gate lk) ho2 T.c_Gate.cl T.n_Gate_width gfs_width) (by omega)) (ev_var rfl) h4 T.c_Register.cl T.n_Register__rest (Nat.lt_of_le_of_lt (putF_len _ _ _) (by show 2 < 1000; decide)) fun ra H5 n5 e5 h5 => ?_
    have nrp : ra ≠ p := (ne_of_none h4 n5).symm
    refine q g2 d2 ra _ (fresh_back (.refl H) ng2) nd2 ?_ ((k4.trans (Kp.of e5)).trans .upd) ⟨⟨dx, upd_same⟩, (G4.mono e5).kp .upd npg npd, by rw [upd_ne nrp]; exact h5, rep_row _⟩
    cases hh : H ra with
    | none => rfl
    | some o =>
      rw [k4 _ _ nrp hh] at n5
      cases n5
/-- Register(..), told by what it is -/
theorem reg_make {E : XK} {σ : L2.St} {H : Hp} {tx : TE} {g da : Addr} {ds : List Int} (h : Ev tx σ H (.ref g)) (G : GateAt cs H g da ds) {Q : VK}
    (k : ∀ r g2 d2 ra H2, H r = none → H g2 = none → H d2 = none → H ra = none → Ex H H2 → RegAt cs H2 r g2 d2 ra ds (List.replicate (ds.length - 1) 0) 0 → Q (.ref r) H2) : tMake cs.Register (sp_Register___init__ cs) [] E (tCons tx tNil) σ H Q :=
  h H (.refl H) _ fun H1 e1 => fun y dy ny nd ne => ⟨y, dy, g, da, ds, rfl, upd_same, by
    obtain ⟨dx, ho⟩ := G.ob
    exact ⟨G.D, ⟨dx, upd2_at ny nd (e1 _ _ ho)⟩, upd2_at ny nd (e1 _ _ G.dv)⟩, fun g2 d2 ra H' n1 n2 n3 kp R => ⟨rfl, k y g2 d2 ra H' (fresh_back e1 ny) (fresh_back e1 (upd2_none n1).1) (fresh_back e1 (upd2_none n2).1) (fresh_back e1 (upd2_none n3).1) (e1.trans (upd2_ex ny nd kp)) R⟩⟩


/-! ## Register: what it takes and tells -/
theorem rfs_mrest {ga : Addr} {i : Int} {ra : Addr} : (rfs ga i ra).lookup ("rest" : Str) = none := rfs_no (by decide +kernel) (by decide +kernel) (by decide +kernel)
theorem rfs_check {ga : Addr} {i : Int} {ra : Addr} : (rfs ga i ra).lookup ("check" : Str) = none := rfs_no (by decide +kernel) (by decide +kernel) (by decide +kernel)
theorem rfs_anew {ga : Addr} {i : Int} {ra : Addr} : (rfs ga i ra).lookup ("anew" : Str) = none := rfs_no (by decide +kernel) (by decide +kernel) (by decide +kernel)
theorem rfs_len {ga : Addr} {i : Int} {ra : Addr} : (rfs ga i ra).length < 1000 := by
  have h1 := putF_len "gate" (.ref ga) []
  have h2 := putF_len "many" (.int i) (putF "gate" (.ref ga) [])
  have h3 := putF_len "_rest" (.ref ra) (putF "many" (.int i) (putF "gate" (.ref ga) []))
  unfold rfs
  simp only [List.length_nil] at h1
  omega
theorem rfs_setmany {ga : Addr} {i j : Int} {ra : Addr} : putF "many" (.int j) (rfs ga i ra) = rfs ga j ra := rfl
theorem rfs_setrest {ga : Addr} {i : Int} {ra rb : Addr} : putF "_rest" (.ref rb) (rfs ga i ra) = rfs ga i rb := rfl
section
variable {H H' : Hp} {r g da ra : Addr} {ds R : List Int} {m : Int}
theorem RegAt.ne (h : RegAt cs H r g da ra ds R m) : g ≠ r ∧ da ≠ r ∧ ra ≠ r := by
  obtain ⟨dx, ho⟩ := h.ob
  obtain ⟨dxg, hog⟩ := h.G.ob
  refine ⟨fun e => ?_, ne_of h.G.dv ho (by intro z; cases z), ne_of h.rv ho (by intro z; cases z)⟩
  rw [e, ho] at hog
  have z : rfs g m ra = gfs (rch ds : Nat) da (ds.length - 1 : Nat) (evenB ds) := by
    injection hog with hog
    injection hog
  have z2 := congrArg (List.lookup ("many" : Str)) z
  rw [rfs_many, gfs_no (by decide +kernel) (by decide +kernel) (by decide +kernel) (by decide +kernel)] at z2
  cases z2
theorem RegAt.kp {l : Addr} (h : RegAt cs H r g da ra ds R m) (k : Kp l H H') (n0 : r ≠ l) (n1 : g ≠ l) (n2 : da ≠ l) (n3 : ra ≠ l) : RegAt cs H' r g da ra ds R m := ⟨h.ob.imp fun _ z => k _ _ n0 z, h.G.kp k n1 n2, k _ _ n3 h.rv, h.row⟩
theorem RegAt.isMany (h : RegAt cs H r g da ra ds R m) {m' : Int} (e : m = m') : RegAt cs H r g da ra ds R m' := e ▸ h
theorem RegAt.isRow (h : RegAt cs H r g da ra ds R m) {R' : List Int} (e : R = R') : RegAt cs H r g da ra ds R' m := e ▸ h
end
section
variable {H H' : Hp} {r g da ra dx : Addr} {ds R : List Int} {m : Int}
theorem RegAt.setMany (h : RegAt cs H r g da ra ds R m) (m' : Int) : RegAt cs (upd H r (.ins cs.Register dx (putF "many" (.int m') (rfs g m ra)))) r g da ra ds R m' :=
  ⟨⟨dx, by rw [upd_same, rfs_setmany]⟩, h.G.kp .upd h.ne.1 h.ne.2.1, by rw [upd_ne h.ne.2.2]; exact h.rv, h.row⟩
theorem RegAt.setRest (h : RegAt cs H r g da ra ds R m) {rb : Addr} {R' : List Int} (hb : H rb = some (.lst (iv R'))) (b : RowOf (ds.length - 1) R') : RegAt cs (upd H r (.ins cs.Register dx (putF "_rest" (.ref rb) (rfs g m ra)))) r g da rb ds R' m := by
  obtain ⟨dx', ho⟩ := h.ob
  exact ⟨⟨dx, by rw [upd_same, rfs_setrest]⟩, h.G.kp .upd h.ne.1 h.ne.2.1, by rw [upd_ne (ne_of hb ho (by intro z; cases z))]; exact hb, b⟩
end
theorem addR_same {w : Nat} {A B : List Int} (h : RowOf w A) (k : RowOf w B) : addR A B = xorR A B := by
  have l : ∀ X : List Int, X.length = w → longer X w = X := fun X e => by
    unfold longer
    rw [e, Nat.sub_self]
    rfl
  unfold addR
  rw [h.2, k.2, Nat.max_self, l A h.2, l B k.2]
/-- no Register -/
def NotReg (K : PySem.W.Frag) (cs : Cs) (H : Hp) (v : V) : Prop := ∃ t : Value, PySem.W.kitOne K t (.ref cs.Register) = some false ∧ ∀ H1, Ex H H1 → TyX K H1 v t
theorem NotReg.mono {H H' : Hp} {v : V} (h : NotReg K cs H v) (e : Ex H H') : NotReg K cs H' v := h.imp fun _ z => ⟨z.1, fun H1 e1 => z.2 H1 (e.trans e1)⟩
def sp_Register_put (K : PySem.W.Frag) (cs : Cs) : Sp := fun vs H Q E => ∃ (r g da ra : Addr) (ds R : List Int) (m : Int) (v : V), vs = [.ref r, v] ∧ RegAt cs H r g da ra ds R m ∧
  ((∃ s : Int, v = .int s ∧ (s = 0 ∨ s = 1) ∧ ∀ rb H', H rb = none → Kp r H H' → RegAt cs H' r g da rb ds (stepR ds R s) (m + 1) → Q .non H') ∨ (NotSign K H v ∧ ∀ H', Ex H H' → E (.ref cs.NoSign) none H'))
theorem has_Register_put (T : Txt K mg cs) : HasM P w K mg base 2 cs.Register "put" ["self", "sign"] (sp_Register_put K cs) := by
  refine T.m_Register_put.ok sc_Register_put (fun vs H Q E h => ?_) (fun f cdv A outer s H vs Q E hr h => ?_)
  · obtain ⟨r, g, da, ra, ds, R, m, v, rfl, _⟩ := h
    rfl
  · obtain ⟨r, g, da, ra, ds, R, m, v, rfl, RA, hor⟩ := h
    refine ⟨_, (pss_cons (ps_if (pt_not (pt_val (pe_callH (has_is_sign T) (hr.mono (by decide)) (passes_call (takes_of rfl rfl rfl rfl) (fun _ _ _ _ h => h)) (pa_cons (pv 1) pa_nil)))) (pss_one (ps_raise rfl (takes_of rfl rfl rfl rfl) (pmk_own PySem.F.excBase_ValueError T.e_NoSign.x T.e_NoSign.g T.e_NoSign.k T.e_NoSign.r (by exact rfl)))) pss_nil)
      (pss_cons (ps_fld (pv 0) (pe_callH (has_reduced T) (hr.mono (by decide)) (passes_call (takes_of rfl rfl rfl rfl) (fun _ _ _ _ h => h)) (pa_cons (pe_op op_cat (pe_fld (pv 0) rfl) (pe_lst (pa_cons (pv 1) pa_nil))) (pa_cons (pe_fld (pe_fld (pv 0) rfl) rfl) pa_nil))) rfl)
      (pss_one (ps_fldaug (pv 0) pe_int in_add)))), ?_⟩
    rcases hor with ⟨s, rfl, hs, q⟩ | ⟨nx, q⟩
    · refine q_when (b := false) (et_is (et_not (et_B (ev_call (vs := [.int s]) (by walk_at "cg ea") fun H1 e1 Q q _ => ⟨_, true, rfl, .inl ⟨rfl, s, rfl, hs⟩, q⟩))) rfl) (fun h => nomatch h) (fun _ H1 e1 => ?_)
      have R1 := RA.mono e1
      obtain ⟨dx, ho⟩ := R1.ob
      obtain ⟨dxg, hog⟩ := R1.G.ob
      have two := R1.G.D.two
      have top := R1.G.D.top
      have row := R1.row
      have lR : (R ++ [s]).length = ds.length := by rw [List.length_append, row.2]; show _ + 1 = _; omega
      refine q_fldL (xs := iv (stepR ds R s)) ?_ (ev_var rfl) ho T.c_Register.cl T.n_Register__rest rfs_len fun rb H2 n2 e2 h2 => ?_
      · refine el_callP (eap_er (er_L (el_catI (er_ev (ev_fld (ev_var rfl) ho T.c_Register.cl T.n_Register__rest rfs_rest) R1.rv) (er_L (el_oneI (ev_var rfl))) (by rw [row.2, List.length_singleton]; omega))) (eap_ev (ev_fld (ev_fld (ev_var rfl) ho T.c_Register.cl T.n_Register_gate rfs_gate) hog T.c_Gate.cl T.n_Gate_divisor gfs_divisor) eap_nil)) ?_
        rintro vs H2 e2 ⟨p, _, rfl, hp, _, rfl, rfl⟩ Q' q'
        exact ⟨p, da, R ++ [s], ds, rfl, hp, e2 _ _ R1.G.dv, row.1.append (.one hs), R1.G.D.bits, lR, by omega, by omega, q'⟩
      · have N := (R1.mono e2).ne
        have k3 : Kp r H (upd H2 r (.ins cs.Register dx (putF "_rest" (.ref rb) (rfs g m ra)))) := (Kp.of (e1.trans e2)).trans .upd
        have R3 := (R1.mono e2).setRest (dx := dx) h2 (step_row R1.G.D row hs)
        have ho3 : (upd H2 r (.ins cs.Register dx (putF "_rest" (.ref rb) (rfs g m ra)))) r = some (.ins cs.Register dx (rfs g m rb)) := upd_same
        generalize (upd H2 r (.ins cs.Register dx (putF "_rest" (.ref rb) (rfs g m ra)))) = H3 at k3 R3 ho3 ⊢
        exact ⟨.ref r, rfl, r, cs.Register, dx, _, .int m, rfl, ho3, T.c_Register.cl, T.n_Register_many, rfs_many, m, 1, rfl, rfl, dx, _, ho3, rfs_len, q rb _ (fresh_back e1 n2) (k3.trans .upd) (R3.setMany _)⟩
    · exact q_when (b := true) (et_is (et_not (et_B (ev_call (vs := [v]) (by walk_at "cg ea") fun H1 e1 Q q _ => ⟨_, false, rfl, .inr ⟨rfl, nx.mono e1⟩, q⟩))) rfl) (fun _ H1 e1 => q H1 e1) (fun h => nomatch h)
def sp_Register_anew (cs : Cs) : Sp := fun vs H Q _ => ∃ (r g da ra : Addr) (ds R : List Int) (m : Int), vs = [.ref r] ∧ RegAt cs H r g da ra ds R m ∧ ∀ rb H', H rb = none → Kp r H H' → RegAt cs H' r g da rb ds (zer ds) 0 → Q .non H'
theorem has_Register_anew (T : Txt K mg cs) : HasM P w K mg base 1 cs.Register "anew" ["self"] (sp_Register_anew cs) := by
  refine T.m_Register_anew.ok sc_Register_anew (fun vs H Q E h => ?_) (fun f cdv A outer s H vs Q E hr h => ?_)
  · obtain ⟨r, g, da, ra, ds, R, m, rfl, _⟩ := h
    rfl
  · obtain ⟨r, g, da, ra, ds, R, m, rfl, RA, q⟩ := h
    refine ⟨_, (pss_cons (ps_fld (pv 0) pe_int rfl)
      (pss_one (ps_fld (pv 0) (pe_op op_rep (pe_lst (pa_cons pe_int pa_nil)) (pe_fld (pe_fld (pv 0) rfl) rfl)) rfl))), ?_⟩
    obtain ⟨dx, ho⟩ := RA.ob
    have top := RA.G.D.top
    refine q_fld (v := .int 0) ev_c (ev_var rfl) ho T.c_Register.cl T.n_Register_many rfs_len fun H1 e1 => ?_
    have k2 : Kp r H (upd H1 r (.ins cs.Register dx (putF "many" (.int 0) (rfs g m ra)))) := (Kp.of e1).trans .upd
    have R2 := (RA.mono e1).setMany (dx := dx) 0
    have ho2 : (upd H1 r (.ins cs.Register dx (putF "many" (.int 0) (rfs g m ra)))) r = some (.ins cs.Register dx (rfs g 0 ra)) := upd_same
    generalize (upd H1 r (.ins cs.Register dx (putF "many" (.int 0) (rfs g m ra)))) = H2 at k2 R2 ho2 ⊢
    obtain ⟨dxg, hog⟩ := R2.G.ob
    refine s_fldL (xs := iv (zer ds)) (el_repN ev_c (ev_fld (ev_fld (ev_var rfl) ho2 T.c_Register.cl T.n_Register_gate rfs_gate) hog T.c_Gate.cl T.n_Gate_width gfs_width) (by omega)) (ev_var rfl) ho2 T.c_Register.cl T.n_Register__rest rfs_len fun rb H3 n3 e3 h3 => ?_
    have nb : rb ≠ r := (ne_of_none ho2 n3).symm
    refine q rb _ ?_ ((k2.trans (Kp.of e3)).trans .upd) ((R2.mono e3).setRest h3 zer_row)
    cases hh : H rb with
    | none => rfl
    | some o =>
      rw [k2 _ _ nb hh] at n3
      cases n3
def sp_Register_rest (cs : Cs) : Sp := fun vs H Q _ => ∃ (r g da ra : Addr) (ds R : List Int) (m : Int), vs = [.ref r] ∧ RegAt cs H r g da ra ds R m ∧ RetL (iv R) H Q
theorem has_Register_rest (T : Txt K mg cs) : HasM P w K mg base 1 cs.Register "rest" ["self"] (sp_Register_rest cs) := by
  refine T.m_Register_rest.ok sc_Register_rest (fun vs H Q E h => ?_) (fun f cdv A outer s H vs Q E hr h => ?_)
  · obtain ⟨r, g, da, ra, ds, R, m, rfl, _⟩ := h
    rfl
  · obtain ⟨r, g, da, ra, ds, R, m, rfl, RA, q⟩ := h
    refine ⟨_, (pss_one (ps_ret (pe_callTy (kk_list K) (by rfl) T.z_list b_list (pa_cons (pe_fld (pv 0) rfl) pa_nil)))), ?_⟩
    obtain ⟨dx, ho⟩ := RA.ob
    exact s_retL (el_listR (er_ev (ev_fld (ev_var rfl) ho T.c_Register.cl T.n_Register__rest rfs_rest) RA.rv)) q
def sp_Register_check (cs : Cs) : Sp := fun vs H Q _ => ∃ (r g da ra : Addr) (ds R : List Int) (m : Int), vs = [.ref r] ∧ RegAt cs H r g da ra ds R m ∧ RetL (iv (its ds (ds.length - 1) R)) H Q
theorem has_Register_check (T : Txt K mg cs) : HasM P w K mg base 7 cs.Register "check" ["self"] (sp_Register_check cs) := by
  refine T.m_Register_check.ok sc_Register_check (fun vs H Q E h => ?_) (fun f cdv A outer s H vs Q E hr h => ?_)
  · obtain ⟨r, g, da, ra, ds, R, m, rfl, _⟩ := h
    rfl
  · obtain ⟨r, g, da, ra, ds, R, m, rfl, RA, q⟩ := h
    refine ⟨_, (pss_one (ps_ret (pe_methH (pe_fld (pv 0) rfl) T.c_Gate.cl (has_Gate_later T) (hr.mono (by decide)) (passes_call (takes_of rfl rfl rfl rfl) (fun _ _ _ _ h => h)) (pa_cons (pe_fld (pv 0) rfl) (pa_cons (pe_fld (pe_fld (pv 0) rfl) rfl) pa_nil))))), ?_⟩
    obtain ⟨dx, ho⟩ := RA.ob
    obtain ⟨dxg, hog⟩ := RA.G.ob
    have top := RA.G.D.top
    refine s_retL (xs := iv (its ds (ds.length - 1) R)) (el_is (el_later (m := ds.length - 1) (ev_fld (ev_var rfl) ho T.c_Register.cl T.n_Register_gate rfs_gate) RA.G (er_ev (ev_fld (ev_var rfl) ho T.c_Register.cl T.n_Register__rest rfs_rest) RA.rv) (ev_fld (ev_fld (ev_var rfl) ho T.c_Register.cl T.n_Register_gate rfs_gate) hog T.c_Gate.cl T.n_Gate_width gfs_width) RA.row (by omega)) ?_) q
    rw [its_mod RA.G.D RA.row]
theorem el_mrest {E : XK} {σ : L2.St} {H : Hp} {ta : TE} {r g da ra : Addr} {ds R : List Int} {m : Int} (ha : Ev ta σ H (.ref r)) (RA : RegAt cs H r g da ra ds R m) : EvL (tMeth cs.Register "rest" (sp_Register_rest cs) [] E ta tNil) σ H (iv R) := by
  obtain ⟨dx, ho⟩ := RA.ob
  refine el_meth ha ho rfs_mrest eap_nil fun vs H1 e1 hv Q q => ?_
  obtain rfl := hv
  exact ⟨r, g, da, ra, ds, R, m, rfl, RA.mono e1, q⟩
theorem el_mcheck {E : XK} {σ : L2.St} {H : Hp} {ta : TE} {r g da ra : Addr} {ds R : List Int} {m : Int} (ha : Ev ta σ H (.ref r)) (RA : RegAt cs H r g da ra ds R m) : EvL (tMeth cs.Register "check" (sp_Register_check cs) [] E ta tNil) σ H (iv (its ds (ds.length - 1) R)) := by
  obtain ⟨dx, ho⟩ := RA.ob
  refine el_meth ha ho rfs_check eap_nil fun vs H1 e1 hv Q q => ?_
  obtain rfl := hv
  exact ⟨r, g, da, ra, ds, R, m, rfl, RA.mono e1, q⟩
def sp_Register_joined (K : PySem.W.Frag) (cs : Cs) : Sp := fun vs H Q E => ∃ (r g da ra : Addr) (ds R : List Int) (m : Nat) (v : V), vs = [.ref r, v] ∧ RegAt cs H r g da ra ds R m ∧
  ((NotReg K cs H v ∧ ∀ H', Ex H H' → E (.ref cs.NoMate) none H') ∨
  ∃ (r2 g2 d2 a2 : Addr) (es S : List Int) (n : Nat), v = .ref r2 ∧ RegAt cs H r2 g2 d2 a2 es S n ∧ ((es ≠ ds ∧ ∀ H', Ex H H' → E (.ref cs.NoMate) none H') ∨ (es = ds ∧ 1000000000000000000 < m + n ∧ ∀ H', Ex H H' → E (.ref cs.TooLong) none H') ∨
  (es = ds ∧ m + n ≤ 1000000000000000000 ∧ ∀ rb H', H rb = none → Kp r H H' → RegAt cs H' r g da rb ds (xorR (its ds (n % rch ds) R) S) ((m + n : Nat) : Int) → Q .non H')))
theorem has_Register_joined (T : Txt K mg cs) : HasM P w K mg base 7 cs.Register "joined" ["self", "other"] (sp_Register_joined K cs) := by
  refine T.m_Register_joined.ok sc_Register_joined (fun vs H Q E h => ?_) (fun f cdv A outer s H vs Q E hr h => ?_)
  · obtain ⟨r, g, da, ra, ds, R, m, v, rfl, _⟩ := h
    rfl
  · obtain ⟨r, g, da, ra, ds, R, m, v, rfl, RA, hor⟩ := h
    refine ⟨_, (pss_cons (ps_if (pt_not (pt_val (pe_callB (kk_isi K) (by rfl) T.z_isinstance b_isinstance (pa_cons (pv 1) (pa_cons (pe_glob (v := .ref cs.Register) rfl T.c_Register.g rfl) pa_nil))))) (pss_one (ps_raise rfl (takes_of rfl rfl rfl rfl) (pmk_own PySem.F.excBase_ValueError T.e_NoMate.x T.e_NoMate.g T.e_NoMate.k T.e_NoMate.r (by exact rfl)))) pss_nil)
      (pss_cons (ps_if (pt_cmpR (kk_neD K hr.units) (pe_fld (pe_fld (pv 1) rfl) rfl) (pe_fld (pe_fld (pv 0) rfl) rfl) (nomark _)) (pss_one (ps_raise rfl (takes_of rfl rfl rfl rfl) (pmk_own PySem.F.excBase_ValueError T.e_NoMate.x T.e_NoMate.g T.e_NoMate.k T.e_NoMate.r (by exact rfl)))) pss_nil)
      (pss_cons (ps_if (pt_cmpR op_gt (pe_op op_add (pe_fld (pv 0) rfl) (pe_fld (pv 1) rfl)) (pe_globI T.g_MOST_NOUGHTS) (nomark _)) (pss_one (ps_raise rfl (takes_of rfl rfl rfl rfl) (pmk_own PySem.F.excBase_ValueError T.e_TooLong.x T.e_TooLong.g T.e_TooLong.k T.e_TooLong.r (by exact rfl)))) pss_nil)
      (pss_cons (ps_set (i := 2) sc_Register_joined.nd rfl (Or.inl rfl) (pe_methH (pe_fld (pv 0) rfl) T.c_Gate.cl (has_Gate_later T) (hr.mono (by decide)) (passes_call (takes_of rfl rfl rfl rfl) (fun _ _ _ _ h => h)) (pa_cons (pe_fld (pv 0) rfl) (pa_cons (pe_fld (pv 1) rfl) pa_nil))))
      (pss_cons (ps_fld (pv 0) (pe_callH (has_added T) (hr.mono (by decide)) (passes_call (takes_of rfl rfl rfl rfl) (fun _ _ _ _ h => h)) (pa_cons (pv 2) (pa_cons (pe_methH0 (pv 1) T.c_Register.cl (has_Register_rest T) (hr.mono (by decide)) (passes_call (takes_of rfl rfl rfl rfl) (fun _ _ _ _ h => h))) pa_nil))) rfl)
      (pss_one (ps_fldaug (pv 0) (pe_fld (pv 1) rfl) in_add))))))), ?_⟩
    rcases hor with ⟨⟨t, kt, ty⟩, q⟩ | ⟨r2, g2, d2, a2, es, S, n, rfl, RB, hor⟩
    · exact q_when (b := true) (et_is (et_not (et_B (ev_isiO (ev_var rfl) ty kt))) rfl) (fun _ H1 e1 => q H1 e1) (fun h => nomatch h)
    · obtain ⟨dxb, hob⟩ := RB.ob
      refine q_when (b := false) (et_is (et_not (et_B (ev_isiO (ev_var rfl) (fun H1 e1 => T.w_Register.ty (e1 _ _ hob)) (T.w_Register.kit T.o_Register_Register (fun h => nomatch h))))) rfl) (fun h => nomatch h) (fun _ H1 e1 => ?_)
      have A1 := RA.mono e1
      have B1 := RB.mono e1
      obtain ⟨dx, ho⟩ := A1.ob
      obtain ⟨dxg, hog⟩ := A1.G.ob
      have hob1 := e1 _ _ hob
      obtain ⟨dxh, hoh⟩ := B1.G.ob
      have dv : ∀ {H2 : Hp}, Ex H1 H2 → EvR (tFld K (tFld K (tVar 1) ("gate" : Str)) ("divisor" : Str)) (start N_Register_joined [V.ref r, V.ref r2]) H2 (iv es) := fun e => er_ev (ev_fld (ev_fld (ev_var rfl) (e _ _ hob1) T.c_Register.cl T.n_Register_gate rfs_gate) (e _ _ hoh) T.c_Gate.cl T.n_Gate_divisor gfs_divisor) (e _ _ B1.G.dv)
      refine q_when (et_test (ev_neR (xs := es) (ys := ds) (dv (.refl _)) (er_ev (ev_fld (ev_fld (ev_var rfl) ho T.c_Register.cl T.n_Register_gate rfs_gate) hog T.c_Gate.cl T.n_Gate_divisor gfs_divisor) A1.G.dv))) (fun hc H2 e2 => ?_) (fun hc H2 e2 => ?_)
      · rw [Bool.not_eq_true', decide_eq_false_iff_not] at hc
        rcases hor with ⟨_, q⟩ | ⟨e, _⟩ | ⟨e, _⟩
        · exact q H2 (e1.trans e2)
        · exact absurd e hc
        · exact absurd e hc
      · rw [Bool.not_eq_false', decide_eq_true_eq] at hc
        subst hc
        have A2 := A1.mono e2
        have B2 := B1.mono e2
        have ho2 := e2 _ _ ho
        have hob2 := e2 _ _ hob1
        refine q_when (et_test (ev_i0 (ev_i0 (ev_fld (ev_var rfl) ho2 T.c_Register.cl T.n_Register_many rfs_many) (ev_fld (ev_var rfl) hob2 T.c_Register.cl T.n_Register_many rfs_many)) ev_c)) (fun hc H3 e3 => ?_) (fun hc H3 e3 => ?_)
        · have hc' := of_decide_eq_true hc
          rcases hor with ⟨e, _⟩ | ⟨_, _, q⟩ | ⟨_, l, _⟩
          · exact absurd rfl e
          · exact q H3 ((e1.trans e2).trans e3)
          · omega
        · have hc' := of_decide_eq_false hc
          rcases hor with ⟨e, _⟩ | ⟨_, l, _⟩ | ⟨_, l, q⟩
          · exact absurd rfl e
          · omega
          · have A3 := A2.mono e3
            have B3 := B2.mono e3
            have ho3 := e3 _ _ ho2
            have hob3 := e3 _ _ hob2
            have eH3 := (e1.trans e2).trans e3
            have D := A3.G.D
            have top := D.top
            clear e1 e2 e3 dv A1 B1 A2 B2 ho ho2 hob1 hob2 hog hoh
            refine q_asgL (el_later (m := n) (ev_fld (ev_var rfl) ho3 T.c_Register.cl T.n_Register_gate rfs_gate) A3.G (er_ev (ev_fld (ev_var rfl) ho3 T.c_Register.cl T.n_Register__rest rfs_rest) A3.rv) (ev_fld (ev_var rfl) hob3 T.c_Register.cl T.n_Register_many rfs_many) A3.row (by omega)) fun p H4 n4 e4 h4 => ?_
            have A4 := A3.mono e4
            have B4 := B3.mono e4
            have ho4 := e4 _ _ ho3
            have hob4 := e4 _ _ hob3
            have M := its_row D A3.row (n % rch es)
            refine q_fldL (xs := iv (xorR (its es (n % rch es) R) S)) ?_ (ev_var rfl) ho4 T.c_Register.cl T.n_Register__rest rfs_len fun rb H5 n5 e5 h5 => ?_
            · refine el_callP (eap_er (er_var rfl h4) (eap_er (er_L (el_mrest (ev_var rfl) B4)) eap_nil)) ?_
              rintro vs H5 e5 ⟨p1, _, rfl, hp1, p2, _, rfl, hp2, rfl⟩ Q' q'
              exact ⟨p1, p2, _, _, rfl, hp1, hp2, M.1, B4.row.1, by rw [M.2]; omega, by rw [B4.row.2]; omega, by rw [addR_same M B4.row]; exact q'⟩
            · have eH5 := (eH3.trans e4).trans e5
              have k6 : Kp r H (upd H5 r (.ins cs.Register dx (putF "_rest" (.ref rb) (rfs g m ra)))) := (Kp.of eH5).trans .upd
              have R6 := (A4.mono e5).setRest (dx := dx) h5 (xor_row M B4.row)
              have ho6 : (upd H5 r (.ins cs.Register dx (putF "_rest" (.ref rb) (rfs g m ra)))) r = some (.ins cs.Register dx (rfs g m rb)) := upd_same
              have other : ∃ a6, (upd H5 r (.ins cs.Register dx (putF "_rest" (.ref rb) (rfs g m ra)))) r2 = some (.ins cs.Register (if r2 = r then dx else dxb) (rfs (if r2 = r then g else g2) n a6)) := by
                by_cases c : r2 = r
                · subst c
                  have z : (n : Int) = m := by
                    have := hob.symm.trans (show H r2 = some (.ins cs.Register _ (rfs g m ra)) from RA.ob.choose_spec)
                    injection this with this
                    injection this with _ _ this
                    have z2 := congrArg (List.lookup ("many" : Str)) this
                    rw [rfs_many, rfs_many] at z2
                    injection z2 with z2
                    injection z2
                  exact ⟨rb, by rw [upd_same, if_pos rfl, if_pos rfl, z]; rfl⟩
                · exact ⟨a2, by rw [upd_ne c, if_neg c, if_neg c]; exact e5 _ _ hob4⟩
              generalize (upd H5 r (.ins cs.Register dx (putF "_rest" (.ref rb) (rfs g m ra)))) = H6 at k6 R6 ho6 other ⊢
              obtain ⟨a6, hob6⟩ := other
              refine ⟨.ref r, rfl, r, cs.Register, dx, _, .int m, rfl, ho6, T.c_Register.cl, T.n_Register_many, rfs_many, ?_⟩
              refine ev_fld (v := .int n) (ev_var rfl) hob6 T.c_Register.cl T.n_Register_many rfs_many H6 (.refl H6) _ fun H7 e7 => ?_
              have ho7 := e7 _ _ ho6
              refine ⟨m, n, rfl, rfl, dx, _, ho7, rfs_len, ?_⟩
              exact q rb _ (fresh_back (eH3.trans e4) n5) ((k6.trans (Kp.of e7)).trans .upd) (((R6.mono e7).setMany (dx := dx) ((m : Int) + (n : Int))).isMany (by omega))


/-! ## written things, each of them such -/
theorem ne_of_sub {K : PySem.W.Frag} {D C : Addr} (h1 : PySem.W.subIn K (.ref D) (.ref C) = some false) (h2 : PySem.W.subIn K (.ref D) (.ref D) = some true) : C ≠ D := fun e => by
  rw [e, h2] at h1
  cases h1
section
variable {σ : L2.St} {H : Hp} {te tb : TE} {tr t : TA} {n : Nat} {B : V → Hp → Prop}
/-- written things, each of them such -/
def AllB (B : V → Hp → Prop) (t : TA) (σ : L2.St) (H : Hp) (n : Nat) : Prop := EvAP t σ H (fun vs G => vs.length = n ∧ ∀ v ∈ vs, B v G)
theorem allb_nil : AllB B tNil σ H 0 := fun H1 _ _ q => q [] H1 (Ex.refl H1) ⟨rfl, fun v h => by cases h⟩
theorem allb_cons (m : ∀ v H1 H2, Ex H1 H2 → B v H1 → B v H2) (h : EvP te σ H B) (hr : AllB B tr σ H n) : AllB B (tCons te tr) σ H (n + 1) := fun H1 e Q q =>
  h H1 e _ fun v H2 e2 p => hr H2 (e.trans e2) _ fun vs H3 e3 ⟨l, a⟩ => q _ H3 (e2.trans e3) ⟨by rw [List.length_cons, l], fun u hu => by
    rcases List.mem_cons.mp hu with rfl | hu
    · exact m _ _ _ e3 p
    · exact a u hu⟩
theorem ep_any {i : Int} (m : ∀ v H1 H2, Ex H1 H2 → B v H1 → B v H2) (h : AllB B t σ H n) (hb : Ev tb σ H (.int i)) (h0 : 0 ≤ i) (h1 : i < (n : Int)) (hn : n ≤ 1000) : EvP (tOp (rIxL K) (tLst t) tb) σ H B :=
  ep_pick h hb h0 fun vs H1 ⟨l, a⟩ => ⟨by omega, by omega, fun v hv H2 e2 => m _ _ _ e2 (a v (List.mem_of_getElem? hv))⟩
end


/-! ## a number by a length -/
theorem mod_place (c : Int) {n : Nat} (h : 0 < n) : ∃ k : Nat, c % (n : Int) = (k : Int) ∧ k < n := ⟨(c % (n : Int)).toNat, by
  have := Int.emod_nonneg c (show (n : Int) ≠ 0 by omega)
  omega, by
  have := Int.emod_lt_of_pos c (show (0 : Int) < (n : Int) by omega)
  omega⟩
theorem str_eq (x y : Str) : decide (V.str x = V.str y) = decide (x = y) := by
  by_cases h : x = y
  · subst h; simp
  · have : ¬ V.str x = V.str y := fun e => h (V.str.inj e)
    simp [h, this]


def sp__law_stands (cs : Cs) : Sp := fun vs H Q _ => ∃ (r g da ra u p hd : Addr) (L : List Addr) (n : Nat) (ds R : List Int) (m : Nat), vs = [.ref r, .int (m : Int), .ref u, .ref p, .ref hd] ∧ RegAt cs H r g da ra ds R m ∧ H u = some (.lst (iv R)) ∧ H p = some (.lst (iv ds)) ∧ HeldAt H hd L n ∧ n < 90000 ∧ (∀ z ∈ L, H z ≠ none) ∧ da ≠ hd ∧ ra ≠ hd ∧ u ≠ hd ∧ p ≠ hd ∧
  ∀ H', Kp hd H H' → HeldAt H' hd L (n + 2) → Q (.bl true) H'
theorem has__law_stands (T : Txt K mg cs) : Has P w K mg base 8 "_law_stands" ["_law_taker", "_law_many", "_law_due", "_law_divisor", "_law_held"] (sp__law_stands cs) := by
  refine T.d__law_stands.ok sc__law_stands (fun vs H Q E h => ?_) (fun f cdv A outer s H vs Q E hr h => ?_)
  · obtain ⟨r, g, da, ra, u, p, hd, L, n, ds, R, m, rfl, _⟩ := h
    rfl
  · obtain ⟨r, g, da, ra, u, p, hd, L, n, ds, R, m, rfl, RA, hu, hp, hh, hn, hL, n1, n2, n3, n4, q⟩ := h
    refine ⟨_, (pss_cons (ps_if (PW.pt (pw_or (pt_not (pt_val (pe_callB (kk_isi K) (by rfl) T.z_isinstance b_isinstance (pa_cons (pe_fld (pv 0) rfl) (pa_cons (pe_bltn (v := .ty "int") (u := .type "int") (by rfl) T.z_int b_int rfl) pa_nil))))) (pw_or (pt_val (pe_callB (kk_isi K) (by rfl) T.z_isinstance b_isinstance (pa_cons (pe_fld (pv 0) rfl) (pa_cons (pe_bltn (v := .ty "bool") (u := .type "bool") (by rfl) T.z_bool b_bool rfl) pa_nil)))) (pw_or1 (pt_cmpR op_neII (pe_fld (pv 0) rfl) (pv 1) (nomark _)))))) (pss_one (ps_ret pe_bl)) pss_nil)
      (pss_cons (ps_set (i := 5) sc__law_stands.nd rfl (Or.inl rfl) (pe_op op_sub (pe_callB (kk_len K) (by rfl) T.z_len b_len (pa_cons (pv 3) pa_nil)) pe_int))
      (pss_cons (ps_set (i := 6) sc__law_stands.nd rfl (Or.inl rfl) (pe_lst pa_nil))
      (pss_cut (ps_if (pt_cmpR op_eqII (pe_op op_mod (pe_op op_fdiv (pe_callB (kk_len K) (by rfl) T.z_len b_len (pa_cons (pv 4) pa_nil)) pe_int) pe_int) pe_int (nomark _)) (pss_one (ps_set (i := 6) sc__law_stands.nd rfl (Or.inl rfl) (pe_methH0 (pv 0) T.c_Register.cl (has_Register_check T) (hr.mono (by decide)) passL))) pss_nil)
      (pss_cons (ps_set (i := 7) sc__law_stands.nd rfl (Or.inl rfl) (pe_methH0 (pv 0) T.c_Register.cl (has_Register_rest T) (hr.mono (by decide)) passL))
      (pss_cut (ps_if (pt_cmpR op_eqII (pe_op op_mod (pe_op op_fdiv (pe_callB (kk_len K) (by rfl) T.z_len b_len (pa_cons (pv 4) pa_nil)) pe_int) pe_int) pe_int (nomark _)) (pss_one (ps_set (i := 6) sc__law_stands.nd rfl (Or.inl rfl) (pe_methH0 (pv 0) T.c_Register.cl (has_Register_check T) (hr.mono (by decide)) passL))) pss_nil)
      (pss_cons (ps_if (PW.pt (pw_or (pt_not (pt_val (pe_callH (has__law_is_row T) (hr.mono (by decide)) passL (pa_cons (pv 7) (pa_cons (pv 5) pa_nil))))) (pw_or1 (pt_cmpR (kk_neD K hr.units) (pv 7) (pv 2) (nomark _))))) (pss_one (ps_ret pe_bl)) pss_nil)
      (pss_cons (ps_for (passes_of rfl) rfl (pi_range1 (by rfl) T.z_range (pa_cons (pv 5) pa_nil)) (pg_name (i := 8) sc__law_stands.nd rfl (Or.inl rfl)) (pss_one (ps_set (i := 2) sc__law_stands.nd rfl (Or.inl rfl) (pe_callH (has__law_step_by T) (hr.mono (by decide)) passL (pa_cons (pv 2) (pa_cons pe_int (pa_cons (pv 3) pa_nil)))))))
      (pss_cons (ps_if (PW.pt (pw_or (pt_not (pt_val (pe_callH (has__law_is_row T) (hr.mono (by decide)) passL (pa_cons (pv 6) (pa_cons (pv 5) pa_nil))))) (pw_or1 (pt_cmpR (kk_neD K hr.units) (pv 6) (pv 2) (nomark _))))) (pss_one (ps_ret pe_bl)) pss_nil)
      (pss_cons (ps_expr (pe_bm PySem.F.plainAttrs_list PySem.F.slot_list_append PySem.F.type_list_append mt_append (pv 7) (pa_cons pe_int pa_nil)))
      (pss_cons (ps_expr (pe_bm PySem.F.plainAttrs_list PySem.F.slot_list_append PySem.F.type_list_append mt_append (pv 6) (pa_cons pe_int pa_nil)))
      (pss_cons (ps_expr (pe_bm PySem.F.plainAttrs_list PySem.F.slot_list_append PySem.F.type_list_append mt_append (pv 4) (pa_cons (pe_tup (pa_cons (pv 7) (pa_cons (pe_callTy (kk_list K) (by rfl) T.z_list b_list (pa_cons (pv 7) pa_nil)) pa_nil))) pa_nil)))
      (pss_cons (ps_expr (pe_bm PySem.F.plainAttrs_list PySem.F.slot_list_append PySem.F.type_list_append mt_append (pv 4) (pa_cons (pe_tup (pa_cons (pv 6) (pa_cons (pe_callTy (kk_list K) (by rfl) T.z_list b_list (pa_cons (pv 6) pa_nil)) pa_nil))) pa_nil)))
      (pss_one (ps_ret (pe_cmpR (kk_eqD K hr.units) (pe_fld (pe_fld (pv 0) rfl) rfl) (pv 3) (nomark _))))))))))))))))), ?_⟩
    have D := RA.G.D
    have top := D.top
    have two := D.two
    have row := RA.row
    obtain ⟨dx, ho⟩ := RA.ob
    obtain ⟨dxg, hog⟩ := RA.G.ob
    obtain ⟨ts, hts, lts, _⟩ := id hh
    have many : ∀ {H1 : Hp}, Ex H H1 → Ev (tFld K (tVar 0) ("many" : Str)) (start N__law_stands [V.ref r, V.int m, V.ref u, V.ref p, V.ref hd]) H1 (.int (m : Int)) := fun e => ev_fld (ev_var rfl) (e _ _ ho) T.c_Register.cl T.n_Register_many rfs_many
    refine q_when (b := false) (et_is (et_or (a := false) (et_is (et_not (et_B (ev_isiF (many (.refl _)) rfl kit_int_int))) rfl) (fun _ => et_or (a := false) (et_B (ev_isiF (many (.refl _)) rfl kit_int_bool)) (fun _ => et_is (et_test (ev_i0 (many (.refl _)) (ev_var rfl))) (by simp)))) rfl) (fun h => nomatch h) (fun _ H1 e1 => ?_)
    refine q_asg (ev_is (v := .int ((ds.length : Int) - 1)) (w := .int ((ds.length - 1 : Nat) : Int)) (ev_i0 (ev_lenI (er_var rfl (e1 _ _ hp))) ev_c) (congrArg V.int (by omega))) fun H2 e2 => ?_
    have e12 := e1.trans e2
    refine q_asgL el_nilI fun c0 H3 n3 e3 h3 => ?_
    have e13 := e12.trans e3
    clear many
    refine q_cut (M := fun σ' H' => ∃ (c : Addr) (zs : List Int), σ' = [some (.ref r), some (.int (m : Int)), some (.ref u), some (.ref p), some (.ref hd), some (.int ((ds.length - 1 : Nat) : Int)), some (.ref c), none, none] ∧ Ex H H' ∧ H c = none ∧ H' c = some (.lst (iv zs)) ∧ (ts.length / 2 % 2 = 1 → zs = its ds (ds.length - 1) R)) ?_ ?_
    · refine s_when (b := decide (ts.length / 2 % 2 = 1)) (et_is (et_test (ev_i0 (ev_mod (ev_mod (ev_lenR (xs := ts.map V.ref) (er_var rfl (e13 _ _ hts))) ev_c (by walk_at "cg ar")) ev_c (by walk_at "cg ar")) ev_c)) (by rw [List.length_map]; exact decide_eq_decide.mpr (by omega))) (fun hc H4 e4 => ?_) (fun hc H4 e4 => ⟨c0, [], rfl, e13.trans e4, fresh_back e12 n3, e4 _ _ h3, fun h => absurd h (of_decide_eq_false hc)⟩)
      have e14 := e13.trans e4
      exact s_asgL (el_mcheck (ev_var rfl) (RA.mono e14)) fun c H5 n5 e5 h5 => ⟨c, _, rfl, e14.trans e5, fresh_back e14 n5, h5, fun _ => rfl⟩
    clear e1 e2 e3 e12 e13 n3 h3
    rintro σ' H4 ⟨c, zs, rfl, e4, nc, hc, hz⟩
    refine q_asgL (el_mrest (ev_var rfl) (RA.mono e4)) fun b H5 n5 e5 h5 => ?_
    have e05 := e4.trans e5
    have nb := fresh_back e4 n5
    have nbc : b ≠ c := (ne_of_none hc n5).symm
    refine q_cut (M := fun σ' H' => ∃ (c : Addr), σ' = [some (.ref r), some (.int (m : Int)), some (.ref u), some (.ref p), some (.ref hd), some (.int ((ds.length - 1 : Nat) : Int)), some (.ref c), some (.ref b), none] ∧ Ex H H' ∧ H c = none ∧ H' c = some (.lst (iv (its ds (ds.length - 1) R))) ∧ b ≠ c ∧ H' b = some (.lst (iv R))) ?_ ?_
    · refine s_when (b := decide (ts.length / 2 % 2 = 0)) (et_is (et_test (ev_i0 (ev_mod (ev_mod (ev_lenR (xs := ts.map V.ref) (er_var rfl (e05 _ _ hts))) ev_c (by walk_at "cg ar")) ev_c (by walk_at "cg ar")) ev_c)) (by rw [List.length_map]; exact decide_eq_decide.mpr (by omega))) (fun h0 H6 e6 => ?_) (fun h0 H6 e6 => ⟨c, rfl, e05.trans e6, nc, ?_, nbc, e6 _ _ h5⟩)
      · have e06 := e05.trans e6
        exact s_asgL (el_mcheck (ev_var rfl) (RA.mono e06)) fun c H7 n7 e7 h7 => ⟨c, rfl, e06.trans e7, fresh_back e06 n7, h7, ne_of_none (e6 _ _ h5) n7, e7 _ _ (e6 _ _ h5)⟩
      · have h0' := of_decide_eq_false h0
        rw [← hz (by omega)]
        exact e6 _ _ (e5 _ _ hc)
    clear e4 e5 e05 nc hc hz n5 h5 nbc
    rintro σ' H6 ⟨c, rfl, e, nc, hc, nbc, hb⟩
    refine q_when (b := false) (et_is (et_or (a := false) (et_is (et_not (et_B (et_is_row (ns := R) (er_var rfl hb) (ev_is (ev_var rfl) (congrArg V.int (by rw [row.2]))) row.1 (by rw [row.2]; omega)))) rfl) (fun _ => et_is (et_test (ev_neR (xs := R) (ys := R) (er_var rfl hb) (er_var rfl (e _ _ hu)))) (by simp))) rfl) (fun h => nomatch h) (fun _ H7 e7 => ?_)
    refine q_forR1 (n := ((ds.length - 1 : Nat) : Int)) (ea_one (ev_var rfl)) (by omega) (fun i σ' H' => Ex H7 H' ∧ ∃ (u' : Addr) (v : Option V), σ' = [some (.ref r), some (.int (m : Int)), some (.ref u'), some (.ref p), some (.ref hd), some (.int ((ds.length - 1 : Nat) : Int)), some (.ref c), some (.ref b), v] ∧ H' u' = some (.lst (iv (its ds i R)))) ?_ ?_ ?_
    · exact fun H8 e8 => ⟨e8, u, none, rfl, e8 _ _ (e7 _ _ (e _ _ hu))⟩
    · rintro i σ' H' hi ⟨e', u', v, rfl, hu'⟩
      have I := its_row D row i
      refine s_asgC (by walk_at "cg ea") fun H8 e8 => ⟨u', p, its ds i R, ds, 0, rfl, e8 _ _ hu', e8 _ _ (e' _ _ (e7 _ _ (e _ _ hp))), I.1, D.bits, .inl rfl, by rw [I.2]; omega, fun l H9 n9 e9 h9 => ⟨(e'.trans e8).trans e9, l, _, rfl, h9⟩⟩
    rintro σ' H8 ⟨e8, u', v, rfl, hu'⟩
    have I := its_row D row (ds.length - 1)
    have hu8 : H8 u' = some (.lst (iv (its ds (ds.length - 1) R))) := hu'
    have hc8 := e8 _ _ (e7 _ _ hc)
    have hb8 := e8 _ _ (e7 _ _ hb)
    have e08 := (e.trans e7).trans e8
    clear hu' hc hb e e7 e8
    refine q_when (b := false) (et_is (et_or (a := false) (et_is (et_not (et_B (et_is_row (ns := its ds (ds.length - 1) R) (er_var rfl hc8) (ev_is (ev_var rfl) (congrArg V.int (by rw [I.2]))) I.1 (by rw [I.2]; omega)))) rfl) (fun _ => et_is (et_test (ev_neR (xs := its ds (ds.length - 1) R) (ys := its ds (ds.length - 1) R) (er_var rfl hc8) (er_var rfl hu8))) (by simp))) rfl) (fun h => nomatch h) (fun _ H9 e9 => ?_)
    have eB : Ex (but hd H) H9 := ((Kp.refl hd H).but.trans e08).trans e9
    have noB : ∀ {z : Addr}, H z = none → but hd H z = none := fun {z} h => by
      unfold but
      split
      · rfl
      · exact h
    have held : HeldAt H9 hd (b :: c :: L) n := (((hh.more nc).more nb).mono e08).mono e9
    have hb9 := e9 _ _ hb8
    have hc9 := e9 _ _ hc8
    have nch : c ≠ hd := (ne_of_none hts nc).symm
    have nbh : b ≠ hd := (ne_of_none hts nb).symm
    have ncL : c ∉ L := fun z => hL c z nc
    have nbL : b ∉ L := fun z => hL b z nb
    have nrh : r ≠ hd := ne_of ho hts (by intro z; cases z)
    have ngh : g ≠ hd := ne_of hog hts (by intro z; cases z)
    have hL9 : ∀ z ∈ L, H9 z ≠ none := fun z hz h => hL z hz (fresh_back (e08.trans e9) h)
    have pres : ∀ {l : Addr} {G G' : Hp}, (∀ z ∈ L, G z ≠ none) → Kp l G G' → l ∉ L ∨ G' l ≠ none → ∀ z ∈ L, G' z ≠ none := fun {l G G'} h k hl z hz e => by
      by_cases cz : z = l
      · subst cz
        rcases hl with hl | hl
        · exact hl hz
        · exact hl e
      · cases hg : G z with
        | none => exact h z hz hg
        | some o => rw [k _ _ cz hg] at e; cases e
    clear e08 e9 hc8 hb8 hu8
    refine q_appK hb9 (ev_var rfl) ev_c (by rw [row.2]; omega) fun H10 k10 hb10 => ?_
    have eB10 := k10.ex (noB nb) eB
    have hc10 := k10 _ _ nbc.symm hc9
    have held10 := (held.kp k10 List.mem_cons_self nbh ⟨_, hb9⟩).less
    have hL10 := pres hL9 k10 (.inl nbL)
    refine q_appK hc10 (ev_var rfl) ev_c (by rw [I.2]; omega) fun H11 k11 hc11 => ?_
    have eB11 := k11.ex (noB nc) eB10
    have hb11 := k11 _ _ nbc hb10
    have held11 := (held10.kp k11 List.mem_cons_self nch ⟨_, hc10⟩).less
    have hL11 := pres hL10 k11 (.inl ncL)
    refine q_held but_same eB11 held11 hL11 (by omega) rfl rfl hb11 nbh nbL fun H12 eB12 k12 held12 => ?_
    have hL12 := pres hL11 k12 (.inr (by obtain ⟨_, z, _⟩ := held12; rw [z]; intro h; cases h))
    refine q_held but_same eB12 held12 hL12 (by omega) rfl rfl (k12 _ _ nch hc11) nch ncL fun H13 eB13 k13 held13 => ?_
    have gb : ∀ {z : Addr} {o : HO}, z ≠ hd → H z = some o → H13 z = some o := fun nz hz => eB13 _ _ (but_at nz hz)
    exact s_ret (ev_is (ev_eqR (xs := ds) (ys := ds) (er_ev (ev_fld (ev_fld (ev_var rfl) (gb nrh ho) T.c_Register.cl T.n_Register_gate rfs_gate) (gb ngh hog) T.c_Gate.cl T.n_Gate_divisor gfs_divisor) (gb n1 RA.G.dv)) (er_var rfl (gb n4 hp))) (w := .bl true) (congrArg V.bl (by simp))) fun H14 e14 => q H14 (but_kp (eB13.trans e14)) (held13.mono e14)
/-! ## what is refused -/
/-- no mate for a register of this divisor with so many signs: what it is, and the letter of its error -/
def NoMateOf (K : PySem.W.Frag) (cs : Cs) (ds : List Int) (H : Hp) (v : V) : Prop := NotReg K cs H v ∨ ∃ (r2 g2 d2 a2 : Addr) (es S : List Int) (n : Nat), v = .ref r2 ∧ RegAt cs H r2 g2 d2 a2 es S n ∧ es ≠ ds
theorem NoMateOf.mono {H H' : Hp} {ds : List Int} {v : V} (h : NoMateOf K cs ds H v) (e : Ex H H') : NoMateOf K cs ds H' v := by
  rcases h with h | ⟨r2, g2, d2, a2, es, S, n, hv, R, ne⟩
  · exact .inl (h.mono e)
  · exact .inr ⟨r2, g2, d2, a2, es, S, n, hv, R.mono e, ne⟩
inductive RefusedW (K : PySem.W.Frag) (cs : Cs) (ds : List Int) (m : Nat) (H : Hp) (v : V) : Bool → Str → Prop
  | s (h : NotSign K H v) : RefusedW K cs ds m H v true "s"
  | m (h : NoMateOf K cs ds H v) : RefusedW K cs ds m H v false "m"
  | l {r2 g2 d2 a2 : Addr} {S : List Int} {n : Nat} (h : v = .ref r2) (R : RegAt cs H r2 g2 d2 a2 ds S n) (l : 1000000000000000000 < m + n) : RefusedW K cs ds m H v false "l"
theorem RefusedW.mono {H H' : Hp} {ds : List Int} {m : Nat} {v : V} {b : Bool} {w : Str} (h : RefusedW K cs ds m H v b w) (e : Ex H H') : RefusedW K cs ds m H' v b w := by
  cases h with
  | s h => exact .s (h.mono e)
  | m h => exact .m (h.mono e)
  | l h R l => exact .l h (R.mono e) l
def accW (w : Str) : Nat → Str
  | 0 => ""
  | 1 => w ++ ("v" : Str)
  | _ => (w ++ ("v" : Str)) ++ (w ++ ("v" : Str))
def sp__law_refused (K : PySem.W.Frag) (cs : Cs) : Sp := fun vs H Q _ => ∃ (r g da ra : Addr) (ds R : List Int) (m : Nat) (v : V) (b : Bool) (w : Str), vs = [.ref r, v, .bl b] ∧ RegAt cs H r g da ra ds R m ∧ RefusedW K cs ds m H v b w ∧ RetV (.str ((w ++ ("v" : Str)) ++ (w ++ ("v" : Str)))) H Q
theorem has__law_refused (T : Txt K mg cs) : Has P w K mg base 8 "_law_refused" ["_law_taker", "_law_thing", "_law_puts"] (sp__law_refused K cs) := by
  refine T.d__law_refused.ok sc__law_refused (fun vs H Q E h => ?_) (fun f cdv A outer s H vs Q E hr h => ?_)
  · obtain ⟨r, g, da, ra, ds, R, m, v, b, w, rfl, _⟩ := h
    rfl
  · obtain ⟨r, g, da, ra, ds, R, m, v, b, w, rfl, RA, hw, q⟩ := h
    refine ⟨_, (pss_cons (ps_set (i := 3) sc__law_refused.nd rfl (Or.inl rfl) pe_str)
      (pss_cons (ps_for (passes_of rfl) rfl (pi_range1 (by rfl) T.z_range (pa_cons pe_int pa_nil)) (pg_name (i := 4) sc__law_refused.nd rfl (Or.inl rfl)) (pss_one (ps_try_manyA (i := 5) rfl rfl sc__law_refused.nd rfl rfl takes0 (fun W pn xe tk pOwn => (pss_one (ps_if (pt_val (pv 2)) (pss_one (ps_expr (pe_methZ (pv 0) T.c_Register.cl (has_Register_put T) (hr.mono (by decide)) (fun σ => passAt tk σ) (pa_cons (pv 1) pa_nil)))) (pss_one (ps_expr (pe_methZ (pv 0) T.c_Register.cl (has_Register_joined T) (hr.mono (by decide)) (fun σ => passAt tk σ) (pa_cons (pv 1) pa_nil))))))) (.cons (c := .ref cs.NoSign) ⟨rfl, by decide, .inl T.e_NoSign.g⟩ (fun a oe cls d pn hz hf => (pss_one (ps_set (i := 3) sc__law_refused.nd rfl (Or.inl rfl) (pe_op op_add_str (pe_op op_add_str (pv 3) pe_str) (pe_op op_str01 pe_str (pe_callTy kk_int (by rfl) T.z_int b_int (pa_cons (pe_and (pe_callB (call_isX hz hf) (by rfl) T.z_isinstance b_isinstance (pa_cons (pv 5) (pa_cons (pe_glob (v := .ref cs.GateError) rfl T.e_GateError.g rfl) pa_nil))) (pe_one (pe_callB (call_isX hz hf) (by rfl) T.z_isinstance b_isinstance (pa_cons (pv 5) (pa_cons (pe_bltn (v := .ty "ValueError") (u := .type "ValueError") (by rfl) T.z_ValueError b_ValueError rfl) pa_nil))))) pa_nil))))))) (.cons (c := .ref cs.NoMate) ⟨rfl, by decide, .inl T.e_NoMate.g⟩ (fun a oe cls d pn hz hf => (pss_one (ps_set (i := 3) sc__law_refused.nd rfl (Or.inl rfl) (pe_op op_add_str (pe_op op_add_str (pv 3) pe_str) (pe_op op_str01 pe_str (pe_callTy kk_int (by rfl) T.z_int b_int (pa_cons (pe_and (pe_callB (call_isX hz hf) (by rfl) T.z_isinstance b_isinstance (pa_cons (pv 5) (pa_cons (pe_glob (v := .ref cs.GateError) rfl T.e_GateError.g rfl) pa_nil))) (pe_one (pe_callB (call_isX hz hf) (by rfl) T.z_isinstance b_isinstance (pa_cons (pv 5) (pa_cons (pe_bltn (v := .ty "ValueError") (u := .type "ValueError") (by rfl) T.z_ValueError b_ValueError rfl) pa_nil))))) pa_nil))))))) (.cons (c := .ref cs.TooLong) ⟨rfl, by decide, .inl T.e_TooLong.g⟩ (fun a oe cls d pn hz hf => (pss_one (ps_set (i := 3) sc__law_refused.nd rfl (Or.inl rfl) (pe_op op_add_str (pe_op op_add_str (pv 3) pe_str) (pe_op op_str01 pe_str (pe_callTy kk_int (by rfl) T.z_int b_int (pa_cons (pe_and (pe_callB (call_isX hz hf) (by rfl) T.z_isinstance b_isinstance (pa_cons (pv 5) (pa_cons (pe_glob (v := .ref cs.GateError) rfl T.e_GateError.g rfl) pa_nil))) (pe_one (pe_callB (call_isX hz hf) (by rfl) T.z_isinstance b_isinstance (pa_cons (pv 5) (pa_cons (pe_bltn (v := .ty "ValueError") (u := .type "ValueError") (by rfl) T.z_ValueError b_ValueError rfl) pa_nil))))) pa_nil))))))) .nil))))))
      (pss_one (ps_ret (pv 3))))), ?_⟩
    obtain ⟨dx, ho⟩ := RA.ob
    have fin : ∀ H', Ex H H' → ∀ x4, (tRet (tVar 3)) { nx := fun _ H' => Q .non H', rt := Q } [some (.ref r), some v, some (.bl b), some (.str (accW w 2)), x4, none] H' := fun H' e x4 => s_ret (ev_var rfl) fun H2 e2 => q H2 (e.trans e2)
    refine q_asg ev_c fun H1 e1 => ?_
    refine q_forR1 (n := 2) (ea_one ev_c) (by decide) (fun i σ' H' => Ex H H' ∧ ∃ x4, σ' = [some (.ref r), some v, some (.bl b), some (.str (accW w i)), x4, none]) (fun H2 e2 => ⟨e1.trans e2, none, rfl⟩) ?_ (fun σ' H' ⟨e, x4, hσ⟩ => (by subst hσ; exact fin H' e x4))
    rintro i σ' H' hi ⟨e, x4, rfl⟩
    have hi' : i < 2 := by omega
    cases hw with
    | s nx =>
      refine s_if (b := true) (et_B (ev_var rfl)) (fun _ H2 e2 => ?_) (fun h => nomatch h)
      have e02 := e.trans e2
      refine s_dropW (methZ_go (ev_var rfl) (e02 _ _ ho) rfs_put fun H3 e3 => ea_go (ea_one (ev_var rfl)) fun H4 e4 => ?_)
      have e04 := (e02.trans e3).trans e4
      refine ⟨r, g, da, ra, ds, R, m, v, rfl, RA.mono e04, .inr ⟨nx.mono e04, fun H5 e5 => ?_⟩⟩
      have e05 := e04.trans e5
      rcases (show i = 0 ∨ i = 1 by omega) with rfl | rfl
      · exact ⟨true, T.e_NoSign.exm T.p_NoSign_NoSign, fun _ z hz => s_asg (ev_is (ev_addS (ev_addS (ev_var rfl) ev_c (by decide +kernel)) (ev_str01 (b := true) ev_c (ev_intB (b := true) (ev_andV (a := true) (b := true) (ev_isC (ev_var rfl) T.e_NoSign T.e_GateError T.p_NoSign_GateError (fun h => nomatch h)) (fun _ => ev_one (ev_isV (ev_var rfl) T.e_NoSign))))) (by decide +kernel)) (w := .str (accW "s" 1)) (congrArg V.str (by decide +kernel))) fun S f => ⟨e05.trans f, _, rfl⟩, fun h => nomatch h⟩
      · exact ⟨true, T.e_NoSign.exm T.p_NoSign_NoSign, fun _ z hz => s_asg (ev_is (ev_addS (ev_addS (ev_var rfl) ev_c (by decide +kernel)) (ev_str01 (b := true) ev_c (ev_intB (b := true) (ev_andV (a := true) (b := true) (ev_isC (ev_var rfl) T.e_NoSign T.e_GateError T.p_NoSign_GateError (fun h => nomatch h)) (fun _ => ev_one (ev_isV (ev_var rfl) T.e_NoSign))))) (by decide +kernel)) (w := .str (accW "s" 2)) (congrArg V.str (by decide +kernel))) fun S f => ⟨e05.trans f, _, rfl⟩, fun h => nomatch h⟩
    | m nm =>
      refine s_if (b := false) (et_B (ev_var rfl)) (fun h => nomatch h) (fun _ H2 e2 => ?_)
      have e02 := e.trans e2
      refine s_dropW (methZ_go (ev_var rfl) (e02 _ _ ho) rfs_joined fun H3 e3 => ea_go (ea_one (ev_var rfl)) fun H4 e4 => ?_)
      have e04 := (e02.trans e3).trans e4
      refine ⟨r, g, da, ra, ds, R, m, v, rfl, RA.mono e04, ?_⟩
      rcases nm with nm | ⟨r2, g2, d2, a2, es, S, n, rfl, RB, ne⟩
      · refine .inl ⟨nm.mono e04, fun H5 e5 => ?_⟩
        have e05 := e04.trans e5
        rcases (show i = 0 ∨ i = 1 by omega) with rfl | rfl
        · exact ⟨false, T.e_NoSign.exm T.p_NoMate_NoSign, (fun h => nomatch h), fun _ => ⟨true, T.e_NoMate.exm T.p_NoMate_NoMate, fun _ z hz => s_asg (ev_is (ev_addS (ev_addS (ev_var rfl) ev_c (by decide +kernel)) (ev_str01 (b := true) ev_c (ev_intB (b := true) (ev_andV (a := true) (b := true) (ev_isC (ev_var rfl) T.e_NoMate T.e_GateError T.p_NoMate_GateError (fun h => nomatch h)) (fun _ => ev_one (ev_isV (ev_var rfl) T.e_NoMate))))) (by decide +kernel)) (w := .str (accW "m" 1)) (congrArg V.str (by decide +kernel))) fun S f => ⟨e05.trans f, _, rfl⟩, fun h => nomatch h⟩⟩
        · exact ⟨false, T.e_NoSign.exm T.p_NoMate_NoSign, (fun h => nomatch h), fun _ => ⟨true, T.e_NoMate.exm T.p_NoMate_NoMate, fun _ z hz => s_asg (ev_is (ev_addS (ev_addS (ev_var rfl) ev_c (by decide +kernel)) (ev_str01 (b := true) ev_c (ev_intB (b := true) (ev_andV (a := true) (b := true) (ev_isC (ev_var rfl) T.e_NoMate T.e_GateError T.p_NoMate_GateError (fun h => nomatch h)) (fun _ => ev_one (ev_isV (ev_var rfl) T.e_NoMate))))) (by decide +kernel)) (w := .str (accW "m" 2)) (congrArg V.str (by decide +kernel))) fun S f => ⟨e05.trans f, _, rfl⟩, fun h => nomatch h⟩⟩
      · refine .inr ⟨r2, g2, d2, a2, es, S, n, rfl, RB.mono e04, .inl ⟨ne, fun H5 e5 => ?_⟩⟩
        have e05 := e04.trans e5
        rcases (show i = 0 ∨ i = 1 by omega) with rfl | rfl
        · exact ⟨false, T.e_NoSign.exm T.p_NoMate_NoSign, (fun h => nomatch h), fun _ => ⟨true, T.e_NoMate.exm T.p_NoMate_NoMate, fun _ z hz => s_asg (ev_is (ev_addS (ev_addS (ev_var rfl) ev_c (by decide +kernel)) (ev_str01 (b := true) ev_c (ev_intB (b := true) (ev_andV (a := true) (b := true) (ev_isC (ev_var rfl) T.e_NoMate T.e_GateError T.p_NoMate_GateError (fun h => nomatch h)) (fun _ => ev_one (ev_isV (ev_var rfl) T.e_NoMate))))) (by decide +kernel)) (w := .str (accW "m" 1)) (congrArg V.str (by decide +kernel))) fun S f => ⟨e05.trans f, _, rfl⟩, fun h => nomatch h⟩⟩
        · exact ⟨false, T.e_NoSign.exm T.p_NoMate_NoSign, (fun h => nomatch h), fun _ => ⟨true, T.e_NoMate.exm T.p_NoMate_NoMate, fun _ z hz => s_asg (ev_is (ev_addS (ev_addS (ev_var rfl) ev_c (by decide +kernel)) (ev_str01 (b := true) ev_c (ev_intB (b := true) (ev_andV (a := true) (b := true) (ev_isC (ev_var rfl) T.e_NoMate T.e_GateError T.p_NoMate_GateError (fun h => nomatch h)) (fun _ => ev_one (ev_isV (ev_var rfl) T.e_NoMate))))) (by decide +kernel)) (w := .str (accW "m" 2)) (congrArg V.str (by decide +kernel))) fun S f => ⟨e05.trans f, _, rfl⟩, fun h => nomatch h⟩⟩
    | @l r2 g2 d2 a2 S n hv RB l =>
      subst hv
      refine s_if (b := false) (et_B (ev_var rfl)) (fun h => nomatch h) (fun _ H2 e2 => ?_)
      have e02 := e.trans e2
      refine s_dropW (methZ_go (ev_var rfl) (e02 _ _ ho) rfs_joined fun H3 e3 => ea_go (ea_one (ev_var rfl)) fun H4 e4 => ?_)
      have e04 := (e02.trans e3).trans e4
      refine ⟨r, g, da, ra, ds, R, m, .ref r2, rfl, RA.mono e04, .inr ⟨r2, g2, d2, a2, ds, S, n, rfl, RB.mono e04, .inr (.inl ⟨rfl, l, fun H5 e5 => ?_⟩)⟩⟩
      have e05 := e04.trans e5
      rcases (show i = 0 ∨ i = 1 by omega) with rfl | rfl
      · exact ⟨false, T.e_NoSign.exm T.p_TooLong_NoSign, (fun h => nomatch h), fun _ => ⟨false, T.e_NoMate.exm T.p_TooLong_NoMate, (fun h => nomatch h), fun _ => ⟨true, T.e_TooLong.exm T.p_TooLong_TooLong, fun _ z hz => s_asg (ev_is (ev_addS (ev_addS (ev_var rfl) ev_c (by decide +kernel)) (ev_str01 (b := true) ev_c (ev_intB (b := true) (ev_andV (a := true) (b := true) (ev_isC (ev_var rfl) T.e_TooLong T.e_GateError T.p_TooLong_GateError (fun h => nomatch h)) (fun _ => ev_one (ev_isV (ev_var rfl) T.e_TooLong))))) (by decide +kernel)) (w := .str (accW "l" 1)) (congrArg V.str (by decide +kernel))) fun S f => ⟨e05.trans f, _, rfl⟩, fun h => nomatch h⟩⟩⟩
      · exact ⟨false, T.e_NoSign.exm T.p_TooLong_NoSign, (fun h => nomatch h), fun _ => ⟨false, T.e_NoMate.exm T.p_TooLong_NoMate, (fun h => nomatch h), fun _ => ⟨true, T.e_TooLong.exm T.p_TooLong_TooLong, fun _ z hz => s_asg (ev_is (ev_addS (ev_addS (ev_var rfl) ev_c (by decide +kernel)) (ev_str01 (b := true) ev_c (ev_intB (b := true) (ev_andV (a := true) (b := true) (ev_isC (ev_var rfl) T.e_TooLong T.e_GateError T.p_TooLong_GateError (fun h => nomatch h)) (fun _ => ev_one (ev_isV (ev_var rfl) T.e_TooLong))))) (by decide +kernel)) (w := .str (accW "l" 2)) (congrArg V.str (by decide +kernel))) fun S f => ⟨e05.trans f, _, rfl⟩, fun h => nomatch h⟩⟩⟩
def sp__law_went : Sp := fun vs H Q _ => ∃ (u a p : Addr) (R xs ds : List Int), vs = [.ref u, .ref a, .ref p] ∧ H u = some (.lst (iv R)) ∧ H a = some (.lst (iv xs)) ∧ H p = some (.lst (iv ds)) ∧ IsDiv ds ∧ RowOf (ds.length - 1) R ∧ Bits xs ∧
  ∀ p' H', Ex H H' → H' p' = some (.lst (iv (runR ds R xs))) → (p' = u ∨ H p' = none) → Q (.ref p') H'
theorem has__law_went (T : Txt K mg cs) : Has P w K mg base 2 "_law_went" ["_law_due", "_law_row", "_law_divisor"] sp__law_went := by
  refine T.d__law_went.ok sc__law_went (fun vs H Q E h => ?_) (fun f cdv A outer s H vs Q E hr h => ?_)
  · obtain ⟨u, a, p, R, xs, ds, rfl, _⟩ := h
    rfl
  · obtain ⟨u, a, p, R, xs, ds, rfl, hu, ha, hp, D, row, bx, q⟩ := h
    refine ⟨_, (pss_cons (ps_for (passes_of rfl) rfl (pi_list (pv 1)) (pg_name (i := 3) sc__law_went.nd rfl (Or.inl rfl)) (pss_one (ps_set (i := 0) sc__law_went.nd rfl (Or.inl rfl) (pe_callH (has__law_step_by T) (hr.mono (by decide)) passL (pa_cons (pv 0) (pa_cons (pv 3) (pa_cons (pv 2) pa_nil)))))))
      (pss_one (ps_ret (pv 0)))), ?_⟩
    refine q_forLn (ev_var rfl) (sq_of ha) (fun i σ' H' => Ex H H' ∧ ∃ (u' : Addr) (v : Option V), σ' = [some (.ref u'), some (.ref a), some (.ref p), v] ∧ (u' = u ∨ H u' = none) ∧ H' u' = some (.lst (iv (runR ds R (xs.take i))))) ?_ (fun i σ' H' _ h => sq_of (h.1 _ _ ha)) ?_ ?_
    · exact fun H2 e2 => ⟨e2, u, none, rfl, .inl rfl, e2 _ _ hu⟩
    · rintro i x σ' H' hx ⟨e', u', v, rfl, nu, hu'⟩
      obtain ⟨n, hn, rfl⟩ := iv_at hx
      have I := run_row D row (bx.take i)
      have step : runR ds R (xs.take (i + 1)) = redR (runR ds R (xs.take i) ++ [n]) ds := by
        rw [List.take_add_one, hn]
        exact runR_snoc _ _ _ _
      have top := D.top
      refine s_asgC (ea_cons (ev_var rfl) (ea_two (ev_var rfl) (ev_var rfl))) fun H8 e8 => ⟨u', p, _, ds, n, rfl, e8 _ _ hu', e8 _ _ (e' _ _ hp), I.1, D.bits, bx.get hn, by rw [I.2]; omega, fun p2 H9 n9 e9 h9 => ⟨(e'.trans e8).trans e9, p2, _, rfl, .inr (fresh_back (e'.trans e8) n9), ?_⟩⟩
      rw [step]
      exact h9
    · rintro σ' H' ⟨e', u', v, rfl, nu, hu'⟩
      rw [iv_len, List.take_length] at hu'
      exact s_ret (ev_var rfl) fun H8 e8 => q u' _ (e'.trans e8) (e8 _ _ hu') nu
/-- the lowest k signs of a number, the highest first -/
def dg (n : Nat) : Nat → List Int
  | 0 => []
  | k + 1 => ((n / 2 ^ k % 2 : Nat) : Int) :: dg n k
theorem dg_len (n : Nat) : ∀ k, (dg n k).length = k
  | 0 => rfl
  | k + 1 => congrArg (· + 1) (dg_len n k)
theorem dg_at (n : Nat) : ∀ (k j : Nat), j < k → (dg n k)[j]? = some ((n / 2 ^ (k - 1 - j) % 2 : Nat) : Int)
  | 0, j, h => by omega
  | k + 1, 0, _ => rfl
  | k + 1, j + 1, h => by
    show (dg n k)[j]? = _
    rw [dg_at n k j (by omega), show k + 1 - 1 - (j + 1) = k - 1 - j by omega]
def sp__law_halves : Sp := fun vs H Q _ => ∃ n : Nat, vs = [.int (n : Int)] ∧ RetL (iv (dg n 60)) H Q
theorem has__law_halves (T : Txt K mg cs) : Has P w K mg base 1 "_law_halves" ["_law_number"] sp__law_halves := by
  refine T.d__law_halves.ok sc__law_halves (fun vs H Q E h => ?_) (fun f cdv A outer s H vs Q E hr h => ?_)
  · obtain ⟨n, rfl, _⟩ := h
    rfl
  · obtain ⟨n, rfl, q⟩ := h
    refine ⟨_, (pss_cons (ps_set (i := 1) sc__law_halves.nd rfl (Or.inl rfl) (pe_lst pa_nil))
      (pss_cons (ps_for (passes_of rfl) rfl (pi_range1 (by rfl) T.z_range (pa_cons pe_int pa_nil)) (pg_name (i := 2) sc__law_halves.nd rfl (Or.inl rfl)) (pss_cons (ps_set (i := 1) sc__law_halves.nd rfl (Or.inl rfl) (pe_op op_cat (pe_lst (pa_cons (pe_op op_mod (pv 0) pe_int) pa_nil)) (pv 1)))
      (pss_one (ps_set (i := 0) sc__law_halves.nd rfl (Or.inl rfl) (pe_op op_fdiv (pv 0) pe_int)))))
      (pss_one (ps_ret (pv 1))))), ?_⟩
    refine q_asgL el_nilI fun l H1 n1 e1 h1 => ?_
    refine q_forR1 (n := 60) (ea_one ev_c) (by decide) (fun i σ' H' => Ex H H' ∧ ∃ (l : Addr) (v : Option V), σ' = [some (.int ((n / 2 ^ i : Nat) : Int)), some (.ref l), v] ∧ H l = none ∧ H' l = some (.lst (iv (dg n i)))) ?_ ?_ ?_
    · exact fun H2 e2 => ⟨e1.trans e2, l, none, by rw [Nat.pow_zero, Nat.div_one]; rfl, n1, e2 _ _ h1⟩
    · rintro i σ' H' hi ⟨e', l, v, rfl, nl, hl⟩
      refine q_asgL (xs := iv (dg n (i + 1))) (el_catI (xs := [((n / 2 ^ i % 2 : Nat) : Int)]) (er_L (el_oneI (ev_is (ev_mod (ev_var rfl) ev_c (by walk_at "cg ar")) (congrArg V.int (by omega))))) (er_var rfl hl) (by rw [dg_len, List.length_singleton]; omega)) fun l2 H2 n2 e2 h2 => ?_
      exact s_asg (ev_is (ev_mod (ev_var rfl) ev_c (by walk_at "cg ar")) (w := .int ((n / 2 ^ (i + 1) : Nat) : Int)) (congrArg V.int (by rw [Nat.pow_succ, ← Nat.div_div_eq_div_mul]; omega))) fun H3 e3 => ⟨(e'.trans e2).trans e3, l2, _, rfl, fresh_back e' n2, e3 _ _ h2⟩
    · rintro σ' H' ⟨e', l, v, rfl, nl, hl⟩
      exact s_ret (ev_var rfl) fun H8 e8 => q l _ nl (e'.trans e8) (e8 _ _ hl)
/-! ## a register of another divisor, a stranger -/
theorem s_asgG {σ : L2.St} {H : Hp} {te : TE} {g : TG} {D : Ends} (h : te σ H fun v H1 => g v σ H1 D.nx) : tAsg te g D σ H := h
theorem reg_makeG {E : XK} {σ : L2.St} {H : Hp} {tx : TE} {ds : List Int} (h : EvG cs tx σ H ds) {Q : VK}
    (k : ∀ r g2 d2 ra H2, H r = none → H g2 = none → H d2 = none → H ra = none → Ex H H2 → RegAt cs H2 r g2 d2 ra ds (List.replicate (ds.length - 1) 0) 0 → Q (.ref r) H2) : tMake cs.Register (sp_Register___init__ cs) [] E (tCons tx tNil) σ H Q :=
  h H (.refl H) _ fun g da H1 _ _ e1 G => fun y dy ny nd ne => ⟨y, dy, g, da, ds, rfl, upd_same, by
    obtain ⟨dx, ho⟩ := G.ob
    exact ⟨G.D, ⟨dx, upd2_at ny nd ho⟩, upd2_at ny nd G.dv⟩, fun g2 d2 ra H' n1 n2 n3 kp R => ⟨rfl, k y g2 d2 ra H' (fresh_back e1 ny) (fresh_back e1 (upd2_none n1).1) (fresh_back e1 (upd2_none n2).1) (fresh_back e1 (upd2_none n3).1) (e1.trans (upd2_ex ny nd kp)) R⟩⟩
theorem reg_makeP {E : XK} {σ : L2.St} {H : Hp} {tx : TE} {ds : List Int} (h : EvP tx σ H (fun v G => ∃ g da, v = .ref g ∧ GateAt cs G g da ds)) {Q : VK}
    (k : ∀ r g2 d2 ra H2, H r = none → H g2 = none → H d2 = none → H ra = none → Ex H H2 → RegAt cs H2 r g2 d2 ra ds (List.replicate (ds.length - 1) 0) 0 → Q (.ref r) H2) : tMake cs.Register (sp_Register___init__ cs) [] E (tCons tx tNil) σ H Q :=
  h H (.refl H) _ fun v H1 e1 ⟨g, da, hv, G⟩ => fun y dy ny nd ne => ⟨y, dy, g, da, ds, by rw [hv]; rfl, upd_same, by
    obtain ⟨dx, ho⟩ := G.ob
    exact ⟨G.D, ⟨dx, upd2_at ny nd ho⟩, upd2_at ny nd G.dv⟩, fun g2 d2 ra H' n1 n2 n3 kp R => ⟨rfl, k y g2 d2 ra H' (fresh_back e1 ny) (fresh_back e1 (upd2_none n1).1) (fresh_back e1 (upd2_none n2).1) (fresh_back e1 (upd2_none n3).1) (e1.trans (upd2_ex ny nd kp)) R⟩⟩
def sp__law_other (cs : Cs) : Sp := fun vs H Q _ => ∃ (c : Int) (p : Addr) (ds : List Int), vs = [.int c, .ref p] ∧ H p = some (.lst (iv ds)) ∧ IsDiv ds ∧ ∀ r g da ra es H', H r = none → H g = none → H da = none → H ra = none → Ex H H' → RegAt cs H' r g da ra es (zer es) 0 → es ≠ ds → Q (.ref r) H'
theorem has__law_other (T : Txt K mg cs) : Has P w K mg base 10 "_law_other" ["_law_cell", "_law_divisor"] (sp__law_other cs) := by
  refine T.d__law_other.ok sc__law_other (fun vs H Q E h => ?_) (fun f cdv A outer s H vs Q E hr h => ?_)
  · obtain ⟨c, p, ds, rfl, _⟩ := h
    rfl
  · obtain ⟨c, p, ds, rfl, hp, D, q⟩ := h
    refine ⟨_, (pss_cons (ps_set (i := 2) sc__law_other.nd rfl (Or.inl rfl) (pe_lst (pa_cons pe_int pa_nil)))
      (pss_cons (ps_set (i := 3) sc__law_other.nd rfl (Or.inl rfl) (pe_op op_fdiv (pv 0) pe_int))
      (pss_cons (ps_for (passes_of rfl) rfl (pi_range1 (by rfl) T.z_range (pa_cons (pe_op op_sub (pe_callB (kk_len K) (by rfl) T.z_len b_len (pa_cons (pv 1) pa_nil)) pe_int) pa_nil)) (pg_name (i := 4) sc__law_other.nd rfl (Or.inl rfl)) (pss_cons (ps_expr (pe_bm PySem.F.plainAttrs_list PySem.F.slot_list_append PySem.F.type_list_append mt_append (pv 2) (pa_cons (pe_op op_mod (pv 3) pe_int) pa_nil)))
      (pss_one (ps_set (i := 3) sc__law_other.nd rfl (Or.inl rfl) (pe_op op_fdiv (pv 3) pe_int)))))
      (pss_cut (ps_if (PW.pt (pw_and (pt_cmpR op_eqII (pe_op op_mod (pv 0) pe_int) pe_int (nomark _)) (pw_and1 (pt_cmpR op_lt (pe_callB (kk_len K) (by rfl) T.z_len b_len (pa_cons (pv 1) pa_nil)) pe_int (nomark _))))) (pss_one (ps_expr (pe_bm PySem.F.plainAttrs_list PySem.F.slot_list_append PySem.F.type_list_append mt_append (pv 2) (pa_cons (pe_op op_mod (pv 3) pe_int) pa_nil)))) pss_nil)
      (pss_cons (ps_expr (pe_bm PySem.F.plainAttrs_list PySem.F.slot_list_append PySem.F.type_list_append mt_append (pv 2) (pa_cons pe_int pa_nil)))
      (pss_cut (ps_if (PW.pt (pw_and (pt_cmpR (kk_eqD K hr.units) (pv 2) (pv 1) (nomark _)) (pw_and1 (pt_cmpR op_gt (pe_callB (kk_len K) (by rfl) T.z_len b_len (pa_cons (pv 1) pa_nil)) pe_int (nomark _))))) (pss_one (ps_asg (pe_op op_sub pe_int (pe_ix (kk_ixl K) (pv 2) pe_int (fun _ _ => rfl))) (pg_sub (pv 2) pe_int set_list))) pss_nil)
      (pss_cut (ps_if (pt_cmpR (kk_eqD K hr.units) (pv 2) (pv 1) (nomark _)) (pss_one (ps_set (i := 2) sc__law_other.nd rfl (Or.inl rfl) (pe_lst (pa_cons pe_int (pa_cons pe_int (pa_cons pe_int pa_nil)))))) pss_nil)
      (pss_one (ps_ret (pe_makeH (has_Register___init__ T) (hr.mono (by decide)) T.c_Register.g passL (pa_cons (pe_makeH (has_Gate___init__ T) (hr.mono (by decide)) T.c_Gate.g passL (pa_cons (pv 2) pa_nil)) pa_nil))))))))))), ?_⟩
    have two := D.two
    have top := D.top
    refine q_asgL (el_oneI ev_c) fun o H1 n1 e1 h1 => ?_
    refine q_asg (ev_mod (ev_var rfl) ev_c (by walk_at "cg ar")) fun H2 e2 => ?_
    have e02 := e1.trans e2
    have h2 := e2 _ _ h1
    refine q_forR1 (n := (ds.length : Int) - 2) (ea_one (ev_i0 (ev_lenI (er_var rfl (e02 _ _ hp))) ev_c)) (by omega) (fun i σ' H' => Ex H H' ∧ ∃ (ks : List Int) (b : Int) (v : Option V), σ' = [some (.int c), some (.ref p), some (.ref o), some (.int b), v] ∧ Bits ks ∧ ks.length = i ∧ H' o = some (.lst (iv ([1] ++ ks)))) ?_ ?_ ?_
    · exact fun H3 e3 => ⟨e02.trans e3, [], _, none, rfl, .nil, rfl, e3 _ _ h2⟩
    · rintro i σ' H' hi ⟨e', ks, b, v, rfl, bk, lk, ho⟩
      refine q_appI n1 e' ho (ev_var rfl) (ev_mod (ev_var rfl) ev_c (by walk_at "cg ar")) (by rw [List.length_append, lk]; show 1 + i < _; omega) fun H3 e3 k3 h3 => ?_
      exact s_asg (ev_mod (ev_var rfl) ev_c (by walk_at "cg ar")) fun H4 e4 => ⟨e3.trans e4, ks ++ [b % 2], _, _, rfl, bk.append (.one (by omega)), by rw [List.length_append, lk]; rfl, by rw [← List.append_assoc]; exact e4 _ _ h3⟩
    rintro σ' H3 ⟨e3, ks, b, v, rfl, bk, lk, h3⟩
    have h3 : H3 o = some (.lst (iv ([1] ++ ks))) := h3
    refine q_cut (M := fun σ' H' => Ex H H' ∧ ∃ (ks : List Int), σ' = [some (.int c), some (.ref p), some (.ref o), some (.int b), v] ∧ Bits ks ∧ ks.length ≤ 11 ∧ H' o = some (.lst (iv ([1] ++ ks)))) ?_ ?_
    · refine s_when (et_and (et_test (ev_i0 (ev_mod (ev_var rfl) ev_c (by walk_at "cg ar")) ev_c)) (fun _ => et_test (ev_i0 (ev_lenI (er_var rfl (e3 _ _ hp))) ev_c))) (fun hc H4 e4 => ?_) (fun _ H4 e4 => ⟨e3.trans e4, ks, rfl, bk, by omega, e4 _ _ h3⟩)
      rw [Bool.and_eq_true, decide_eq_true_eq, decide_eq_true_eq] at hc
      exact s_appI n1 (e3.trans e4) (e4 _ _ h3) (ev_var rfl) (ev_mod (ev_var rfl) ev_c (by walk_at "cg ar")) (by rw [List.length_append, List.length_singleton]; omega) fun H5 e5 k5 h5 => ⟨e5, ks ++ [b % 2], rfl, bk.append (.one (by omega)), by rw [List.length_append, List.length_singleton]; omega, by rw [← List.append_assoc]; exact h5⟩
    clear e1 e2 e02 h1 h2 e3 h3 bk lk
    rintro σ' H4 ⟨e4, ks, rfl, bk, lk, h4⟩
    refine q_appI n1 e4 h4 (ev_var rfl) ev_c (by rw [List.length_append, List.length_singleton]; omega) fun H5 e5 k5 h5 => ?_
    have X := isDiv_of bk lk
    refine q_cut (M := fun σ' H' => Ex H H' ∧ ∃ (ys : List Int), σ' = [some (.int c), some (.ref p), some (.ref o), some (.int b), v] ∧ IsDiv ys ∧ H' o = some (.lst (iv ys)) ∧ (ys = ds → ds.length = 2)) ?_ ?_
    · refine s_when (et_and (et_test (ev_eqR (xs := [1] ++ ks ++ [1]) (ys := ds) (er_var rfl h5) (er_var rfl (e5 _ _ hp)))) (fun _ => et_test (ev_i0 (ev_lenI (er_var rfl (e5 _ _ hp))) ev_c))) (fun hc H6 e6 => ?_) (fun hc H6 e6 => ⟨e5.trans e6, [1] ++ ks ++ [1], rfl, X, e6 _ _ h5, fun h => ?_⟩)
      · rw [Bool.and_eq_true, decide_eq_true_eq, decide_eq_true_eq] at hc
        obtain ⟨hx, hl⟩ := hc
        cases ks with
        | nil =>
          rw [← hx] at hl
          exact absurd hl (by decide)
        | cons k0 kr =>
          have b0 : k0 = 0 ∨ k0 = 1 := bk k0 List.mem_cons_self
          have br : Bits kr := fun x hx => bk x (List.mem_cons_of_mem _ hx)
          have at1 : ([1] ++ (k0 :: kr) ++ [1] : List Int)[1]? = some k0 := rfl
          refine s_asgG (ev_go (ev_i0 ev_c (ev_ixI (er_var rfl (e6 _ _ h5)) ev_c (atI_nat (j := 1) at1))) fun H7 e7 => ?_)
          refine ⟨.ref o, rfl, o, iv ([1] ++ (k0 :: kr) ++ [1]), 1, 1, rfl, rfl, e7 _ _ (e6 _ _ h5), ?_, Ex.mut ((e5.trans e6).trans e7) n1, [1] ++ ((1 - k0) :: kr) ++ [1], rfl, isDiv_of (.cons (by omega) br) lk, upd_same, fun h => ?_⟩
          · unfold ixN
            rw [iv_len]
            have : (1 : Int) < ((([1] ++ (k0 :: kr) ++ [1] : List Int).length : Nat) : Int) := by
              have z : ([1] ++ (k0 :: kr) ++ [1] : List Int).length = kr.length + 3 := by simp
              omega
            rw [if_pos (show (0 : Int) ≤ 1 by decide), if_pos this]
            rfl
          · rw [← hx] at h
            have z : (1 - k0) :: (kr ++ [1]) = k0 :: (kr ++ [1]) := (List.cons.inj h).2
            have z2 := (List.cons.inj z).1
            omega
      · rw [Bool.and_eq_false_iff, decide_eq_false_iff_not, decide_eq_false_iff_not] at hc
        rcases hc with hc | hc
        · exact absurd h hc
        · omega
    clear e4 e5 h4 h5 X bk lk k5
    rintro σ' H6 ⟨e6, ys, rfl, Y, h6, hy⟩
    refine q_cut (M := fun σ' H' => Ex H H' ∧ ∃ (o : Addr) (ys : List Int), σ' = [some (.int c), some (.ref p), some (.ref o), some (.int b), v] ∧ IsDiv ys ∧ H' o = some (.lst (iv ys)) ∧ ys ≠ ds) ?_ ?_
    · refine s_when (et_test (ev_eqR (xs := ys) (ys := ds) (er_var rfl h6) (er_var rfl (e6 _ _ hp)))) (fun hc H7 e7 => ?_) (fun hc H7 e7 => ⟨e6.trans e7, o, ys, rfl, Y, e7 _ _ h6, of_decide_eq_false hc⟩)
      have l2 := hy (of_decide_eq_true hc)
      exact s_asgL (el_lst (vs := iv [1, 0, 1]) (ea_cons ev_c (ea_two ev_c ev_c)) (by show 3 ≤ 100000; decide)) fun o2 H8 n8 e8 h8 => ⟨(e6.trans e7).trans e8, o2, [1, 0, 1], rfl, isDiv_of (ks := [0]) (.one (.inl rfl)) (by decide), h8, fun h => by rw [← h] at l2; exact absurd l2 (by decide)⟩
    clear e6 h6 Y hy
    rintro σ' H7 ⟨e7, o2, es, rfl, Y, h7, ne⟩
    exact s_retW (reg_makeG (eg_make Y (er_var rfl h7)) fun r g2 d2 ra H8 m1 m2 m3 m4 e8 R => q r g2 d2 ra es H8 (fresh_back e7 m1) (fresh_back e7 m2) (fresh_back e7 m3) (fresh_back e7 m4) (e7.trans e8) R ne)
def sp__law_stranger (K : PySem.W.Frag) (cs : Cs) : Sp := fun vs H Q _ => ∃ (c : Int) (p : Addr) (ds : List Int), vs = [.int c, .ref p] ∧ H p = some (.lst (iv ds)) ∧ IsDiv ds ∧ ∀ v H', Ex H H' → NoMateOf K cs ds H' v → Q v H'
theorem has__law_stranger (T : Txt K mg cs) : Has P w K mg base 11 "_law_stranger" ["_law_cell", "_law_divisor"] (sp__law_stranger K cs) := by
  refine T.d__law_stranger.ok sc__law_stranger (fun vs H Q E h => ?_) (fun f cdv A outer s H vs Q E hr h => ?_)
  · obtain ⟨c, p, ds, rfl, _⟩ := h
    rfl
  · obtain ⟨c, p, ds, rfl, hp, D, q⟩ := h
    refine ⟨_, (pss_cons (ps_if (pt_cmpR op_gt (pe_op op_mod (pv 0) pe_int) pe_int (nomark _)) (pss_one (ps_ret (pe_ix (kk_ixl K) (pe_lst (pa_cons pe_non (pa_cons (pe_lst (pa_cons pe_int (pa_cons pe_int pa_nil))) (pa_cons pe_int (pa_cons pe_str (pa_cons (pe_makeH (has_Gate___init__ T) (hr.mono (by decide)) T.c_Gate.g passL (pa_cons (pe_callTy (kk_list K) (by rfl) T.z_list b_list (pa_cons (pv 1) pa_nil)) pa_nil)) pa_nil)))))) (pe_op op_sub (pe_op op_mod (pv 0) pe_int) pe_int) (fun _ _ => rfl)))) pss_nil)
      (pss_one (ps_ret (pe_callH (has__law_other T) (hr.mono (by decide)) passL (pa_cons (pe_op op_fdiv (pv 0) pe_int) (pa_cons (pv 1) pa_nil)))))), ?_⟩
    have mono : ∀ v H1 H2, Ex H1 H2 → (fun v G => NoMateOf K cs ds G v) v H1 → (fun v G => NoMateOf K cs ds G v) v H2 := fun _ _ _ e h => NoMateOf.mono h e
    have flat : ∀ {σ : L2.St} {H : Hp} {x : V} {s : String}, tyName x = some s → PySem.W.subIn K (.type s) (.ref cs.Register) = some false → EvP (tC x) σ H (fun v G => NoMateOf K cs ds G v) := fun ht hs => ep_of ev_c fun _ _ => .inl ⟨_, T.w_Register.kit hs (fun _ h => nomatch h), fun _ _ => tyx_flat ht⟩
    refine q_when (et_test (ev_i0 (ev_mod (ev_var rfl) ev_c (by walk_at "cg ar")) ev_c)) (fun hc H1 e1 => ?_) (fun hc H1 e1 => ?_)
    · have hc' := of_decide_eq_true hc
      have lst : EvP (tLst (tCons (tC (.int 1)) (tCons (tC (.int 0)) tNil))) (start N__law_stranger [V.int c, V.ref p]) H1 (fun v G => NoMateOf K cs ds G v) := fun H2 e2 Q q => el_lst (ea_two ev_c ev_c) (by show 2 ≤ 100000; decide) H2 (.refl H2) _ fun l H3 n3 e3 h3 => q _ H3 e3 (.inl ⟨_, T.w_Register.kit T.b_list_Register (fun _ h => nomatch h), fun H4 e4 => .base (.lst (e4 _ _ h3))⟩)
      have gat : EvP (tMake cs.Gate (sp_Gate___init__ cs) [] E0 (tCons (tCB (rListS K) (tCons (tVar 1) tNil)) tNil)) (start N__law_stranger [V.int c, V.ref p]) H1 (fun v G => NoMateOf K cs ds G v) := fun H2 e2 Q q => eg_make D (er_L (el_listR (er_var rfl ((e1.trans e2) _ _ hp)))) H2 (.refl H2) _ fun g da H3 ng nd e3 G => by
        obtain ⟨dx, ho⟩ := G.ob
        exact q _ H3 e3 (.inl ⟨_, T.w_Register.kit T.o_Gate_Register (fun _ e => by
          have z : cs.Gate = cs.Register := by injection e
          have o := T.o_Gate_Register
          rw [z, T.o_Register_Register] at o
          cases o), fun H4 e4 => T.w_Gate.ty (e4 _ _ ho)⟩)
      exact ep_any (n := 5) mono (allb_cons mono (flat rfl T.b_NoneType_Register) (allb_cons mono lst (allb_cons mono (flat rfl T.b_int_Register) (allb_cons mono (flat rfl T.b_str_Register) (allb_cons mono gat allb_nil))))) (ev_i0 (ev_mod (ev_var rfl) ev_c (by walk_at "cg ar")) ev_c) (by omega) (by omega) (by decide) H1 (.refl H1) _ fun v H2 e2 b => q v H2 (e1.trans e2) b
    · exact s_retC (ea_two (ev_mod (ev_var rfl) ev_c (by walk_at "cg ar")) (ev_var rfl)) fun H2 e2 => ⟨_, p, ds, rfl, (e1.trans e2) _ _ hp, D, fun r g da ra es H3 _ _ _ _ e3 R ne => q _ H3 ((e1.trans e2).trans e3) (.inr ⟨r, g, da, ra, es, _, 0, rfl, R, ne⟩)⟩


/-! ## two registers, the rows they took, what is held -/
theorem gate_ne_reg {H : Hp} {g d r g2 d2 a2 : Addr} {ds es R : List Int} {m : Int} (G : GateAt cs H g d ds) (R : RegAt cs H r g2 d2 a2 es R m) : g ≠ r := fun e => by
  obtain ⟨dx, ho⟩ := R.ob
  obtain ⟨dxg, hog⟩ := G.ob
  rw [e, ho] at hog
  have z : rfs g2 m a2 = gfs (rch ds : Nat) d (ds.length - 1 : Nat) (evenB ds) := by
    injection hog with hog
    injection hog
  have z2 := congrArg (List.lookup ("many" : Str)) z
  rw [rfs_many, gfs_no (by decide +kernel) (by decide +kernel) (by decide +kernel) (by decide +kernel)] at z2
  cases z2
theorem HeldAt.sub {H : Hp} {hd : Addr} {L L' : List Addr} {n : Nat} (h : HeldAt H hd L n) (s : ∀ z ∈ L', z ∈ L) : HeldAt H hd L' n := by
  obtain ⟨ts, h1, h2, h3⟩ := h
  refine ⟨ts, h1, h2, fun t ht => ?_⟩
  obtain ⟨a, b, ws, k1, k2, k3, k4, k5⟩ := h3 t ht
  exact ⟨a, b, ws, k1, k2, k3, ⟨k4.1, fun z => k4.2 (s _ z)⟩, k5.1, fun z => k5.2 (s _ z)⟩
def RegS (cs : Cs) (H : Hp) (hd t1 t2 r : Addr) (ds R : List Int) (m : Nat) : Prop := ∃ g d a, RegAt cs H r g d a ds R m ∧ (d ≠ hd ∧ d ≠ t1 ∧ d ≠ t2) ∧ (a ≠ hd ∧ a ≠ t1 ∧ a ≠ t2)
structure Two (cs : Cs) (B H : Hp) (hd r1 r2 t1 t2 u l : Addr) (ds R1 : List Int) (m1 : Nat) (R2 : List Int) (m2 : Nat) (U ts ms cells : List Int) (n : Nat) : Prop where
  eB : Ex B H
  hl : H l = some (.lst (iv cells))
  h1 : RegS cs H hd t1 t2 r1 ds R1 m1
  h2 : RegS cs H hd t1 t2 r2 ds R2 m2
  hu : H u = some (.lst (iv U))
  ht1 : H t1 = some (.lst (iv ts))
  ht2 : H t2 = some (.lst (iv ms))
  held : HeldAt H hd [t1, t2] n
  nr : r1 ≠ r2
  nt : t1 ≠ t2
  n1 : t1 ≠ hd
  n2 : t2 ≠ hd
  nl : l ≠ hd ∧ l ≠ t1 ∧ l ≠ t2
  nu : u ≠ hd ∧ u ≠ t1 ∧ u ≠ t2
  b : B hd = none
  b1 : B r1 = none
  b2 : B r2 = none
  c1 : B t1 = none
  c2 : B t2 = none
section
variable {B H H' : Hp} {hd r1 r2 t1 t2 u l : Addr} {ds R1 : List Int} {m1 : Nat} {R2 : List Int} {m2 : Nat} {U ts ms cells : List Int} {n : Nat}
theorem RegS.mono {r : Addr} {R : List Int} {m : Nat} (h : RegS cs H hd t1 t2 r ds R m) (e : Ex H H') : RegS cs H' hd t1 t2 r ds R m := by
  obtain ⟨g, d, a, A, h1, h2⟩ := h
  exact ⟨g, d, a, A.mono e, h1, h2⟩
/-- another register changes -/
theorem RegS.other {r r' : Addr} {R S : List Int} {m k : Nat} (h : RegS cs H hd t1 t2 r ds R m) (h' : RegS cs H hd t1 t2 r' ds S k) (ne : r ≠ r') (kp : Kp r' H H') : RegS cs H' hd t1 t2 r ds R m := by
  obtain ⟨g, d, a, A, x1, x2⟩ := h
  obtain ⟨g', d', a', A', _⟩ := h'
  obtain ⟨dx, ho⟩ := A'.ob
  exact ⟨g, d, a, A.kp kp ne (gate_ne_reg A.G A') (ne_of A.G.dv ho (by intro z; cases z)) (ne_of A.rv ho (by intro z; cases z)), x1, x2⟩
/-- a list that is none of its own changes -/
theorem RegS.lst {r z : Addr} {R : List Int} {m : Nat} {xs : List V} (h : RegS cs H hd t1 t2 r ds R m) (hz : H z = some (.lst xs)) (kp : Kp z H H') (s : z = hd ∨ z = t1 ∨ z = t2) : RegS cs H' hd t1 t2 r ds R m := by
  obtain ⟨g, d, a, A, x1, x2⟩ := h
  obtain ⟨dx, ho⟩ := A.ob
  obtain ⟨dxg, hog⟩ := A.G.ob
  exact ⟨g, d, a, A.kp kp (ne_of ho hz (by intro z; cases z)) (ne_of hog hz (by intro z; cases z)) (by rcases s with rfl | rfl | rfl; exact x1.1; exact x1.2.1; exact x1.2.2) (by rcases s with rfl | rfl | rfl; exact x2.1; exact x2.2.1; exact x2.2.2), x1, x2⟩
theorem RegS.swap {r t1' : Addr} {R : List Int} {m : Nat} (h : RegS cs H hd t1 t2 r ds R m) (nt : H t1' = none) : RegS cs H hd t1' t2 r ds R m := by
  obtain ⟨g, d, a, A, x1, x2⟩ := h
  exact ⟨g, d, a, A, ⟨x1.1, ne_of_none A.G.dv nt, x1.2.2⟩, x2.1, ne_of_none A.rv nt, x2.2.2⟩
variable (W : Two cs B H hd r1 r2 t1 t2 u l ds R1 m1 R2 m2 U ts ms cells n)
include W
theorem Two.mono (e : Ex H H') : Two cs B H' hd r1 r2 t1 t2 u l ds R1 m1 R2 m2 U ts ms cells n :=
  { W with eB := W.eB.trans e, hl := e _ _ W.hl, h1 := W.h1.mono e, h2 := W.h2.mono e, hu := e _ _ W.hu, ht1 := e _ _ W.ht1, ht2 := e _ _ W.ht2, held := W.held.mono e }
theorem Two.hdp : H hd ≠ none := by
  obtain ⟨_, z, _⟩ := W.held
  rw [z]
  intro e
  cases e
theorem Two.fr {z : Addr} (h : H z = none) : z ≠ hd ∧ z ≠ t1 ∧ z ≠ t2 := ⟨fun e => W.hdp (by rw [← e]; exact h), (ne_of_none W.ht1 h).symm, (ne_of_none W.ht2 h).symm⟩
theorem Two.reg1 {g d a a' : Addr} {R' : List Int} {m' : Nat} (k : Kp r1 H H') (A : RegAt cs H r1 g d a ds R1 m1) (sd : d ≠ hd ∧ d ≠ t1 ∧ d ≠ t2) (na : H a' = none) (A' : RegAt cs H' r1 g d a' ds R' m') : Two cs B H' hd r1 r2 t1 t2 u l ds R' m' R2 m2 U ts ms cells n := by
  obtain ⟨dx, ho⟩ := A.ob
  have nl : ∀ {z : Addr} {xs : List V}, H z = some (.lst xs) → z ≠ r1 := fun h => ne_of h ho (by intro z; cases z)
  exact { W with eB := k.ex W.b1 W.eB, hl := k _ _ (nl W.hl) W.hl, h1 := ⟨g, d, a', A', sd, W.fr na⟩, h2 := W.h2.other W.h1 W.nr.symm k, hu := k _ _ (nl W.hu) W.hu, ht1 := k _ _ (nl W.ht1) W.ht1, ht2 := k _ _ (nl W.ht2) W.ht2, held := W.held.kpO k ho }
theorem Two.reg2 {g d a a' : Addr} {R' : List Int} {m' : Nat} (k : Kp r2 H H') (A : RegAt cs H r2 g d a ds R2 m2) (sd : d ≠ hd ∧ d ≠ t1 ∧ d ≠ t2) (na : H a' = none) (A' : RegAt cs H' r2 g d a' ds R' m') : Two cs B H' hd r1 r2 t1 t2 u l ds R1 m1 R' m' U ts ms cells n := by
  obtain ⟨dx, ho⟩ := A.ob
  have nl : ∀ {z : Addr} {xs : List V}, H z = some (.lst xs) → z ≠ r2 := fun h => ne_of h ho (by intro z; cases z)
  exact { W with eB := k.ex W.b2 W.eB, hl := k _ _ (nl W.hl) W.hl, h2 := ⟨g, d, a', A', sd, W.fr na⟩, h1 := W.h1.other W.h2 W.nr k, hu := k _ _ (nl W.hu) W.hu, ht1 := k _ _ (nl W.ht1) W.ht1, ht2 := k _ _ (nl W.ht2) W.ht2, held := W.held.kpO k ho }
theorem Two.due {u' : Addr} {U' : List Int} (e : Ex H H') (hu : H' u' = some (.lst (iv U'))) (nu : H u' = none) : Two cs B H' hd r1 r2 t1 t2 u' l ds R1 m1 R2 m2 U' ts ms cells n :=
  { W.mono e with hu := hu, nu := W.fr nu }
theorem Two.app1 {ts' : List Int} (k : Kp t1 H H') (h : H' t1 = some (.lst (iv ts'))) : Two cs B H' hd r1 r2 t1 t2 u l ds R1 m1 R2 m2 U ts' ms cells n :=
  { W with eB := k.ex W.c1 W.eB, hl := k _ _ W.nl.2.1 W.hl, h1 := W.h1.lst W.ht1 k (.inr (.inl rfl)), h2 := W.h2.lst W.ht1 k (.inr (.inl rfl)), hu := k _ _ W.nu.2.1 W.hu, ht1 := h, ht2 := k _ _ W.nt.symm W.ht2, held := W.held.kp k List.mem_cons_self W.n1 ⟨_, W.ht1⟩ }
theorem Two.app2 {ms' : List Int} (k : Kp t2 H H') (h : H' t2 = some (.lst (iv ms'))) : Two cs B H' hd r1 r2 t1 t2 u l ds R1 m1 R2 m2 U ts ms' cells n :=
  { W with eB := k.ex W.c2 W.eB, hl := k _ _ W.nl.2.2 W.hl, h1 := W.h1.lst W.ht2 k (.inr (.inr rfl)), h2 := W.h2.lst W.ht2 k (.inr (.inr rfl)), hu := k _ _ W.nu.2.2 W.hu, ht2 := h, ht1 := k _ _ W.nt W.ht1, held := W.held.kp k (List.mem_cons_of_mem _ List.mem_cons_self) W.n2 ⟨_, W.ht2⟩ }
theorem Two.new1 {t1' : Addr} {ts' : List Int} (e : Ex H H') (nt1 : H t1' = none) (h : H' t1' = some (.lst (iv ts'))) : Two cs B H' hd r1 r2 t1' t2 u l ds R1 m1 R2 m2 U ts' ms cells n :=
  { W.mono e with h1 := (W.h1.swap nt1).mono e, h2 := (W.h2.swap nt1).mono e, ht1 := h, held := ((W.held.more nt1).sub (fun z hz => by
      rcases List.mem_cons.mp hz with rfl | hz
      · exact List.mem_cons_self
      · exact List.mem_cons_of_mem _ (List.mem_cons_of_mem _ hz))).mono e, nt := (W.fr nt1).2.2, n1 := (W.fr nt1).1, nl := ⟨W.nl.1, ne_of_none W.hl nt1, W.nl.2.2⟩, nu := ⟨W.nu.1, ne_of_none W.hu nt1, W.nu.2.2⟩, c1 := fresh_back W.eB nt1 }
theorem Two.hold {n' : Nat} (k : Kp hd H H') (h : HeldAt H' hd [t1, t2] n') : Two cs B H' hd r1 r2 t1 t2 u l ds R1 m1 R2 m2 U ts ms cells n' := by
  obtain ⟨hs, z, _⟩ := id W.held
  exact { W with eB := k.ex W.b W.eB, hl := k _ _ W.nl.1 W.hl, h1 := W.h1.lst z k (.inl rfl), h2 := W.h2.lst z k (.inl rfl), hu := k _ _ W.nu.1 W.hu, ht1 := k _ _ W.n1 W.ht1, ht2 := k _ _ W.n2 W.ht2, held := h }
end


--split
/-! ## far -/
theorem kp_fresh {l b : Addr} {H H' : Hp} (k : Kp l H H') (hl : H' l ≠ none) (nb : H' b = none) : H b = none := by
  cases h : H b with
  | none => rfl
  | some o =>
    have n : b ≠ l := fun e => hl (by rw [← e, nb])
    rw [k _ _ n h] at nb
    cases nb
theorem RegAt.pres {H : Hp} {r g da ra : Addr} {ds R : List Int} {m : Int} (h : RegAt cs H r g da ra ds R m) : H r ≠ none := by
  obtain ⟨dx, ho⟩ := h.ob
  rw [ho]
  intro e
  cases e
theorem eap_elF {σ : L2.St} {H : Hp} {te : TE} {tr : TA} {xs : List V} {P : List V → Hp → Prop} (h : EvL te σ H xs) (hr : EvAP tr σ H P) : EvAP (tCons te tr) σ H (fun vs H' => ∃ p r, vs = .ref p :: r ∧ H p = none ∧ H' p = some (.lst xs) ∧ P r H') := fun H1 e Q q =>
  h H1 e _ fun p H2 n2 e2 h2 => hr H2 (e.trans e2) _ fun vs H3 e3 h3 => q _ H3 (e2.trans e3) ⟨p, vs, rfl, fresh_back e n2, e3 _ _ h2, h3⟩
def sp__law_doubled (cs : Cs) : Sp := fun vs H Q _ => ∃ (r g da ra u p : Addr) (ds R : List Int) (m : Nat), vs = [.ref r, .ref u, .int (m : Int), .ref p, .int ((rch ds : Nat) : Int)] ∧ RegAt cs H r g da ra ds R m ∧ H u = some (.lst (iv R)) ∧ H p = some (.lst (iv ds)) ∧ m + m ≤ 1000000000000000000 ∧
  ∀ t b rb H', H b = none → H rb = none → Kp r H H' → RegAt cs H' r g da rb ds (xorR (its ds (m % rch ds) R) R) ((m + m : Nat) : Int) → H' t = some (.tup [.bl true, .ref b]) → H' b = some (.lst (iv (xorR (its ds (m % rch ds) R) R))) → Q (.ref t) H'
theorem has__law_doubled (T : Txt K mg cs) : Has P w K mg base 8 "_law_doubled" ["_law_far_here", "_law_due", "_law_many", "_law_divisor", "_law_most"] (sp__law_doubled cs) := by
  refine T.d__law_doubled.ok sc__law_doubled (fun vs H Q E h => ?_) (fun f cdv A outer s H vs Q E hr h => ?_)
  · obtain ⟨r, g, da, ra, u, p, ds, R, m, rfl, _⟩ := h
    rfl
  · obtain ⟨r, g, da, ra, u, p, ds, R, m, rfl, RA, hu, hp, lm, q⟩ := h
    refine ⟨_, (pss_cons (ps_set (i := 5) sc__law_doubled.nd rfl (Or.inl rfl) (pe_cmpR op_isN (pe_methH (pv 0) T.c_Register.cl (has_Register_joined T) (hr.mono (by decide)) passL (pa_cons (pv 0) pa_nil)) pe_non (nomark _)))
      (pss_cons (ps_set (i := 6) sc__law_doubled.nd rfl (Or.inl rfl) (pe_callH (has__law_went T) (hr.mono (by decide)) passL (pa_cons (pv 1) (pa_cons (pe_op op_rep (pe_lst (pa_cons pe_int pa_nil)) (pe_op op_mod (pv 2) (pv 4))) (pa_cons (pv 3) pa_nil)))))
      (pss_one (ps_ret (pe_tup (pa_cons (pv 5) (pa_cons (pe_lc (own := [("_law_a", 7), ("_law_b", 8)]) (g := gTup K 2 (gCons (gName 7) (gCons (gName 8) gNil))) (tt := tYes) rfl sc__law_doubled.nd (pi_zip (by rfl) T.z_zip (pa_cons (pv 6) (pa_cons (pv 1) pa_nil))) (blkOk_by (own := [("_law_a", 7), ("_law_b", 8)]) (N := N__law_doubled) (sc := defScope s__law_doubled) (by decide +kernel)) (fun _ _ _ _ _ => pg_tup rfl (pgs_cons (pg_name (i := 7) sc__law_doubled.nd rfl (Or.inl rfl)) (pgs_cons (pg_name (i := 8) sc__law_doubled.nd rfl (Or.inl rfl)) pgs_nil))) (fun _ _ _ _ _ => pts_nil) (fun _ _ _ _ _ => (pe_op op_mod (pe_op op_add (pv 7) (pv 8)) pe_int))) pa_nil))))))), ?_⟩
    obtain ⟨dx, ho⟩ := RA.ob
    have D := RA.G.D
    have row := RA.row
    have top := D.top
    have it := rch_top D
    have ip := (rch_is D).1.pos
    have nur : u ≠ r := ne_of hu ho (by intro z; cases z)
    have npr : p ≠ r := ne_of hp ho (by intro z; cases z)
    refine q_asgW (op_go (meth_go (ev_var rfl) ho rfs_joined fun H1 e1 => ea_go (ea_one (ev_var rfl)) fun H2 e2 => ?_))
    have e12 := e1.trans e2
    refine ⟨r, g, da, ra, ds, R, m, .ref r, rfl, RA.mono e12, .inr ⟨r, g, da, ra, ds, R, m, rfl, RA.mono e12, .inr (.inr ⟨rfl, lm, fun rb H3 nb k3 R3 => ⟨rfl, ?_⟩⟩)⟩⟩
    have nb0 := fresh_back e12 nb
    have kH : Kp r H H3 := (Kp.of e12).trans k3
    have z : decide (V.non = V.non) = true := decide_eq_true rfl
    rw [z]
    clear z e1 e2 e12 k3 nb
    have lz : m % rch ds < rch ds := Nat.mod_lt _ (by omega)
    refine q_asgP (eap_ev (ev_var rfl) (eap_er (er_L (el_repN (k := m % rch ds) ev_c (ev_is (ev_mod (ev_var rfl) (ev_var rfl) (by show (0 : Int) < _; omega)) (congrArg V.int (by omega))) (by omega))) (eap_ev (ev_var rfl) eap_nil))) ?_
    rintro vs H4 e4 ⟨_, rfl, zs, _, rfl, hz, _, rfl, rfl⟩
    have kH4 := kH.trans (Kp.of e4)
    refine ⟨u, zs, p, R, _, ds, rfl, kH4 _ _ nur hu, hz, kH4 _ _ npr hp, D, row, .rep _ (.inl rfl), fun p' H5 e5 h5 nu => ?_⟩
    rw [run_zeros] at h5
    have kH5 := kH4.trans (Kp.of e5)
    have I := its_row D row (m % rch ds)
    refine s_retW ⟨_, rfl, el_lcAdd (xs := its ds (m % rch ds) R) (ys := R) (er_var rfl h5) (er_var rfl (kH5 _ _ nur hu)) (by rw [I.2]; omega) (fun _ _ => rfl) (fun x y H6 => by walk_at "cg ev") H5 (.refl H5) _ fun b H6 n6 e6 h6 => ⟨by show 2 ≤ 2 ^ 24; decide, fun t nt => ?_⟩⟩
    rw [addM_eq I.1 row.1] at h6
    have R6 := ((R3.mono e4).mono e5).mono e6
    have k6 := kH5.trans (Kp.of e6)
    exact q t b rb _ (kp_fresh kH5 ((R3.mono e4).mono e5).pres n6) nb0 (k6.trans (Kp.of (Ex.new nt))) (R6.mono (Ex.new nt)) upd_same (Ex.new nt _ _ h6)
def sp__law_far_ends (cs : Cs) : Sp := fun vs H Q _ => ∃ (r g da ra u p a hd : Addr) (ds R xs : List Int) (m n : Nat) (c : Int), vs = [.ref r, .ref u, .int (m : Int), .ref p, .ref a, .int c, .ref hd] ∧ RegAt cs H r g da ra ds R m ∧ H u = some (.lst (iv R)) ∧ H p = some (.lst (iv ds)) ∧ H a = some (.lst (iv xs)) ∧ Bits xs ∧ xs.length ≤ 1000 ∧ m ≤ 1000000000000000000 ∧
  HeldAt H hd [] n ∧ n < 80000 ∧ da ≠ hd ∧ ra ≠ hd ∧ u ≠ hd ∧ p ≠ hd ∧ a ≠ hd ∧ ∀ k H', HeldAt H' hd [] k → Q (.bl true) H'
theorem has__law_far_ends (T : Txt K mg cs) : Has P w K mg base 11 "_law_far_ends" ["_law_far_here", "_law_due", "_law_many", "_law_divisor", "_law_row", "_law_cell", "_law_held"] (sp__law_far_ends cs) := by
  refine T.d__law_far_ends.ok sc__law_far_ends (fun vs H Q E h => ?_) (fun f cdv A outer s H vs Q E hr h => ?_)
  · obtain ⟨r, g, da, ra, u, p, a, hd, ds, R, xs, m, n, c, rfl, _⟩ := h
    rfl
  · obtain ⟨r, g, da, ra, u, p, a, hd, ds, R, xs, m, n, c, rfl, RA, hu, hp, ha, bx, lx, lm, hh, hn, n1, n2, n3, n4, n5, q⟩ := h
    refine ⟨_, (pss_cons (ps_set (i := 7) sc__law_far_ends.nd rfl (Or.inl rfl) (pe_makeH (has_Register___init__ T) (hr.mono (by decide)) T.c_Register.g passL (pa_cons (pe_makeH (has_Gate___init__ T) (hr.mono (by decide)) T.c_Gate.g passL (pa_cons (pe_callTy (kk_list K) (by rfl) T.z_list b_list (pa_cons (pv 3) pa_nil)) pa_nil)) pa_nil)))
      (pss_cons (ps_for (passes_of rfl) rfl (pi_list (pv 4)) (pg_name (i := 8) sc__law_far_ends.nd rfl (Or.inl rfl)) (pss_one (ps_expr (pe_methH (pv 7) T.c_Register.cl (has_Register_put T) (hr.mono (by decide)) passL (pa_cons (pv 8) pa_nil)))))
      (pss_cons (ps_set (i := 9) sc__law_far_ends.nd rfl (Or.inl rfl) (pe_callB (kk_max rfl) (by rfl) T.z_max b_max (pa_cons pe_int (pa_cons (pe_callH (has__law_reach_by T) (hr.mono (by decide)) passL (pa_cons (pv 3) pa_nil)) pa_nil))))
      (pss_cons (ps_set (i := 10) sc__law_far_ends.nd rfl (Or.inl rfl) (pe_callH (has__law_went T) (hr.mono (by decide)) passL (pa_cons (pe_callH (has__law_rest_by T) (hr.mono (by decide)) passL (pa_cons (pv 4) (pa_cons (pv 3) pa_nil))) (pa_cons (pe_op op_rep (pe_lst (pa_cons pe_int pa_nil)) (pe_op op_mod (pv 2) (pv 9))) (pa_cons (pv 3) pa_nil)))))
      (pss_cons (ps_set (i := 11) sc__law_far_ends.nd rfl (Or.inl rfl) (pe_callH (has__law_other T) (hr.mono (by decide)) passL (pa_cons (pv 5) (pa_cons (pv 3) pa_nil))))
      (pss_cons (ps_expr (pe_methH (pv 11) T.c_Register.cl (has_Register_put T) (hr.mono (by decide)) passL (pa_cons pe_int pa_nil)))
      (pss_cons (ps_if (PW.pt (pw_or (pt_cmpR op_ne (pe_callH (has__law_refused T) (hr.mono (by decide)) passL (pa_cons (pv 11) (pa_cons (pv 0) (pa_cons pe_bl pa_nil)))) pe_str (nomark _)) (pw_or1 (pt_cmpR op_neII (pe_fld (pv 11) rfl) pe_int (nomark _))))) (pss_one (ps_ret pe_bl)) pss_nil)
      (pss_cut (ps_if (pt_cmpR op_gt (pe_op op_add (pv 2) (pe_callB (kk_len K) (by rfl) T.z_len b_len (pa_cons (pv 4) pa_nil))) (pe_op op_pow pe_int pe_int) (nomark _)) (pss_cons (ps_set (i := 12) sc__law_far_ends.nd rfl (Or.inl rfl) (pe_callH (has__law_rest_by T) (hr.mono (by decide)) passL (pa_cons (pv 4) (pa_cons (pv 3) pa_nil))))
      (pss_cons (ps_if (pt_cmpR op_ne (pe_callH (has__law_refused T) (hr.mono (by decide)) passL (pa_cons (pv 7) (pa_cons (pv 0) (pa_cons pe_bl pa_nil)))) pe_str (nomark _)) (pss_one (ps_ret pe_bl)) pss_nil)
      (pss_one (ps_if (pt_not (pt_val (pe_callH (has__law_stands T) (hr.mono (by decide)) passL (pa_cons (pv 7) (pa_cons (pe_callB (kk_len K) (by rfl) T.z_len b_len (pa_cons (pv 4) pa_nil)) (pa_cons (pv 12) (pa_cons (pv 3) (pa_cons (pv 6) pa_nil)))))))) (pss_one (ps_ret pe_bl)) pss_nil)))) (pss_cons (ps_setLc (i := 10) (own := [("_law_a", 13), ("_law_b", 14)]) (g := gTup K 2 (gCons (gName 13) (gCons (gName 14) gNil))) (tt := tYes) rfl sc__law_far_ends.nd rfl rfl (sw_true rfl rfl rfl (by decide +kernel)) (pi_zip (by rfl) T.z_zip (pa_cons (pv 10) (pa_cons (pv 1) pa_nil))) (blkOk_by (own := [("_law_a", 13), ("_law_b", 14)]) (N := N__law_far_ends) (sc := defScope s__law_far_ends) (by decide +kernel)) (fun _ _ _ _ _ => pg_tup rfl (pgs_cons (pg_name (i := 13) sc__law_far_ends.nd rfl (Or.inl rfl)) (pgs_cons (pg_name (i := 14) sc__law_far_ends.nd rfl (Or.inl rfl)) pgs_nil))) (fun _ _ _ _ _ => pts_nil) (fun _ _ _ _ _ => (pe_op op_mod (pe_op op_add (pv 13) (pv 14)) pe_int)))
      (pss_cons (ps_if (pt_cmpR op_notN (pe_methH (pv 7) T.c_Register.cl (has_Register_joined T) (hr.mono (by decide)) passL (pa_cons (pv 0) pa_nil)) pe_non (nomark _)) (pss_one (ps_ret pe_bl)) pss_nil)
      (pss_one (ps_if (pt_not (pt_val (pe_callH (has__law_stands T) (hr.mono (by decide)) passL (pa_cons (pv 7) (pa_cons (pe_op op_add (pv 2) (pe_callB (kk_len K) (by rfl) T.z_len b_len (pa_cons (pv 4) pa_nil))) (pa_cons (pv 10) (pa_cons (pv 3) (pa_cons (pv 6) pa_nil)))))))) (pss_one (ps_ret pe_bl)) pss_nil)))))
      (pss_cons (ps_if (pt_not (pt_val (pe_callH (has__law_stands T) (hr.mono (by decide)) passL (pa_cons (pv 0) (pa_cons (pv 2) (pa_cons (pv 1) (pa_cons (pv 3) (pa_cons (pv 6) pa_nil)))))))) (pss_one (ps_ret pe_bl)) pss_nil)
      (pss_cons (ps_if (PW.pt (pw_and (pt_cmpR op_gt (pe_op op_mul pe_int (pv 2)) (pe_op op_pow pe_int pe_int) (nomark _)) (pw_and1 (pt_cmpR op_ne (pe_callH (has__law_refused T) (hr.mono (by decide)) passL (pa_cons (pv 0) (pa_cons (pv 0) (pa_cons pe_bl pa_nil)))) pe_str (nomark _))))) (pss_one (ps_ret pe_bl)) pss_nil)
      (pss_cons (ps_expr (pe_methH0 (pv 0) T.c_Register.cl (has_Register_anew T) (hr.mono (by decide)) passL))
      (pss_one (ps_ret (pe_callH (has__law_stands T) (hr.mono (by decide)) passL (pa_cons (pv 0) (pa_cons pe_int (pa_cons (pe_op op_rep (pe_lst (pa_cons pe_int pa_nil)) (pe_op op_sub (pe_callB (kk_len K) (by rfl) T.z_len b_len (pa_cons (pv 3) pa_nil)) pe_int)) (pa_cons (pv 3) (pa_cons (pv 6) pa_nil))))))))))))))))))), ?_⟩
    have D := RA.G.D
    have two := D.two
    have top := D.top
    have it := rch_top D
    have ip := (rch_is D).1.pos
    have row := RA.row
    obtain ⟨dx, ho⟩ := RA.ob
    obtain ⟨dxg, hog⟩ := RA.G.ob
    obtain ⟨ts, hts, _⟩ := id hh
    have nrh : r ≠ hd := ne_of ho hts (by intro z; cases z)
    have ngh : g ≠ hd := ne_of hog hts (by intro z; cases z)
    have neh : ∀ {z : Addr}, H z = none → z ≠ hd := fun {z} h e => by
      rw [e, hts] at h
      cases h
    have lz : m % rch ds < rch ds := Nat.mod_lt _ (by omega)
    have bz : ∀ k, Bits (List.replicate k (0 : Int)) := fun _ => .rep _ (.inl rfl)
    have I := its_row D (rest_row D bx) (m % rch ds)
    refine q_asgW (reg_makeG (eg_make D (er_L (el_listR (er_var rfl hp)))) fun r2 g2 d2 a2 H1 nr2 ng2 nd2 na2 e1 B1 => ?_)
    refine q_forLn (xs := iv xs) (ev_var rfl) (sq_of (e1 _ _ ha)) (fun i σ' H' => Ex H H' ∧ ∃ (a2 : Addr) (v8 : Option V), σ' = [some (.ref r), some (.ref u), some (.int (m : Int)), some (.ref p), some (.ref a), some (.int c), some (.ref hd), some (.ref r2), v8, none, none, none, none, none, none] ∧ H a2 = none ∧ RegAt cs H' r2 g2 d2 a2 ds (restR ds (xs.take i)) ((i : Nat) : Int)) ?_ (fun i σ' H' _ h => sq_of (h.1 _ _ ha)) ?_ ?_
    · exact fun H2 e2 => ⟨e1.trans e2, a2, none, rfl, na2, ((B1.mono e2).isRow (by rw [restR_run]; rfl)).isMany rfl⟩
    · rintro i x σ' H' hx ⟨e, a2, v8, rfl, na2, B⟩
      obtain ⟨s, hs, rfl⟩ := iv_at hx
      obtain ⟨dx2, ho2⟩ := B.ob
      refine s_dropW (meth_go (ev_var rfl) ho2 rfs_put fun H3 e3 => ea_go (ea_one (ev_var rfl)) fun H4 e4 => ?_)
      have e34 := e3.trans e4
      exact ⟨r2, g2, d2, a2, ds, _, _, _, rfl, B.mono e34, .inl ⟨s, rfl, bx.get hs, fun rb H5 nb k5 B5 => ⟨k5.ex nr2 (e.trans e34), rb, _, rfl, fresh_back (e.trans e34) nb, (B5.isRow (by rw [List.take_add_one, hs, restR_run, restR_run]; exact (runR_snoc _ _ _ _).symm)).isMany (by omega)⟩⟩⟩
    clear B1 e1 na2 a2
    rintro σ' H2 ⟨e2, a2, v8, rfl, na2, B2⟩
    rw [iv_len, List.take_length] at B2
    refine q_asg (ev_is (ev_max2 ev_c (ev_call (ea_one (ev_var rfl)) fun H3 e3 Q q _ => ⟨p, ds, rfl, (e2.trans e3) _ _ hp, D, q⟩)) (w := .int ((rch ds : Nat) : Int)) (congrArg V.int (by split <;> omega))) fun H3 e3 => ?_
    have e03 := e2.trans e3
    refine q_asgP (eap_er (er_L (el_call (xs := iv (restR ds xs)) (ea_two (ev_var rfl) (ev_var rfl)) fun H4 e4 Q q _ => ⟨a, p, xs, ds, rfl, (e03.trans e4) _ _ ha, (e03.trans e4) _ _ hp, bx, D.bits, by omega, by omega, q⟩)) (eap_er (er_L (el_repN (k := m % rch ds) ev_c (ev_is (ev_mod (ev_var rfl) (ev_var rfl) (by show (0 : Int) < _; omega)) (congrArg V.int (by omega))) (by omega))) (eap_ev (ev_var rfl) eap_nil))) ?_
    rintro vs H4 e4 ⟨x1, _, rfl, hx1, x2, _, rfl, hx2, _, rfl, rfl⟩
    have e04 := e03.trans e4
    refine ⟨x1, x2, p, restR ds xs, _, ds, rfl, hx1, hx2, e04 _ _ hp, D, rest_row D bx, bz _, fun la H5 e5 hla _ => ?_⟩
    rw [run_zeros] at hla
    have e05 := e04.trans e5
    have B5 := ((B2.mono e3).mono e4).mono e5
    clear e2 e3 e4 e5 e03 e04 hx1 hx2 B2
    have A5 := RA.mono e05
    have hu5 := e05 _ _ hu
    have hp5 := e05 _ _ hp
    have ha5 := e05 _ _ ha
    have held5 := hh.mono e05
    have lL : (its ds (m % rch ds) (restR ds xs)).length = ds.length - 1 := I.2
    have n6 := neh nd2
    have n7 := neh na2
    have nr2h := neh nr2
    have ng2h := neh ng2
    have nrr : r2 ≠ r := (ne_of_none ho nr2).symm
    have ngr : g ≠ r2 := ne_of_none hog nr2
    have ndr : da ≠ r2 := ne_of_none RA.G.dv nr2
    have nar : ra ≠ r2 := ne_of_none RA.rv nr2
    have nur : u ≠ r2 := ne_of_none hu nr2
    have npr : p ≠ r2 := ne_of_none hp nr2
    have nlah : la ≠ hd → True := fun _ => True.intro
    clear e05 RA hu hp ha hh ho hog nr2 ng2 nd2 na2 hts neh nlah
    refine q_asgC (ea_two (ev_var rfl) (ev_var rfl)) fun H6 e6 => ⟨c, p, ds, rfl, e6 _ _ hp5, D, fun r3 g3 d3 a3 es H7 n3 _ _ _ e7 R3 ne => ?_⟩
    obtain ⟨dx3, ho3⟩ := R3.ob
    refine q_dropW (meth_go (ev_var rfl) ho3 rfs_put fun H8 e8 => ea_go (ea_one ev_c) fun H9 e9 => ?_)
    have e79 := e8.trans e9
    refine ⟨r3, g3, d3, a3, es, _, _, _, rfl, R3.mono e79, .inl ⟨1, rfl, .inr rfl, fun rb H10 _ k10 R10 => ?_⟩⟩
    have e10 : Ex H5 H10 := k10.ex (fresh_back e6 n3) ((e6.trans e7).trans e79)
    have S10 : RegAt cs H10 r3 g3 d3 rb es (stepR es (zer es) 1) ((1 : Nat) : Int) := R10.isMany (by omega)
    obtain ⟨dxs, hos⟩ := S10.ob
    clear e6 e7 e8 e9 e79 k10 R3 R10 n3 ho3
    refine q_when (b := false) (et_is (et_or (a := false) (et_is (et_test (ev_neS (ev_call (ea_cons (ev_var rfl) (ea_two (ev_var rfl) ev_c)) fun H11 e11 Q q _ => ⟨r3, g3, d3, rb, es, _, 1, .ref r, false, "m", rfl, S10.mono e11, .m (.inr ⟨r, g, da, ra, ds, R, m, rfl, (A5.mono e10).mono e11, fun e => ne e.symm⟩), q⟩) ev_c rfl)) (by rw [str_eq]; decide +kernel)) (fun _ => et_is (et_test (ev_i0 (ev_fld (ev_var rfl) hos T.c_Register.cl T.n_Register_many rfs_many) ev_c)) (by simp))) rfl) (fun h => nomatch h) (fun _ H11 e11 => ?_)
    have e511 := e10.trans e11
    have A11 := A5.mono e511
    have B11 := B5.mono e511
    have hu11 := e511 _ _ hu5
    have hp11 := e511 _ _ hp5
    have ha11 := e511 _ _ ha5
    have la11 := e511 _ _ hla
    have held11 := held5.mono e511
    obtain ⟨ts, hts, _⟩ := id held11
    have fr : ∀ {G : Hp} {z : Addr}, Ex H11 G → G z = none → z ≠ hd := fun {G z} e h => by
      intro c
      rw [c, e _ _ hts] at h
      cases h
    clear e10 e11 e511 S10 hos A5 B5 hu5 hp5 ha5 hla held5
    refine q_cut (M := fun σ' H' => ∃ v7 v8 v9 v10 v11 v12 v13 v14 : Option V, σ' = [some (.ref r), some (.ref u), some (.int (m : Int)), some (.ref p), some (.ref a), some (.int c), some (.ref hd), v7, v8, v9, v10, v11, v12, v13, v14] ∧ RegAt cs H' r g da ra ds R m ∧ H' u = some (.lst (iv R)) ∧ H' p = some (.lst (iv ds)) ∧ HeldAt H' hd [] (n + 2)) ?_ ?_
    · refine s_if (et_test (ev_i0 (ev_i0 (ev_var rfl) (ev_lenI (er_var rfl ha11))) (ev_is (ev_mod ev_c ev_c ⟨by decide, by decide, by decide⟩) (w := .int 1000000000000000000) (congrArg V.int (by decide))))) (fun hc H12 e12 => ?_) (fun hc H12 e12 => ?_)
      · have hc' := of_decide_eq_true hc
        refine q_asgL (el_call (xs := iv (restR ds xs)) (ea_two (ev_var rfl) (ev_var rfl)) fun H13 e13 Q q _ => ⟨a, p, xs, ds, rfl, (e12.trans e13) _ _ ha11, (e12.trans e13) _ _ hp11, bx, D.bits, by omega, by omega, q⟩) fun rs H13 n13 e13 h13 => ?_
        have e1113 := e12.trans e13
        refine q_when (b := false) (et_is (et_test (ev_neS (ev_call (ea_cons (ev_var rfl) (ea_two (ev_var rfl) ev_c)) fun H14 e14 Q q _ => ⟨r2, g2, d2, a2, ds, _, xs.length, .ref r, false, "l", rfl, (B11.mono e1113).mono e14, .l rfl ((A11.mono e1113).mono e14) (by omega), q⟩) ev_c rfl)) (by rw [str_eq]; decide +kernel)) (fun h => nomatch h) (fun _ H14 e14 => ?_)
        have e1114 := e1113.trans e14
        refine s_ifW (nb_go (call_go (ea_go (ea_cons (ev_var rfl) (ea_cons (ev_lenI (er_var rfl (e1114 _ _ ha11))) (ea_cons (ev_var rfl) (ea_two (ev_var rfl) (ev_var rfl))))) fun H15 e15 => ?_)))
        have e1115 := e1114.trans e15
        refine ⟨r2, g2, d2, a2, rs, p, hd, [], n, ds, _, xs.length, rfl, B11.mono e1115, (e14.trans e15) _ _ h13, e1115 _ _ hp11, held11.mono e1115, by omega, fun z hz => (by cases hz), n6, n7, fr e12 n13, n4, fun H16 k16 held16 => ⟨true, rfl, if_no ?_⟩⟩
        have kk := (Kp.of e1115).trans k16
        exact ⟨_, _, _, _, _, _, _, _, rfl, A11.kp kk nrh ngh n1 n2, kk _ _ n3 hu11, kk _ _ n4 hp11, held16⟩
      · have hc' := of_decide_eq_false hc
        refine q_asgL (el_lcAdd (xs := its ds (m % rch ds) (restR ds xs)) (ys := R) (er_var rfl (e12 _ _ la11)) (er_var rfl (e12 _ _ hu11)) (by rw [lL]; omega) (fun _ _ => rfl) (fun x y H6 => by walk_at "cg ev")) fun lb H13 n13 e13 h13 => ?_
        rw [addM_eq I.1 row.1] at h13
        have e1113 := e12.trans e13
        obtain ⟨dx2, ho2⟩ := (B11.mono e1113).ob
        refine q_ifW (op_go (meth_go (ev_var rfl) ho2 rfs_joined fun H14 e14 => ea_go (ea_one (ev_var rfl)) fun H15 e15 => ?_))
        have e1115 := e1113.trans (e14.trans e15)
        refine ⟨r2, g2, d2, a2, ds, _, xs.length, .ref r, rfl, B11.mono e1115, .inr ⟨r, g, da, ra, ds, R, m, rfl, A11.mono e1115, .inr (.inr ⟨rfl, by omega, fun rb H16 nb k16 R16 => ⟨rfl, false, by simp, if_no' ?_⟩⟩)⟩⟩
        have k1116 := (Kp.of e1115).trans k16
        have nlb : lb ≠ r2 := ne_of h13 ho2 (by intro z; cases z)
        have h16 := k16 _ _ nlb ((e14.trans e15) _ _ h13)
        have A16 := A11.kp k1116 nrr.symm ngr ndr nar
        have nar2 : a ≠ r2 := ne_of (e1113 _ _ ha11) ho2 (by intro z; cases z)
        have held16 := (held11.mono e1115).kpO k16 ((e14.trans e15) _ _ ho2)
        refine s_ifW (nb_go (call_go (ea_go (ea_cons (ev_var rfl) (ea_cons (ev_is (ev_i0 (ev_var rfl) (ev_lenI (er_var rfl (k1116 _ _ nar2 ha11)))) (w := .int ((xs.length + m : Nat) : Int)) (congrArg V.int (by omega))) (ea_cons (ev_var rfl) (ea_two (ev_var rfl) (ev_var rfl))))) fun H17 e17 => ?_)))
        refine ⟨r2, g2, d2, rb, lb, p, hd, [], n, ds, _, xs.length + m, rfl, R16.mono e17, e17 _ _ h16, e17 _ _ (k1116 _ _ npr hp11), held16.mono e17, by omega, fun z hz => (by cases hz), n6, fr e1115 nb, fr e12 n13, n4, fun H18 k18 held18 => ⟨true, rfl, if_no ?_⟩⟩
        have kk := (Kp.of e17).trans k18
        exact ⟨_, _, _, _, _, _, _, _, rfl, A16.kp kk nrh ngh n1 n2, kk _ _ n3 (k1116 _ _ nur hu11), kk _ _ n4 (k1116 _ _ npr hp11), held18⟩
    clear A11 B11 hu11 hp11 ha11 la11 held11 hts fr
    rintro σ' H12 ⟨v7, v8, v9, v10, v11, v12, v13, v14, rfl, A12, hu12, hp12, held12⟩
    refine q_ifW (nb_go (call_go (ea_go (ea_cons (ev_var rfl) (ea_cons (ev_var rfl) (ea_cons (ev_var rfl) (ea_two (ev_var rfl) (ev_var rfl))))) fun H13 e13 => ?_)))
    refine ⟨r, g, da, ra, u, p, hd, [], n + 2, ds, R, m, rfl, A12.mono e13, e13 _ _ hu12, e13 _ _ hp12, held12.mono e13, by omega, fun z hz => (by cases hz), n1, n2, n3, n4, fun H14 k14 held14 => ⟨true, rfl, if_no ?_⟩⟩
    have A14 := (A12.mono e13).kp k14 nrh ngh n1 n2
    have hp14 := k14 _ _ n4 (e13 _ _ hp12)
    clear e13 k14 A12 hu12 hp12 held12
    unfold tNext
    dsimp only
    refine q_when (b := decide ((1000000000000000000 : Int) < 2 * (m : Int)) && false) (et_and (et_test (ev_i0 (ev_mod ev_c (ev_var rfl) (.inl ⟨by decide, by decide⟩)) (ev_is (ev_mod ev_c ev_c ⟨by decide, by decide, by decide⟩) (w := .int 1000000000000000000) (congrArg V.int (by decide))))) (fun h => et_is (et_test (ev_neS (ev_call (ea_cons (ev_var rfl) (ea_two (ev_var rfl) ev_c)) fun H15 e15 Q q _ => ⟨r, g, da, ra, ds, R, m, .ref r, false, "l", rfl, A14.mono e15, .l rfl (A14.mono e15) (by have := of_decide_eq_true h; omega), q⟩) ev_c rfl)) (by rw [str_eq]; decide +kernel))) (fun h _ _ => by simp at h) (fun _ H15 e15 => ?_)
    have A15 := A14.mono e15
    obtain ⟨dx15, ho15⟩ := A15.ob
    have held15 := held14.mono e15
    have npr2 : p ≠ r := ne_of (e15 _ _ hp14) ho15 (by intro z; cases z)
    refine q_dropW (meth_go (ev_var rfl) ho15 rfs_anew fun H16 e16 => ?_)
    refine ⟨r, g, da, ra, ds, R, m, rfl, A15.mono e16, fun rb H17 nb k17 R17 => ?_⟩
    have held17 := (held15.mono e16).kpO k17 (e16 _ _ ho15)
    have hp17 := k17 _ _ npr2 (e16 _ _ (e15 _ _ hp14))
    have nbh : rb ≠ hd := fun c => by
      obtain ⟨_, z, _⟩ := held15.mono e16
      rw [c, z] at nb
      cases nb
    refine s_retP (eap_ev (ev_var rfl) (eap_ev ev_c (eap_elF (el_repN (k := ds.length - 1) ev_c (ev_is (v := .int ((ds.length : Int) - 1)) (ev_i0 (ev_lenI (er_var rfl hp17)) ev_c) (congrArg V.int (by omega))) (by omega)) (eap_ev (ev_var rfl) (eap_ev (ev_var rfl) eap_nil))))) ?_
    rintro vs H18 e18 ⟨_, rfl, _, rfl, y, _, rfl, ny, hy, _, rfl, _, rfl, rfl⟩
    have nyh : y ≠ hd := fun c => by
      obtain ⟨_, z, _⟩ := held17
      rw [c, z] at ny
      cases ny
    exact ⟨r, g, da, rb, y, p, hd, [], n + 2 + 2, ds, _, 0, rfl, R17.mono e18, hy, e18 _ _ hp17, held17.mono e18, by omega, fun z hz => (by cases hz), n1, nbh, nyh, n4, fun H19 k19 held19 => q _ H19 held19⟩
def sp__law_far (cs : Cs) : Sp := fun vs H Q _ => ∃ (p a hd : Addr) (ds xs : List Int) (m n : Nat) (c : Int), vs = [.ref p, .int (m : Int), .ref a, .int c, .ref hd] ∧ H p = some (.lst (iv ds)) ∧ IsDiv ds ∧ H a = some (.lst (iv xs)) ∧ Bits xs ∧ xs.length ≤ 1000 ∧ m ≤ 1000000000000000000 ∧
  HeldAt H hd [] n ∧ n < 50000 ∧ p ≠ hd ∧ a ≠ hd ∧ ∀ k H', HeldAt H' hd [] k → Q (.bl true) H'
theorem has__law_far (T : Txt K mg cs) : Has P w K mg base 12 "_law_far" ["_law_divisor", "_law_number", "_law_row", "_law_cell", "_law_held"] (sp__law_far cs) := by
  refine T.d__law_far.ok sc__law_far (fun vs H Q E h => ?_) (fun f cdv A outer s H vs Q E hr h => ?_)
  · obtain ⟨p, a, hd, ds, xs, m, n, c, rfl, _⟩ := h
    rfl
  · obtain ⟨p, a, hd, ds, xs, m, n, c, rfl, hp, D, ha, bx, lx, lm, hh, hn, n1, n2, q⟩ := h
    refine ⟨_, (pss_cons (ps_set (i := 5) sc__law_far.nd rfl (Or.inl rfl) (pe_makeH (has_Register___init__ T) (hr.mono (by decide)) T.c_Register.g passL (pa_cons (pe_makeH (has_Gate___init__ T) (hr.mono (by decide)) T.c_Gate.g passL (pa_cons (pe_callTy (kk_list K) (by rfl) T.z_list b_list (pa_cons (pv 0) pa_nil)) pa_nil)) pa_nil)))
      (pss_cons (ps_set (i := 6) sc__law_far.nd rfl (Or.inl rfl) (pe_callB (kk_max rfl) (by rfl) T.z_max b_max (pa_cons pe_int (pa_cons (pe_callH (has__law_reach_by T) (hr.mono (by decide)) passL (pa_cons (pv 0) pa_nil)) pa_nil))))
      (pss_cons (ps_set (i := 7) sc__law_far.nd rfl (Or.inl rfl) (pe_op op_rep (pe_lst (pa_cons pe_int pa_nil)) (pe_op op_sub (pe_callB (kk_len K) (by rfl) T.z_len b_len (pa_cons (pv 0) pa_nil)) pe_int)))
      (pss_cons (ps_set (i := 8) sc__law_far.nd rfl (Or.inl rfl) pe_int)
      (pss_cons (ps_for (passes_of rfl) rfl (pi_list (pe_callH (has__law_halves T) (hr.mono (by decide)) passL (pa_cons (pv 1) pa_nil))) (pg_name (i := 9) sc__law_far.nd rfl (Or.inl rfl)) (pss_cons (ps_asg (pe_callH (has__law_doubled T) (hr.mono (by decide)) passL (pa_cons (pv 5) (pa_cons (pv 7) (pa_cons (pv 8) (pa_cons (pv 0) (pa_cons (pv 6) pa_nil)))))) (pg_tup rfl (pgs_cons (pg_name (i := 10) sc__law_far.nd rfl (Or.inl rfl)) (pgs_cons (pg_name (i := 7) sc__law_far.nd rfl (Or.inl rfl)) pgs_nil))))
      (pss_cons (ps_set (i := 8) sc__law_far.nd rfl (Or.inl rfl) (pe_op op_mul pe_int (pv 8)))
      (pss_cut (ps_if (pt_cmpR op_eqII (pv 9) pe_int (nomark _)) (pss_cons (ps_expr (pe_methH (pv 5) T.c_Register.cl (has_Register_put T) (hr.mono (by decide)) passL (pa_cons (pe_op op_sub pe_int (pe_op op_fdiv (pe_op op_mod (pv 8) pe_int) pe_int)) pa_nil)))
      (pss_cons (ps_set (i := 7) sc__law_far.nd rfl (Or.inl rfl) (pe_callH (has__law_step_by T) (hr.mono (by decide)) passL (pa_cons (pv 7) (pa_cons (pe_op op_sub pe_int (pe_op op_fdiv (pe_op op_mod (pv 8) pe_int) pe_int)) (pa_cons (pv 0) pa_nil)))))
      (pss_one (ps_set (i := 8) sc__law_far.nd rfl (Or.inl rfl) (pe_op op_add (pv 8) pe_int))))) pss_nil)
      (pss_one (ps_if (pt_not (pt_val (pv 10))) (pss_one (ps_ret pe_bl)) pss_nil))))))
      (pss_cons (ps_if (pt_not (pt_val (pe_callH (has__law_stands T) (hr.mono (by decide)) passL (pa_cons (pv 5) (pa_cons (pv 8) (pa_cons (pv 7) (pa_cons (pv 0) (pa_cons (pv 4) pa_nil)))))))) (pss_one (ps_ret pe_bl)) pss_nil)
      (pss_one (ps_ret (pe_callH (has__law_far_ends T) (hr.mono (by decide)) passL (pa_cons (pv 5) (pa_cons (pv 7) (pa_cons (pv 8) (pa_cons (pv 0) (pa_cons (pv 2) (pa_cons (pv 3) (pa_cons (pv 4) pa_nil)))))))))))))))), ?_⟩
    have two := D.two
    have top := D.top
    have it := rch_top D
    have ip := (rch_is D).1.pos
    refine q_asgW (reg_makeG (eg_make D (er_L (el_listR (er_var rfl hp)))) fun r g da ra H1 nr _ nd na e1 R1 => ?_)
    refine q_asg (ev_is (ev_max2 ev_c (ev_call (ea_one (ev_var rfl)) fun H2 e2 Q q _ => ⟨p, ds, rfl, (e1.trans e2) _ _ hp, D, q⟩)) (w := .int ((rch ds : Nat) : Int)) (congrArg V.int (by split <;> omega))) fun H2 e2 => ?_
    refine q_asgL (xs := iv (zer ds)) (el_repN ev_c (ev_is (v := .int ((ds.length : Int) - 1)) (w := .int ((ds.length - 1 : Nat) : Int)) (ev_i0 (ev_lenI (er_var rfl ((e1.trans e2) _ _ hp))) ev_c) (congrArg V.int (by omega))) (by omega)) fun u H3 n3 e3 h3 => ?_
    refine q_asg ev_c fun H4 e4 => ?_
    have e04 := ((e1.trans e2).trans e3).trans e4
    have R4 := ((R1.mono e2).mono e3).mono e4
    have nu := fresh_back (e1.trans e2) n3
    have h4 := e4 _ _ h3
    clear e1 e2 e3 e4 R1 n3 h3
    refine q_forF ?_
    refine call_go (ea_go (ea_one (ev_var rfl)) fun H5 e5 => ⟨m, rfl, fun l H6 n6 e6 h6 => ⟨l, rfl, ⟨_, sq_of h6⟩, ?_⟩⟩)
    have nlr : l ≠ r := (ne_of_none ((R4.mono e5).ob.choose_spec) n6).symm
    have m0 : m / 2 ^ 60 = 0 := Nat.div_eq_of_lt (by omega)
    refine floop (fun i σ' H' => Ex H H' ∧ H' l = some (.lst (iv (dg m 60))) ∧ ∃ (g da ra u : Addr) (R : List Int) (v9 v10 : Option V), σ' = [some (.ref p), some (.int (m : Int)), some (.ref a), some (.int c), some (.ref hd), some (.ref r), some (.int ((rch ds : Nat) : Int)), some (.ref u), some (.int ((m / 2 ^ (60 - i) : Nat) : Int)), v9, v10] ∧ H da = none ∧ H ra = none ∧ H u = none ∧ H' u = some (.lst (iv R)) ∧ RegAt cs H' r g da ra ds R ((m / 2 ^ (60 - i) : Nat) : Int)) ⟨(e04.trans e5).trans e6, h6, g, da, ra, u, zer ds, none, none, by rw [Nat.sub_zero, m0]; rfl, nd, na, nu, e6 _ _ (e5 _ _ h4), by rw [Nat.sub_zero, m0]; exact (R4.mono e5).mono e6⟩ (fun i σ' H' _ h => sq_of h.2.1) ?_ ?_
    · rintro i x σ' H' hx ⟨e, hl, g, da, ra, u, R, v9, v10, rfl, nd, na, nu, hu, RA⟩
      obtain ⟨n, hn, rfl⟩ := iv_at hx
      have hi : i < 60 := by
        have := (List.getElem?_eq_some_iff.mp hn).1
        rw [dg_len] at this
        exact this
      rw [dg_at m 60 i hi] at hn
      have hn := (Option.some.inj hn).symm
      subst hn
      have half : m / 2 ^ (60 - i) = m / 2 ^ (60 - 1 - i) / 2 := by
        rw [show 60 - i = (60 - 1 - i) + 1 by omega, Nat.pow_succ, ← Nat.div_div_eq_div_mul]
      have am : m / 2 ^ (60 - 1 - i) ≤ m := Nat.div_le_self _ _
      rw [show 60 - (i + 1) = 60 - 1 - i by omega]
      rw [half] at RA ⊢
      generalize m / 2 ^ (60 - 1 - i) = b at am RA ⊢
      have row := RA.row
      refine q_asgG (call_go (ea_go (ea_cons (ev_var rfl) (ea_cons (ev_var rfl) (ea_cons (ev_var rfl) (ea_two (ev_var rfl) (ev_var rfl))))) fun H7 e7 => ⟨r, g, da, ra, u, p, ds, R, b / 2, rfl, RA.mono e7, e7 _ _ hu, (e.trans e7) _ _ hp, by omega, fun t q2 rb H8 nq nb k8 R8 ht hq => ?_⟩))
      refine tup2_go (st_of ht) ?_
      have kk : Kp r H' H8 := (Kp.of e7).trans k8
      have e8 : Ex H H8 := kk.ex nr e
      have hl8 := kk _ _ nlr hl
      have hnr : H' r ≠ none := RA.pres
      have nq' := fresh_back e (fresh_back e7 nq)
      have nb' := fresh_back e (fresh_back e7 nb)
      have n8r : H8 r ≠ none := R8.pres
      clear k8 kk e7 hnr nq nb hu nu na
      refine q_asg (ev_mod ev_c (ev_var rfl) (.inl ⟨by decide, by decide⟩)) fun H9 e9 => ?_
      have s01 : (1 : Int) - (2 * ((b / 2 : Nat) : Int)) % 3 / 2 = 0 ∨ (1 : Int) - (2 * ((b / 2 : Nat) : Int)) % 3 / 2 = 1 := by omega
      have R9 := R8.mono e9
      have q9 := e9 _ _ hq
      have l9 := e9 _ _ hl8
      have e09 := e8.trans e9
      clear e8 e9 R8 hq hl8 ht e n8r
      have rowN : RowOf (ds.length - 1) (xorR (its ds (b / 2 % rch ds) R) R) := xor_row (its_row D row _) row
      generalize xorR (its ds (b / 2 % rch ds) R) R = W at R9 q9 rowN
      refine q_cut (M := fun σ' H' => Ex H H' ∧ H' l = some (.lst (iv (dg m 60))) ∧ ∃ (ra u : Addr) (R : List Int) (v9 : Option V), σ' = [some (.ref p), some (.int (m : Int)), some (.ref a), some (.int c), some (.ref hd), some (.ref r), some (.int ((rch ds : Nat) : Int)), some (.ref u), some (.int ((b : Nat) : Int)), v9, some (.bl true)] ∧ H ra = none ∧ H u = none ∧ H' u = some (.lst (iv R)) ∧ RegAt cs H' r g da ra ds R ((b : Nat) : Int)) ?_ ?_
      · refine s_when (et_test (ev_i0 (ev_var rfl) ev_c)) (fun hc H10 e10 => ?_) (fun hc H10 e10 => ⟨e09.trans e10, e10 _ _ l9, rb, q2, W, some (.int ((b % 2 : Nat) : Int)), ?_, nb', nq', e10 _ _ q9, (R9.mono e10).isMany (by have := of_decide_eq_false hc; omega)⟩)
        · have hc' := of_decide_eq_true hc
          have R10 := R9.mono e10
          obtain ⟨dx10, ho10⟩ := R10.ob
          have sv : ∀ {G : Hp}, Ev (tOp (rI0 fun i j => V.int (i - j)) (tC (V.int 1)) (tOp (rI CDiv fun i j => V.int (i / j)) (tOp (rI (fun x j => 0 < j) fun i j => V.int (i % j)) (tVar 8) (tC (V.int 3))) (tC (V.int 2)))) ([some (.ref p), some (.int (m : Int)), some (.ref a), some (.int c), some (.ref hd), some (.ref r), some (.int ((rch ds : Nat) : Int)), some (.ref q2), some (.int (2 * ((b / 2 : Nat) : Int))), some (.int ((b % 2 : Nat) : Int)), some (.bl true)]) G (.int ((1 : Int) - (2 * ((b / 2 : Nat) : Int)) % 3 / 2)) := fun {G} => ev_i0 ev_c (ev_mod (ev_mod (ev_var rfl) ev_c (by walk_at "cg ar")) ev_c (by walk_at "cg ar"))
          generalize (1 : Int) - (2 * ((b / 2 : Nat) : Int)) % 3 / 2 = sg at s01 sv
          refine q_dropW (meth_go (ev_var rfl) ho10 rfs_put fun H11 e11 => ea_go (ea_one sv) fun H12 e12 => ?_)
          have e1012 := e11.trans e12
          refine ⟨r, g, da, rb, ds, W, _, _, rfl, R10.mono e1012, .inl ⟨sg, rfl, s01, fun rb2 H13 nb2 k13 R13 => ?_⟩⟩
          have e0912 := e10.trans e1012
          have kk := (Kp.of e0912).trans k13
          have e13 := kk.ex nr e09
          have nqr : q2 ≠ r := by
            obtain ⟨d9, o9⟩ := R9.ob
            exact ne_of q9 o9 (by intro z; cases z)
          have q13 := kk _ _ nqr q9
          have l13 := kk _ _ nlr l9
          refine q_asgC (ea_cons (ev_var rfl) (ea_two sv (ev_var rfl))) fun H14 e14 => ⟨q2, p, W, ds, sg, rfl, e14 _ _ q13, (e13.trans e14) _ _ hp, rowN.1, D.bits, s01, by rw [rowN.2]; omega, fun u2 H15 n15 e15 h15 => ?_⟩
          refine s_asg (ev_is (ev_i0 (ev_var rfl) ev_c) (w := .int ((b : Nat) : Int)) (congrArg V.int (by omega))) fun H16 e16 => ⟨((e13.trans e14).trans e15).trans e16, e16 _ _ (e15 _ _ (e14 _ _ l13)), rb2, u2, stepR ds W sg, _, rfl, fresh_back (e09.trans e0912) nb2, fresh_back (e13.trans e14) n15, e16 _ _ h15, (((R13.mono e14).mono e15).mono e16).isMany (by omega)⟩
        · have hc' := of_decide_eq_false hc
          have z : 2 * ((b / 2 : Nat) : Int) = (b : Int) := by omega
          rw [z]
          rfl
      clear e09 l9 q9 R9 nb' nq' rowN
      rintro σ' H10 ⟨e10, l10, ra2, u2, R2, v9, rfl, nra, nu2, hu2, RB⟩
      exact s_when (b := false) (et_is (et_not (et_B (ev_var rfl))) rfl) (fun h => nomatch h) (fun _ H11 e11 => ⟨e10.trans e11, e11 _ _ l10, g, da, ra2, u2, R2, _, _, rfl, nd, nra, nu2, e11 _ _ hu2, RB.mono e11⟩)
    · rintro σ' H' ⟨e, hl, g, da, ra, u, R, v9, v10, rfl, nd, na, nu, hu, RA⟩
      rw [iv_len, dg_len, Nat.sub_self, Nat.pow_zero, Nat.div_one] at RA ⊢
      have neh : ∀ {z : Addr}, H z = none → z ≠ hd := fun {z} h e => by
        obtain ⟨_, hx, _⟩ := hh
        rw [e, hx] at h
        cases h
      have held := hh.mono e
      obtain ⟨ts, hts, _⟩ := id held
      obtain ⟨dx, ho⟩ := RA.ob
      obtain ⟨dxg, hog⟩ := RA.G.ob
      have nrh : r ≠ hd := ne_of ho hts (by intro z; cases z)
      have ngh : g ≠ hd := ne_of hog hts (by intro z; cases z)
      dsimp only
      refine q_ifW (nb_go (call_go (ea_go (ea_cons (ev_var rfl) (ea_cons (ev_var rfl) (ea_cons (ev_var rfl) (ea_two (ev_var rfl) (ev_var rfl))))) fun H7 e7 => ?_)))
      refine ⟨r, g, da, ra, u, p, hd, [], n, ds, R, m, rfl, RA.mono e7, e7 _ _ hu, (e.trans e7) _ _ hp, held.mono e7, by omega, fun z hz => (by cases hz), neh nd, neh na, neh nu, n1, fun H8 k8 held8 => ⟨true, rfl, if_no ?_⟩⟩
      have kk := (Kp.of e7).trans k8
      have R8 := (RA.mono e7).kp k8 nrh ngh (neh nd) (neh na)
      exact s_retC (ea_cons (ev_var rfl) (ea_cons (ev_var rfl) (ea_cons (ev_var rfl) (ea_cons (ev_var rfl) (ea_cons (ev_var rfl) (ea_two (ev_var rfl) (ev_var rfl))))))) fun H9 e9 => ⟨r, g, da, ra, u, p, a, hd, ds, R, xs, m, n + 2, c, rfl, R8.mono e9, e9 _ _ (kk _ _ (neh nu) hu), e9 _ _ (kk _ _ n1 (e _ _ hp)), e9 _ _ (kk _ _ n2 (e _ _ ha)), bx, lx, lm, held8.mono e9, by omega, neh nd, neh na, neh nu, n1, n2, q⟩
theorem el_slS {K : PySem.W.Frag} {σ : L2.St} {H : Hp} {te : TE} {xs : List V} {a : Addr} {tl th : TO} {lo hi : Option Int} (h : Ev te σ H (.ref a)) (hs : SqL K H a xs) (h1 : EvO tl σ H lo) (h2 : EvO th σ H hi) : EvL (tSl (rSlL K) te tl th) σ H (cutV xs lo hi) := fun H1 e _ q =>
  h H1 e _ fun H2 e2 => h1 H2 (e.trans e2) _ fun H3 e3 => h2 H3 ((e.trans e2).trans e3) _ fun H4 e4 =>
    ⟨a, xs, rfl, ex_l (e.trans ((e2.trans e3).trans e4)) hs, fun p hp => q p _ (fresh_back ((e2.trans e3).trans e4) hp) (((e2.trans e3).trans e4).trans (Ex.new hp)) upd_same⟩
theorem ev_callP {σ : L2.St} {H : Hp} {sp : Sp} {dvs : List V} {E : XK} {targs : TA} {v : V} {P : List V → Hp → Prop} (h : EvAP targs σ H P) (k : ∀ vs H1, Ex H H1 → P vs H1 → ∀ Q : VK, RetV v H1 Q → sp (vs ++ dvs) H1 Q E) : Ev (tCall sp dvs E targs) σ H v := fun H1 e Q q =>
  h H1 e _ fun vs H2 e2 p => k vs H2 (e.trans e2) p Q fun H3 e3 => q H3 (e2.trans e3)
theorem rest_snoc (ds ts : List Int) (s : Int) : restR ds (ts ++ [s]) = stepR ds (restR ds ts) s := by
  rw [restR_run, restR_run]
  exact runR_snoc _ _ _ _
theorem rest_join {ds ts rows : List Int} (D : IsDiv ds) (bt : Bits ts) (br : Bits rows) : xorR (its ds (rows.length % rch ds) (restR ds ts)) (restR ds rows) = restR ds (ts ++ rows) := by
  rw [restR_append, run_from D (rest_row D bt) br, its_mod D (rest_row D bt)]
theorem non_is : decide (V.non = V.non) = true := decide_eq_true rfl
theorem notm' {K : PySem.W.Frag} : ∀ v H1 H2, Ex H1 H2 → (fun v G => NotSign K G v) v H1 → (fun v G => NotSign K G v) v H2 := fun _ _ _ e h => NotSign.mono h e
theorem flatN {K : PySem.W.Frag} {σ : L2.St} {H : Hp} {te : TE} {x : V} {s : String} (h : Ev te σ H x) (ht : tyName x = some s) (hk : kitB s "int" = some false) : EvP te σ H (fun v G => NotSign K G v) := ep_of h fun H1 e1 => .inr (.inr ⟨s, hk, fun H2 e2 => tyx_flat ht⟩)
theorem badSigns {K : PySem.W.Frag} {σ : L2.St} {H : Hp} : AllB (fun v G => NotSign K G v) (tCons (tC (.int 2)) (tCons (tUn (rU fun i => V.int (-i)) (tC (.int 1))) (tCons (tC (.bl true)) (tCons (tC (.bl false)) (tCons (tC .non) (tCons (tC (.str ("1" : Str))) (tCons (tLst (tCons (tC (.int 1)) tNil)) tNil))))))) σ H 7 :=
  allb_cons notm' (ep_of ev_c fun _ _ => .inl ⟨2, rfl, by decide, by decide⟩) (allb_cons notm' (ep_of (ev_un ev_c ru_neg) fun _ _ => .inl ⟨-1, rfl, by decide, by decide⟩) (allb_cons notm' (ep_of ev_c fun _ _ => .inr (.inl ⟨_, rfl⟩)) (allb_cons notm' (ep_of ev_c fun _ _ => .inr (.inl ⟨_, rfl⟩)) (allb_cons notm' (flatN ev_c rfl kit_NoneType_int) (allb_cons notm' (flatN ev_c rfl kit_str_int) (allb_cons notm' (fun H3 e3 Q q => el_oneI ev_c H3 e3 _ fun p H4 n4 e4 h4 => q _ H4 e4 (.inr (.inr ⟨"list", kit_list_int, fun H5 e5 => .base (.lst (e5 _ _ h4))⟩))) allb_nil))))))
def sp__law_deeds (K : PySem.W.Frag) (cs : Cs) : Sp := fun vs H Q _ => ∃ (a p hd : Addr) (ns ds : List Int), vs = [.ref a, .ref p, .ref hd] ∧ SqL K (but hd H) a (iv ns) ∧ ns.length ≤ 63 ∧ H p = some (.lst (iv ds)) ∧ IsDiv ds ∧ H hd = some (.lst []) ∧ p ≠ hd ∧
  ∀ t xs k H', Kp hd H H' → H t = none → H' t = some (.lst (iv xs)) → Bits xs → xs.length ≤ 1000 → HeldAt H' hd [] k → k < 1000 → Q (.ref t) H'
theorem has__law_deeds (T : Txt K mg cs) : Has P w K mg base 12 "_law_deeds" ["_law_script", "_law_divisor", "_law_held"] (sp__law_deeds K cs) := by
  refine T.d__law_deeds.ok sc__law_deeds (fun vs H Q E h => ?_) (fun f cdv A outer s H vs Q E hr h => ?_)
  · obtain ⟨a, p, hd, ns, ds, rfl, _⟩ := h
    rfl
  · obtain ⟨a, p, hd, ns, ds, rfl, hS, ln, hp, D, hh, n1, q⟩ := h
    refine ⟨_, (pss_cons (ps_set (i := 3) sc__law_deeds.nd rfl (Or.inl rfl) (pe_makeH (has_Gate___init__ T) (hr.mono (by decide)) T.c_Gate.g passL (pa_cons (pe_callTy (kk_list K) (by rfl) T.z_list b_list (pa_cons (pv 1) pa_nil)) pa_nil)))
      (pss_cons (ps_set (i := 4) sc__law_deeds.nd rfl (Or.inl rfl) (pe_makeH (has_Register___init__ T) (hr.mono (by decide)) T.c_Register.g passL (pa_cons (pv 3) pa_nil)))
      (pss_cons (ps_set (i := 5) sc__law_deeds.nd rfl (Or.inl rfl) (pe_makeH (has_Register___init__ T) (hr.mono (by decide)) T.c_Register.g passL (pa_cons (pe_ix (kk_ixl K) (pe_lst (pa_cons (pv 3) (pa_cons (pe_makeH (has_Gate___init__ T) (hr.mono (by decide)) T.c_Gate.g passL (pa_cons (pe_callTy (kk_list K) (by rfl) T.z_list b_list (pa_cons (pv 1) pa_nil)) pa_nil)) pa_nil))) (pe_op op_mod (pe_op op_fdiv (pe_callH (has__law_cell_at T) (hr.mono (by decide)) passL (pa_cons (pv 0) (pa_cons pe_int pa_nil))) pe_int) pe_int) (fun _ _ => rfl)) pa_nil)))
      (pss_cons (ps_set (i := 6) sc__law_deeds.nd rfl (Or.inl rfl) (pe_lst pa_nil))
      (pss_cons (ps_set (i := 7) sc__law_deeds.nd rfl (Or.inl rfl) (pe_lst pa_nil))
      (pss_cons (ps_set (i := 8) sc__law_deeds.nd rfl (Or.inl rfl) (pe_op op_rep (pe_lst (pa_cons pe_int pa_nil)) (pe_op op_sub (pe_callB (kk_len K) (by rfl) T.z_len b_len (pa_cons (pv 1) pa_nil)) pe_int)))
      (pss_cons (ps_for (passes_of rfl) rfl (pi_list (pe_slice (kk_sl K) (pv 0) (po_some pe_int) po_none)) (pg_name (i := 9) sc__law_deeds.nd rfl (Or.inl rfl)) (pss_cons (ps_set (i := 10) sc__law_deeds.nd rfl (Or.inl rfl) (pe_op op_mod (pv 9) pe_int))
      (pss_cons (ps_set (i := 11) sc__law_deeds.nd rfl (Or.inl rfl) (pe_op op_mod (pe_op op_fdiv (pv 9) pe_int) pe_int))
      (pss_cons (ps_set (i := 12) sc__law_deeds.nd rfl (Or.inl rfl) pe_bl)
      (pss_cut (ps_if (pt_cmpR op_lt (pv 10) pe_int (nomark _)) (pss_cons (ps_set (i := 12) sc__law_deeds.nd rfl (Or.inl rfl) (pe_cmpR op_isN (pe_methH (pv 4) T.c_Register.cl (has_Register_put T) (hr.mono (by decide)) passL (pa_cons (pv 11) pa_nil)) pe_non (nomark _)))
      (pss_cons (ps_set (i := 8) sc__law_deeds.nd rfl (Or.inl rfl) (pe_callH (has__law_step_by T) (hr.mono (by decide)) passL (pa_cons (pv 8) (pa_cons (pv 11) (pa_cons (pv 1) pa_nil)))))
      (pss_one (ps_expr (pe_bm PySem.F.plainAttrs_list PySem.F.slot_list_append PySem.F.type_list_append mt_append (pv 6) (pa_cons (pv 11) pa_nil)))))) (pss_one (ps_if (pt_cmpR op_lt (pv 10) pe_int (nomark _)) (pss_cons (ps_set (i := 12) sc__law_deeds.nd rfl (Or.inl rfl) (pe_cmpR op_isN (pe_methH (pv 5) T.c_Register.cl (has_Register_put T) (hr.mono (by decide)) passL (pa_cons (pv 11) pa_nil)) pe_non (nomark _)))
      (pss_one (ps_expr (pe_bm PySem.F.plainAttrs_list PySem.F.slot_list_append PySem.F.type_list_append mt_append (pv 7) (pa_cons (pv 11) pa_nil))))) (pss_one (ps_if (pt_cmpR op_eqII (pv 10) pe_int (nomark _)) (pss_one (ps_set (i := 12) sc__law_deeds.nd rfl (Or.inl rfl) (pe_cmpR op_eq (pe_callH (has__law_refused T) (hr.mono (by decide)) passL (pa_cons (pv 4) (pa_cons (pe_ix (kk_ixl K) (pe_lst (pa_cons pe_int (pa_cons (pe_un un_neg pe_int) (pa_cons pe_bl (pa_cons pe_bl (pa_cons pe_non (pa_cons pe_str (pa_cons (pe_lst (pa_cons pe_int pa_nil)) pa_nil)))))))) (pe_op op_mod (pe_op op_fdiv (pv 9) pe_int) pe_int) (fun _ _ => rfl)) (pa_cons pe_bl pa_nil)))) pe_str (nomark _)))) (pss_one (ps_if (PW.pt (pw_and (pt_cmpR op_eqII (pv 10) pe_int (nomark _)) (pw_and1 (pt_cmpR op_eqII (pe_op op_mod (pe_op op_fdiv (pv 9) pe_int) pe_int) pe_int (nomark _))))) (pss_cons (ps_set (i := 12) sc__law_deeds.nd rfl (Or.inl rfl) (pe_cmpR op_isN (pe_methH0 (pv 4) T.c_Register.cl (has_Register_anew T) (hr.mono (by decide)) passL) pe_non (nomark _)))
      (pss_cons (ps_set (i := 8) sc__law_deeds.nd rfl (Or.inl rfl) (pe_op op_rep (pe_lst (pa_cons pe_int pa_nil)) (pe_op op_sub (pe_callB (kk_len K) (by rfl) T.z_len b_len (pa_cons (pv 1) pa_nil)) pe_int)))
      (pss_one (ps_set (i := 6) sc__law_deeds.nd rfl (Or.inl rfl) (pe_lst pa_nil))))) (pss_one (ps_if (pt_cmpR op_eqII (pv 10) pe_int (nomark _)) (pss_one (ps_set (i := 12) sc__law_deeds.nd rfl (Or.inl rfl) (pe_cmpR op_eq (pe_callH (has__law_refused T) (hr.mono (by decide)) passL (pa_cons (pv 4) (pa_cons (pe_callH (has__law_stranger T) (hr.mono (by decide)) passL (pa_cons (pe_op op_fdiv (pv 9) pe_int) (pa_cons (pv 1) pa_nil))) (pa_cons pe_bl pa_nil)))) pe_str (nomark _)))) (pss_one (ps_if (pt_cmpR op_lt (pe_callB (kk_len K) (by rfl) T.z_len b_len (pa_cons (pv 6) pa_nil)) pe_int (nomark _)) (pss_cons (ps_set (i := 12) sc__law_deeds.nd rfl (Or.inl rfl) (pe_cmpR op_isN (pe_methH (pv 4) T.c_Register.cl (has_Register_joined T) (hr.mono (by decide)) passL (pa_cons (pe_ix (kk_ixl K) (pe_lst (pa_cons (pv 5) (pa_cons (pv 4) pa_nil))) (pe_op op_sub (pv 10) pe_int) (fun _ _ => rfl)) pa_nil)) pe_non (nomark _)))
      (pss_cons (ps_set (i := 8) sc__law_deeds.nd rfl (Or.inl rfl) (pe_callH (has__law_went T) (hr.mono (by decide)) passL (pa_cons (pv 8) (pa_cons (pe_ix (kk_ixl K) (pe_lst (pa_cons (pv 7) (pa_cons (pv 6) pa_nil))) (pe_op op_sub (pv 10) pe_int) (fun _ _ => rfl)) (pa_cons (pv 1) pa_nil)))))
      (pss_one (ps_set (i := 6) sc__law_deeds.nd rfl (Or.inl rfl) (pe_op op_cat (pv 6) (pe_ix (kk_ixl K) (pe_lst (pa_cons (pv 7) (pa_cons (pv 6) pa_nil))) (pe_op op_sub (pv 10) pe_int) (fun _ _ => rfl))))))) pss_nil)))))))))))
      (pss_one (ps_if (PW.pt (pw_or (pt_not (pt_val (pv 12))) (pw_or1 (pt_not (pt_val (pe_callH (has__law_stands T) (hr.mono (by decide)) passL (pa_cons (pv 4) (pa_cons (pe_callB (kk_len K) (by rfl) T.z_len b_len (pa_cons (pv 6) pa_nil)) (pa_cons (pv 8) (pa_cons (pv 1) (pa_cons (pv 2) pa_nil))))))))))) (pss_one (ps_ret pe_non)) pss_nil)))))))
      (pss_cons (ps_if (pt_not (pt_val (pe_callH (has__law_stands T) (hr.mono (by decide)) passL (pa_cons (pv 5) (pa_cons (pe_callB (kk_len K) (by rfl) T.z_len b_len (pa_cons (pv 7) pa_nil)) (pa_cons (pe_callH (has__law_rest_by T) (hr.mono (by decide)) passL (pa_cons (pv 7) (pa_cons (pv 1) pa_nil))) (pa_cons (pv 1) (pa_cons (pv 2) pa_nil)))))))) (pss_one (ps_ret pe_non)) pss_nil)
      (pss_one (ps_ret (pe_slice (kk_sl K) (pv 6) po_none (po_some pe_int)))))))))))), ?_⟩
    have two := D.two
    have top := D.top
    have it := rch_top D
    have hpB : but hd H p = some (.lst (iv ds)) := but_at n1 hp
    have eB0 : Ex (but hd H) H := (Kp.refl hd H).but
    have noB : ∀ {z : Addr}, H z = none → but hd H z = none := fun {z} h => by
      unfold but
      split
      · rfl
      · exact h
    have nh : ∀ {z : Addr}, H z = none → z ≠ hd := fun {z} h e => by
      rw [e, hh] at h
      cases h
    refine q_asgW (eg_make D (er_L (el_listR (er_var rfl hp))) H (.refl H) _ fun g0 d0 H1 _ _ e1 G0 => ?_)
    refine q_asgW (reg_make (ev_var rfl) G0 fun r1 g1 d1 a1 H2 nr1 ng1 nd1 na1 e2 A2 => ?_)
    have e02 := e1.trans e2
    have gm : ∀ v H1 H2, Ex H1 H2 → (fun v G => ∃ g da, v = V.ref g ∧ GateAt cs G g da ds) v H1 → (fun v G => ∃ g da, v = V.ref g ∧ GateAt cs G g da ds) v H2 := fun _ _ _ e h => by
      obtain ⟨g, da, hv, G⟩ := h
      exact ⟨g, da, hv, G.mono e⟩
    refine q_asgW (reg_makeP (ds := ds) (ep_any (n := 2) gm (allb_cons gm (ep_of (ev_var rfl) fun H3 e3 => ⟨g0, d0, rfl, (G0.mono e2).mono e3⟩) (allb_cons gm (fun H3 e3 Q q => eg_make D (er_L (el_listR (er_var rfl ((e02.trans e3) _ _ hp)))) H3 (.refl H3) _ fun g da H4 _ _ e4 G => q _ H4 e4 ⟨g, da, rfl, G⟩) allb_nil)) (ev_mod (ev_mod (ev_cell (ev_var rfl) ev_c (ex_l (eB0.trans e02) hS) (by decide)) ev_c (by walk_at "cg ar")) ev_c (by walk_at "cg ar")) (by omega) (by omega) (by decide)) fun r2 g2 d2 a2 H3 nr2 ng2 nd2 na2 e3 A3 => ?_)
    have e03 := e02.trans e3
    refine q_asgL el_nilI fun t1 H4 nt1 e4 ht1 => ?_
    refine q_asgL el_nilI fun t2 H5 nt2 e5 ht2 => ?_
    refine q_asgL (xs := iv (zer ds)) (el_repN ev_c (ev_is (v := .int ((ds.length : Int) - 1)) (w := .int ((ds.length - 1 : Nat) : Int)) (ev_i0 (ev_lenI (er_var rfl (((e03.trans e4).trans e5) _ _ hp))) ev_c) (congrArg V.int (by omega))) (by omega)) fun u H6 nu e6 hu => ?_
    have e05 := (e03.trans e4).trans e5
    have e06 := e05.trans e6
    refine q_forF ?_
    refine el_go (el_slS (ev_var rfl) (ex_l (eB0.trans e06) hS) (eo_some ev_c) eo_none) fun l H7 nl e7 hl => ⟨l, rfl, ⟨_, sq_of hl⟩, ?_⟩
    rw [cutV_iv] at hl
    have lc : ((ns.drop (HT.sIx ns.length 0 (some 4))).take (HT.sIx ns.length ns.length none - HT.sIx ns.length 0 (some 4))).length ≤ 63 := by
      rw [List.length_take, List.length_drop]
      omega
    generalize ((ns.drop (HT.sIx ns.length 0 (some 4))).take (HT.sIx ns.length ns.length none - HT.sIx ns.length 0 (some 4))) = cells at hl lc
    have A3' := A2.mono e3
    have p1 : H3 r1 ≠ none := A3'.pres
    have p2 : H3 r2 ≠ none := A3.pres
    have nr12 : r1 ≠ r2 := (ne_of_none (A2.ob.choose_spec) nr2)
    have nt12 : t1 ≠ t2 := ne_of_none ht1 nt2
    have x1 : d1 ≠ t1 := ne_of_none A3'.G.dv nt1
    have x2 : d1 ≠ t2 := ne_of_none (A3'.mono e4).G.dv nt2
    have x3 : a1 ≠ t1 := ne_of_none A3'.rv nt1
    have x4 : a1 ≠ t2 := ne_of_none (A3'.mono e4).rv nt2
    have y1 : d2 ≠ t1 := ne_of_none A3.G.dv nt1
    have y2 : d2 ≠ t2 := ne_of_none (A3.mono e4).G.dv nt2
    have y3 : a2 ≠ t1 := ne_of_none A3.rv nt1
    have y4 : a2 ≠ t2 := ne_of_none (A3.mono e4).rv nt2
    have e37 := ((e4.trans e5).trans e6).trans e7
    have h07 := e06.trans e7
    have W0 : Two cs (but hd H) H7 hd r1 r2 t1 t2 u l ds (restR ds []) ([] : List Int).length (restR ds []) ([] : List Int).length (restR ds []) [] [] cells 0 :=
      { eB := eB0.trans h07, hl := hl, h1 := ⟨g1, d1, a1, A3'.mono e37, ⟨nh (fresh_back e1 nd1), x1, x2⟩, nh (fresh_back e1 na1), x3, x4⟩, h2 := ⟨g2, d2, a2, A3.mono e37, ⟨nh (fresh_back e02 nd2), y1, y2⟩, nh (fresh_back e02 na2), y3, y4⟩,
        hu := e7 _ _ hu, ht1 := e7 _ _ (e6 _ _ (e5 _ _ ht1)), ht2 := e7 _ _ (e6 _ _ ht2), held := ((HeldAt.nil (L := []) hh).mono e03 |>.more nt1 |>.mono e4 |>.more nt2 |>.sub (L' := [t1, t2]) (fun z hz => by simp at hz ⊢; exact hz.symm)).mono ((e5.trans e6).trans e7),
        nr := nr12, nt := nt12, n1 := nh (fresh_back e03 nt1), n2 := nh (fresh_back (e03.trans e4) nt2), nl := ⟨nh (fresh_back e06 nl), (ne_of_none (e6 _ _ (e5 _ _ ht1)) nl).symm, (ne_of_none (e6 _ _ ht2) nl).symm⟩, nu := ⟨nh (fresh_back e05 nu), (ne_of_none (e5 _ _ ht1) nu).symm, (ne_of_none ht2 nu).symm⟩,
        b := but_same, b1 := noB (fresh_back e1 nr1), b2 := noB (fresh_back e02 nr2), c1 := noB (fresh_back e03 nt1), c2 := noB (fresh_back (e03.trans e4) nt2) }
    clear A2 A3 A3' p1 p2 nr12 nt12 x1 x2 x3 x4 y1 y2 y3 y4 e37 h07 hl nl hu nu ht1 ht2 nt1 nt2 e1 e2 e3 e4 e5 e6 e7 e02 e03 e05 e06 G0 gm nr1 ng1 nd1 na1 nr2 ng2 nd2 na2
    refine floop (fun i σ' H' => ∃ (t1 u : Addr) (ts ms : List Int) (n : Nat) (v9 v10 v11 v12 : Option V), σ' = [some (.ref a), some (.ref p), some (.ref hd), some (.ref g0), some (.ref r1), some (.ref r2), some (.ref t1), some (.ref t2), some (.ref u), v9, v10, v11, v12] ∧ Two cs (but hd H) H' hd r1 r2 t1 t2 u l ds (restR ds ts) ts.length (restR ds ms) ms.length (restR ds ts) ts ms cells n ∧ Bits ts ∧ Bits ms ∧ ts.length ≤ 320 + i ∧ ms.length ≤ i ∧ n ≤ 2 * i) ⟨t1, u, [], [], 0, none, none, none, none, rfl, W0, .nil, .nil, by decide, by decide, by decide⟩ (fun i σ' H' _ h => by
      obtain ⟨_, _, _, _, _, _, _, _, _, _, W, _⟩ := h
      exact sq_of W.hl) ?_ ?_
    · rintro i x σ' H' hx ⟨t1, u, ts, ms, n, v9, v10, v11, v12, rfl, W, bt, bm, lt, lm, lnn⟩
      obtain ⟨c, hc, rfl⟩ := iv_at hx
      have hi : i < 63 := by
        have := (List.getElem?_eq_some_iff.mp hc).1
        omega
      refine q_asg (ev_mod (ev_var rfl) ev_c (by walk_at "cg ar")) fun H1 e1 => ?_
      refine q_asg (ev_mod (ev_mod (ev_var rfl) ev_c (by walk_at "cg ar")) ev_c (by walk_at "cg ar")) fun H2 e2 => ?_
      refine q_asg ev_c fun H3 e3 => ?_
      have W3 := ((W.mono e1).mono e2).mono e3
      clear W e1 e2 e3 hx hc
      have s01 : c / 12 % 2 = 0 ∨ c / 12 % 2 = 1 := by omega
      generalize c / 12 % 2 = sg at s01 ⊢
      obtain ⟨de, hde, d0, d12⟩ : ∃ de, c % 12 = de ∧ 0 ≤ de ∧ de < 12 := ⟨_, rfl, by omega, by omega⟩
      rw [hde]
      refine q_cut (M := fun σ' H' => ∃ (t1 u : Addr) (ts ms : List Int) (v9 v10 v11 : Option V), σ' = [some (.ref a), some (.ref p), some (.ref hd), some (.ref g0), some (.ref r1), some (.ref r2), some (.ref t1), some (.ref t2), some (.ref u), v9, v10, v11, some (.bl true)] ∧ Two cs (but hd H) H' hd r1 r2 t1 t2 u l ds (restR ds ts) ts.length (restR ds ms) ms.length (restR ds ts) ts ms cells n ∧ Bits ts ∧ Bits ms ∧ ts.length ≤ 320 + (i + 1) ∧ ms.length ≤ i + 1) ?_ ?_
      · refine s_if (et_test (ev_i0 (ev_var rfl) ev_c)) (fun h5 H4 e4 => ?_) (fun h5 H4 e4 => ?_)
        · have W4 := W3.mono e4
          obtain ⟨g1, d1, a1, A1, sd1, sa1⟩ := W4.h1
          obtain ⟨dx1, ho1⟩ := A1.ob
          refine q_asgW (op_go (meth_go (ev_var rfl) ho1 rfs_put fun H5 e5 => ea_go (ea_one (ev_var rfl)) fun H6 e6 => ?_))
          have e56 := e5.trans e6
          refine ⟨r1, g1, d1, a1, ds, _, _, _, rfl, A1.mono e56, .inl ⟨sg, rfl, s01, fun rb H7 nb k7 R7 => ⟨rfl, ?_⟩⟩⟩
          rw [non_is]
          have W7 := (W4.mono e56).reg1 k7 (A1.mono e56) sd1 nb (R7.isMany (m' := ((ts.length + 1 : Nat) : Int)) (by omega))
          refine q_asgC (ea_cons (ev_var rfl) (ea_two (ev_var rfl) (ev_var rfl))) fun H8 e8 => ⟨u, p, restR ds ts, ds, sg, rfl, (W7.mono e8).hu, (W7.mono e8).eB _ _ hpB, (rest_row D bt).1, D.bits, s01, by rw [(rest_row D bt).2]; omega, fun u2 H9 n9 e9 h9 => ?_⟩
          have W9 := (W7.mono e8).due e9 h9 n9
          refine s_appK W9.ht1 (ev_var rfl) (ev_var rfl) (by omega) fun H10 k10 h10 => ?_
          have W10 := W9.app1 k10 h10
          refine ⟨t1, u2, ts ++ [sg], ms, _, _, _, rfl, ?_, bt.append (.one s01), bm, by rw [List.length_append, List.length_singleton]; omega, by omega⟩
          rw [rest_snoc, List.length_append]
          exact W10
        refine s_if (et_test (ev_i0 (ev_var rfl) ev_c)) (fun h8 H5 e5 => ?_) (fun h8 H5 e5 => ?_)
        · have W4 := (W3.mono e4).mono e5
          obtain ⟨g2, d2, a2, A2, sd2, sa2⟩ := W4.h2
          obtain ⟨dx2, ho2⟩ := A2.ob
          refine q_asgW (op_go (meth_go (ev_var rfl) ho2 rfs_put fun H5 e5 => ea_go (ea_one (ev_var rfl)) fun H6 e6 => ?_))
          have e56 := e5.trans e6
          refine ⟨r2, g2, d2, a2, ds, _, _, _, rfl, A2.mono e56, .inl ⟨sg, rfl, s01, fun rb H7 nb k7 R7 => ⟨rfl, ?_⟩⟩⟩
          rw [non_is]
          have W7 := (W4.mono e56).reg2 k7 (A2.mono e56) sd2 nb (R7.isMany (m' := ((ms.length + 1 : Nat) : Int)) (by omega))
          refine s_appK W7.ht2 (ev_var rfl) (ev_var rfl) (by omega) fun H10 k10 h10 => ?_
          have W10 := W7.app2 k10 h10
          refine ⟨t1, u, ts, ms ++ [sg], _, _, _, rfl, ?_, bt, bm.append (.one s01), by omega, by rw [List.length_append, List.length_singleton]; omega⟩
          rw [rest_snoc, List.length_append]
          exact W10
        refine s_if (et_test (ev_i0 (ev_var rfl) ev_c)) (fun hq H6 e6 => ?_) (fun hq8 H6 e6 => ?_)
        · have W4 := ((W3.mono e4).mono e5).mono e6
          obtain ⟨g1, d1, a1, A1, sd1, sa1⟩ := W4.h1
          refine s_asg (ev_is (ev_eqS (ev_callP (v := .str ((("s" : Str) ++ ("v" : Str)) ++ (("s" : Str) ++ ("v" : Str)))) (eap_ev (ev_var rfl) (eap_p (ep_any (n := 7) (notm' (K := K)) (badSigns (K := K)) (ev_mod (ev_mod (ev_var rfl) ev_c (by walk_at "cg ar")) ev_c (by walk_at "cg ar")) (by omega) (by omega) (by decide)) (notm' (K := K)) (eap_ev ev_c eap_nil))) fun vs H7 e7 hv Q q => ?_) ev_c rfl) (w := .bl true) (congrArg V.bl (by rw [str_eq]; decide +kernel))) fun H7 e7 => ⟨t1, u, ts, ms, _, _, _, rfl, W4.mono e7, bt, bm, by omega, by omega⟩
          obtain ⟨_, rfl, v, _, rfl, nv, _, rfl, rfl⟩ := hv
          exact ⟨r1, g1, d1, a1, ds, _, _, v, true, "s", rfl, A1.mono e7, .s nv, q⟩
        refine s_if (et_and (et_test (ev_i0 (ev_var rfl) ev_c)) (fun _ => et_test (ev_i0 (ev_mod (ev_mod (ev_var rfl) ev_c (by walk_at "cg ar")) ev_c (by walk_at "cg ar")) ev_c))) (fun hq H7 e7 => ?_) (fun hq H7 e7 => ?_)
        · have W4 := (((W3.mono e4).mono e5).mono e6).mono e7
          obtain ⟨g1, d1, a1, A1, sd1, sa1⟩ := W4.h1
          obtain ⟨dx1, ho1⟩ := A1.ob
          refine q_asgW (op_go (meth_go (ev_var rfl) ho1 rfs_anew fun H8 e8 => ?_))
          refine ⟨r1, g1, d1, a1, ds, _, _, rfl, A1.mono e8, fun rb H9 nb k9 R9 => ⟨rfl, ?_⟩⟩
          rw [non_is]
          have W9 := (W4.mono e8).reg1 k9 (A1.mono e8) sd1 nb (R9.isMany (m' := ((0 : Nat) : Int)) rfl)
          refine q_asgL (xs := iv (zer ds)) (el_repN ev_c (ev_is (v := .int ((ds.length : Int) - 1)) (w := .int ((ds.length - 1 : Nat) : Int)) (ev_i0 (ev_lenI (er_var rfl (W9.eB _ _ hpB))) ev_c) (congrArg V.int (by omega))) (by omega)) fun u2 H10 n10 e10 h10 => ?_
          have W10 := W9.due e10 h10 n10
          exact s_asgL el_nilI fun t3 H11 n11 e11 h11 => ⟨t3, u2, [], ms, _, _, _, rfl, W10.new1 e11 n11 h11, .nil, bm, Nat.zero_le _, by omega⟩
        refine s_if (et_test (ev_i0 (ev_var rfl) ev_c)) (fun hq H8 e8 => ?_) (fun hq9 H8 e8 => ?_)
        · have W4 := ((((W3.mono e4).mono e5).mono e6).mono e7).mono e8
          obtain ⟨g1, d1, a1, A1, sd1, sa1⟩ := W4.h1
          have mono : ∀ v H1 H2, Ex H1 H2 → (fun v G => NoMateOf K cs ds G v) v H1 → (fun v G => NoMateOf K cs ds G v) v H2 := fun _ _ _ e h => NoMateOf.mono h e
          have strP : EvP (tCall (sp__law_stranger K cs) [] E0 (tCons (tOp (rI CDiv fun i j => V.int (i / j)) (tVar 9) (tC (.int 36))) (tCons (tVar 1) tNil))) ([some (.ref a), some (.ref p), some (.ref hd), some (.ref g0), some (.ref r1), some (.ref r2), some (.ref t1), some (.ref t2), some (.ref u), some (.int c), some (.int de), some (.int sg), some (.bl true)]) H8 (fun v G => NoMateOf K cs ds G v) := fun H9 e9 Q q => (ea_two (ev_mod (ev_var rfl) ev_c (by walk_at "cg ar")) (ev_var rfl)) H9 e9 _ fun H10 e10 => ⟨_, p, ds, rfl, (W4.eB.trans (e9.trans e10)) _ _ hpB, D, fun v H11 e11 nm => q v H11 (e10.trans e11) nm⟩
          refine s_asg (ev_is (ev_eqS (ev_callP (v := .str ((("m" : Str) ++ ("v" : Str)) ++ (("m" : Str) ++ ("v" : Str)))) (eap_ev (ev_var rfl) (eap_p strP mono (eap_ev ev_c eap_nil))) fun vs H9 e9 hv Q q => ?_) ev_c rfl) (w := .bl true) (congrArg V.bl (by rw [str_eq]; decide +kernel))) fun H9 e9 => ⟨t1, u, ts, ms, _, _, _, rfl, W4.mono e9, bt, bm, by omega, by omega⟩
          obtain ⟨_, rfl, v, _, rfl, nv, _, rfl, rfl⟩ := hv
          exact ⟨r1, g1, d1, a1, ds, _, _, v, false, "m", rfl, A1.mono e9, .m nv, q⟩
        have W8 := ((((W3.mono e4).mono e5).mono e6).mono e7).mono e8
        have big : de = 10 ∨ de = 11 := by
          have z1 := of_decide_eq_false h5
          have z2 := of_decide_eq_false h8
          have z3 := of_decide_eq_false hq9
          have z4 := of_decide_eq_false hq8
          omega
        clear W3 e4 e5 e6 e7 e8
        refine s_when (et_test (ev_i0 (ev_lenI (er_var rfl W8.ht1)) ev_c)) (fun hl H9 e9 => ?_) (fun _ H9 e9 => ⟨t1, u, ts, ms, _, _, _, rfl, W8.mono e9, bt, bm, by omega, by omega⟩)
        have hl' := of_decide_eq_true hl
        have W9 := W8.mono e9
        obtain ⟨g1, d1, a1, A1, sd1, sa1⟩ := W9.h1
        obtain ⟨dx1, ho1⟩ := A1.ob
        rcases big with rfl | rfl
        · skip
          obtain ⟨gx, dx_, ax, X4, sdx, sax⟩ := W9.h2
          refine q_asgW (op_go (meth_go (ev_var rfl) ho1 rfs_joined fun H5 e5 => ea_go (ea_one (ev_ixR (xs := [.ref r2, .ref r1]) (er_L (el_lst (ea_two (ev_var rfl) (ev_var rfl)) (by show 2 ≤ 100000; decide))) (ev_i0 (ev_var rfl) ev_c) (atI_nat (j := 0) rfl))) fun H6 e6 => ?_))
          have e56 := e5.trans e6
          refine ⟨r1, g1, d1, a1, ds, _, ts.length, .ref r2, rfl, A1.mono e56, .inr ⟨r2, gx, dx_, ax, ds, _, ms.length, rfl, X4.mono e56, .inr (.inr ⟨rfl, by omega, fun rb H7 nb k7 R7 => ⟨rfl, ?_⟩⟩)⟩⟩
          rw [non_is]
          rw [rest_join D bt bm] at R7
          have W7 := (W9.mono e56).reg1 k7 (A1.mono e56) sd1 nb R7
          refine q_asgC (ea_cons (ev_var rfl) (ea_two (ev_ixR (xs := [.ref t2, .ref t1]) (er_L (el_lst (ea_two (ev_var rfl) (ev_var rfl)) (by show 2 ≤ 100000; decide))) (ev_i0 (ev_var rfl) ev_c) (atI_nat (j := 0) rfl)) (ev_var rfl))) fun H8 e8 => ?_
          have W8 := W7.mono e8
          refine ⟨u, t2, p, _, ms, ds, rfl, W8.hu, W8.ht2, W8.eB _ _ hpB, D, rest_row D bt, bm, fun u2 H9 e9 h9 nu2 => ?_⟩
          rw [← restR_append] at h9
          have W9' : Two cs (but hd H) H9 hd r1 r2 t1 t2 u2 l ds (restR ds (ts ++ ms)) (ts.length + ms.length) (restR ds ms) ms.length (restR ds (ts ++ ms)) ts ms cells n := by
            rcases nu2 with rfl | nu2
            · exact { W8.mono e9 with hu := h9 }
            · exact W8.due e9 h9 nu2
          refine s_asgL (xs := iv (ts ++ ms)) (el_catI (er_var rfl W9'.ht1) (er_ev (ev_ixR (xs := [.ref t2, .ref t1]) (er_L (el_lst (ea_two (ev_var rfl) (ev_var rfl)) (by show 2 ≤ 100000; decide))) (ev_i0 (ev_var rfl) ev_c) (atI_nat (j := 0) rfl)) W9'.ht2) (by omega)) fun t3 H10 n10 e10 h10 => ?_
          have W10 := W9'.new1 e10 n10 h10
          rw [← List.length_append] at W10
          exact ⟨t3, u2, ts ++ ms, ms, _, _, _, rfl, W10, bt.append bm, bm, by rw [List.length_append]; omega, by omega⟩
        · skip
          obtain ⟨gx, dx_, ax, X4, sdx, sax⟩ := W9.h1
          refine q_asgW (op_go (meth_go (ev_var rfl) ho1 rfs_joined fun H5 e5 => ea_go (ea_one (ev_ixR (xs := [.ref r2, .ref r1]) (er_L (el_lst (ea_two (ev_var rfl) (ev_var rfl)) (by show 2 ≤ 100000; decide))) (ev_i0 (ev_var rfl) ev_c) (atI_nat (j := 1) rfl))) fun H6 e6 => ?_))
          have e56 := e5.trans e6
          refine ⟨r1, g1, d1, a1, ds, _, ts.length, .ref r1, rfl, A1.mono e56, .inr ⟨r1, gx, dx_, ax, ds, _, ts.length, rfl, X4.mono e56, .inr (.inr ⟨rfl, by omega, fun rb H7 nb k7 R7 => ⟨rfl, ?_⟩⟩)⟩⟩
          rw [non_is]
          rw [rest_join D bt bt] at R7
          have W7 := (W9.mono e56).reg1 k7 (A1.mono e56) sd1 nb R7
          refine q_asgC (ea_cons (ev_var rfl) (ea_two (ev_ixR (xs := [.ref t2, .ref t1]) (er_L (el_lst (ea_two (ev_var rfl) (ev_var rfl)) (by show 2 ≤ 100000; decide))) (ev_i0 (ev_var rfl) ev_c) (atI_nat (j := 1) rfl)) (ev_var rfl))) fun H8 e8 => ?_
          have W8 := W7.mono e8
          refine ⟨u, t1, p, _, ts, ds, rfl, W8.hu, W8.ht1, W8.eB _ _ hpB, D, rest_row D bt, bt, fun u2 H9 e9 h9 nu2 => ?_⟩
          rw [← restR_append] at h9
          have W9' : Two cs (but hd H) H9 hd r1 r2 t1 t2 u2 l ds (restR ds (ts ++ ts)) (ts.length + ts.length) (restR ds ms) ms.length (restR ds (ts ++ ts)) ts ms cells n := by
            rcases nu2 with rfl | nu2
            · exact { W8.mono e9 with hu := h9 }
            · exact W8.due e9 h9 nu2
          refine s_asgL (xs := iv (ts ++ ts)) (el_catI (er_var rfl W9'.ht1) (er_ev (ev_ixR (xs := [.ref t2, .ref t1]) (er_L (el_lst (ea_two (ev_var rfl) (ev_var rfl)) (by show 2 ≤ 100000; decide))) (ev_i0 (ev_var rfl) ev_c) (atI_nat (j := 1) rfl)) W9'.ht1) (by omega)) fun t3 H10 n10 e10 h10 => ?_
          have W10 := W9'.new1 e10 n10 h10
          rw [← List.length_append] at W10
          exact ⟨t3, u2, ts ++ ts, ms, _, _, _, rfl, W10, bt.append bt, bm, by rw [List.length_append]; omega, by omega⟩
      rintro σ' H4 ⟨t1, u, ts, ms, v9, v10, v11, rfl, W, bt, bm, lt, lm⟩
      obtain ⟨g1, d1, a1, A1, sd1, sa1⟩ := W.h1
      refine s_ifW (or_go (nb_go ⟨_, rfl, true, rfl, if_no ?_⟩))
      refine nb_go (call_go (ea_go (ea_cons (ev_var rfl) (ea_cons (ev_lenI (er_var rfl W.ht1)) (ea_cons (ev_var rfl) (ea_two (ev_var rfl) (ev_var rfl))))) fun H5 e5 => ?_))
      have W5 := W.mono e5
      refine ⟨r1, g1, d1, a1, u, p, hd, [t1, t2], n, ds, _, ts.length, rfl, A1.mono e5, W5.hu, W5.eB _ _ hpB, W5.held, by omega, fun z hz => ?_, sd1.1, sa1.1, W5.nu.1, n1, fun H6 k6 held6 => ⟨true, rfl, if_no ?_⟩⟩
      · rcases List.mem_cons.mp hz with rfl | hz
        · rw [W5.ht1]
          intro e
          cases e
        · rw [List.mem_singleton.mp hz, W5.ht2]
          intro e
          cases e
      · exact ⟨t1, u, ts, ms, n + 2, _, _, _, _, rfl, W5.hold k6 held6, bt, bm, lt, lm, by omega⟩
    · rintro σ' H' ⟨t1, u, ts, ms, n, v9, v10, v11, v12, rfl, W, bt, bm, lt, lm, lnn⟩
      rw [iv_len] at lnn lt lm
      obtain ⟨g2, d2, a2, A2, sd2, sa2⟩ := W.h2
      dsimp only
      refine q_ifW (nb_go (call_go (ap_go (eap_ev (ev_var rfl) (eap_ev (ev_lenI (er_var rfl W.ht2)) (eap_elF (el_call (xs := iv (restR ds ms)) (ea_two (ev_var rfl) (ev_var rfl)) fun H5 e5 Q q _ => ⟨t2, p, ms, ds, rfl, e5 _ _ W.ht2, (W.eB.trans e5) _ _ hpB, bm, D.bits, by omega, by omega, q⟩) (eap_ev (ev_var rfl) (eap_ev (ev_var rfl) eap_nil))))) ?_)))
      rintro vs H5 e5 ⟨_, rfl, _, rfl, y, _, rfl, ny, hy, _, rfl, _, rfl, rfl⟩
      have W5 := W.mono e5
      refine ⟨r2, g2, d2, a2, y, p, hd, [t1, t2], n, ds, _, ms.length, rfl, A2.mono e5, hy, W5.eB _ _ hpB, W5.held, by omega, fun z hz => ?_, sd2.1, sa2.1, (W.fr ny).1, n1, fun H6 k6 held6 => ⟨true, rfl, if_no ?_⟩⟩
      · rcases List.mem_cons.mp hz with rfl | hz
        · rw [W5.ht1]
          intro e
          cases e
        · rw [List.mem_singleton.mp hz, W5.ht2]
          intro e
          cases e
      · have W6 := W5.hold k6 held6
        refine s_retL (xs := iv (ts.take 60)) (el_is (el_slToI (n := 60) (er_var rfl W6.ht1) ev_c (by decide)) rfl) fun t H7 n7 e7 h7 => ?_
        have W7 := W6.mono e7
        have nth : t ≠ hd := (W6.fr n7).1
        have bt0 := fresh_back W6.eB n7
        rw [but_ne nth] at bt0
        exact q t (ts.take 60) (n + 2) H7 (but_kp W7.eB) bt0 h7 (bt.take _) (by rw [List.length_take]; omega) (W7.held.sub (fun z hz => by cases hz)) (by omega)
def sp_law (K : PySem.W.Frag) : Sp := fun vs H Q _ => ∃ (a : Addr) (ns : List Int), vs = [.ref a] ∧ SqL K H a (iv ns) ∧ ns.length ≤ 63 ∧ ∀ H', Q (.bl true) H'
theorem ok_law {f : Addr} {fd : FuncData} (F : Fun K "law" "law" s_law f fd) (T : Txt K mg cs) : FnOk P w K mg base (L2.CX P w) 13 f fd ["_law_script"] (sp_law K) := by
  refine F.okX sc_law (fun vs H Q E h => ?_) (fun cdv A outer s H vs Q E hr h => ?_)
  · obtain ⟨a, ns, rfl, _⟩ := h
    rfl
  · obtain ⟨a, ns, rfl, hS, hlen, q⟩ := h
    refine ⟨_, (pss_cons (ps_set (i := 1) sc_law.nd rfl (Or.inl rfl) (pe_callH (has__law_divisor_by T) (hr.mono (by decide)) passL (pa_cons (pe_callH (has__law_cell_at T) (hr.mono (by decide)) passL (pa_cons (pv 0) (pa_cons pe_int pa_nil))) (pa_cons (pe_callH (has__law_cell_at T) (hr.mono (by decide)) passL (pa_cons (pv 0) (pa_cons pe_int pa_nil))) pa_nil))))
      (pss_cons (ps_set (i := 2) sc_law.nd rfl (Or.inl rfl) (pe_lst pa_nil))
      (pss_cons (ps_set (i := 3) sc_law.nd rfl (Or.inl rfl) (pe_callH (has__law_deeds T) (hr.mono (by decide)) passL (pa_cons (pv 0) (pa_cons (pv 1) (pa_cons (pv 2) pa_nil)))))
      (pss_cons (ps_if (pt_cmpR op_isN (pv 3) pe_non (nomark _)) (pss_one (ps_ret pe_bl)) pss_nil)
      (pss_cons (ps_set (i := 4) sc_law.nd rfl (Or.inl rfl) (pe_callH (has__law_divisor_by T) (hr.mono (by decide)) passL (pa_cons (pe_op op_mod (pe_callH (has__law_cell_at T) (hr.mono (by decide)) passL (pa_cons (pv 0) (pa_cons pe_int pa_nil))) pe_int) (pa_cons (pe_op op_fdiv (pe_callH (has__law_cell_at T) (hr.mono (by decide)) passL (pa_cons (pv 0) (pa_cons pe_int pa_nil))) pe_int) pa_nil))))
      (pss_cons (ps_set (i := 5) sc_law.nd rfl (Or.inl rfl) (pe_op op_mod (pe_callH (has__law_cell_at T) (hr.mono (by decide)) passL (pa_cons (pv 0) (pa_cons pe_int pa_nil))) (pe_op op_add (pe_op op_pow pe_int pe_int) pe_int)))
      (pss_cut (ps_if (pt_cmpR op_eqII (pe_op op_mod (pe_op op_fdiv (pe_callH (has__law_cell_at T) (hr.mono (by decide)) passL (pa_cons (pv 0) (pa_cons pe_int pa_nil))) pe_int) pe_int) pe_int (nomark _)) (pss_one (ps_set (i := 5) sc_law.nd rfl (Or.inl rfl) (pe_op op_pow pe_int pe_int))) pss_nil)
      (pss_cut (ps_if (pt_cmpR op_eqII (pe_op op_mod (pe_callH (has__law_cell_at T) (hr.mono (by decide)) passL (pa_cons (pv 0) (pa_cons pe_int pa_nil))) pe_int) pe_int (nomark _)) (pss_cons (ps_set (i := 4) sc_law.nd rfl (Or.inl rfl) (pe_callH (has__law_divisor_by T) (hr.mono (by decide)) passL (pa_cons (pe_op op_add pe_int (pe_op op_mod (pe_op op_fdiv (pe_callH (has__law_cell_at T) (hr.mono (by decide)) passL (pa_cons (pv 0) (pa_cons pe_int pa_nil))) pe_int) pe_int)) (pa_cons (pe_callH (has__law_cell_at T) (hr.mono (by decide)) passL (pa_cons (pv 0) (pa_cons pe_int pa_nil))) pa_nil))))
      (pss_one (ps_set (i := 5) sc_law.nd rfl (Or.inl rfl) (pe_op op_mod (pe_op op_add (pe_op op_mul (pe_op op_fdiv (pe_callH (has__law_cell_at T) (hr.mono (by decide)) passL (pa_cons (pv 0) (pa_cons pe_int pa_nil))) pe_int) pe_int) pe_int) pe_int)))) pss_nil)
      (pss_cut (ps_if (pt_cmpR op_eqII (pe_op op_mod (pe_callH (has__law_cell_at T) (hr.mono (by decide)) passL (pa_cons (pv 0) (pa_cons pe_int pa_nil))) pe_int) pe_int (nomark _)) (pss_cons (ps_set (i := 4) sc_law.nd rfl (Or.inl rfl) (pe_callH (has__law_divisor_by T) (hr.mono (by decide)) passL (pa_cons (pe_ix (kk_ixl K) (pe_lst (pa_cons pe_int (pa_cons pe_int (pa_cons pe_int (pa_cons pe_int pa_nil))))) (pe_op op_mod (pe_op op_fdiv (pe_callH (has__law_cell_at T) (hr.mono (by decide)) passL (pa_cons (pv 0) (pa_cons pe_int pa_nil))) pe_int) pe_int) (fun _ _ => rfl)) (pa_cons (pe_callH (has__law_cell_at T) (hr.mono (by decide)) passL (pa_cons (pv 0) (pa_cons pe_int pa_nil))) pa_nil))))
      (pss_one (ps_set (i := 5) sc_law.nd rfl (Or.inl rfl) (pe_op op_mod (pe_op op_add (pe_op op_mul (pe_op op_fdiv (pe_callH (has__law_cell_at T) (hr.mono (by decide)) passL (pa_cons (pv 0) (pa_cons pe_int pa_nil))) pe_int) pe_int) pe_int) pe_int)))) pss_nil)
      (pss_cons (ps_set (i := 3) sc_law.nd rfl (Or.inl rfl) (pe_slice (kk_sl K) (pv 3) po_none (po_some (pe_op op_mod (pe_op op_fdiv (pe_callH (has__law_cell_at T) (hr.mono (by decide)) passL (pa_cons (pv 0) (pa_cons pe_int pa_nil))) pe_int) pe_int))))
      (pss_one (ps_ret (pe_and (pe_callH (has__law_far T) (hr.mono (by decide)) passL (pa_cons (pv 4) (pa_cons (pv 5) (pa_cons (pv 3) (pa_cons (pe_callH (has__law_cell_at T) (hr.mono (by decide)) passL (pa_cons (pv 0) (pa_cons pe_int pa_nil))) (pa_cons (pv 2) pa_nil)))))) (pe_one (pe_callH (has__law_kept T) (hr.mono (by decide)) passL (pa_cons (pv 2) pa_nil)))))))))))))))), ?_⟩
    refine q_asgC (ea_two (ev_cell (ev_var rfl) ev_c hS (by decide)) (ev_cell (ev_var rfl) ev_c hS (by decide))) fun H1 e1 => ⟨_, _, rfl, fun ds D p H2 n2 e2 h2 => ?_⟩
    refine q_asgL el_nilI fun hd H3 n3 e3 h3 => ?_
    have e02 := e1.trans e2
    refine q_asgC (ea_cons (ev_var rfl) (ea_two (ev_var rfl) (ev_var rfl))) fun H4 e4 => ⟨a, p, hd, ns, ds, rfl, ?_, hlen, e4 _ _ (e3 _ _ h2), D, e4 _ _ h3, ne_of_none h2 n3, fun t xs k H5 k5 nt ht bx lx held lk => ?_⟩
    · have eb : Ex H2 (but hd H4) := fun z o h => but_at (ne_of_none h n3) ((e3.trans e4) _ _ h)
      exact ex_l (e02.trans eb) hS
    have eB : Ex H2 H5 := k5.ex n3 (e3.trans e4)
    have nth : t ≠ hd := (ne_of_none (e4 _ _ h3) nt).symm
    have hS5 := ex_l (e02.trans eB) hS
    have hdp : ∀ {G : Hp} {z : Addr}, Ex H5 G → G z = none → z ≠ hd := fun {G z} e h c => by
      obtain ⟨_, x, _⟩ := held
      rw [c, e _ _ x] at h
      cases h
    clear e1 e2 e3 e4 e02 eB k5 nt n2 n3 h2 h3 hS
    refine q_when (b := false) (et_is (et_test (ev_isN (ev_var rfl))) (by simp)) (fun h => nomatch h) (fun _ H6 e6 => ?_)
    refine q_asgC (ea_two (ev_mod (ev_cell (ev_var rfl) ev_c (ex_l e6 hS5) (by decide)) ev_c (by walk_at "cg ar")) (ev_mod (ev_cell (ev_var rfl) ev_c (ex_l e6 hS5) (by decide)) ev_c (by walk_at "cg ar"))) fun H7 e7 => ⟨_, _, rfl, fun sm SD ps H8 n8 e8 h8 => ?_⟩
    have nps := hdp (e6.trans e7) n8
    have e58 := (e6.trans e7).trans e8
    have ten : ∀ {σ : L2.St} {G : Hp}, Ev (tOp (rI CPow fun i j => V.int (i ^ j.toNat)) (tC (.int 10)) (tC (.int 18))) σ G (.int 1000000000000000000) := fun {σ G} => ev_is (ev_mod ev_c ev_c ⟨by decide, by decide, by decide⟩) (congrArg V.int (by decide))
    refine q_asg (ev_mod (ev_cell (ev_var rfl) ev_c (ex_l e58 hS5) (by decide)) (ev_is (ev_i0 ten ev_c) (w := .int 1000000000000000001) (congrArg V.int (by decide))) (by show (0 : Int) < _; decide)) fun H9 e9 => ?_
    have z0 : 0 ≤ cellV ns 3 % 1000000000000000001 ∧ cellV ns 3 % 1000000000000000001 ≤ 1000000000000000000 := by omega
    have e59 := e58.trans e9
    have h9 := e9 _ _ h8
    refine q_cut (M := fun σ' H' => ∃ (ps : Addr) (sm : List Int) (m : Nat), σ' = [some (.ref a), some (.ref p), some (.ref hd), some (.ref t), some (.ref ps), some (.int (m : Int))] ∧ IsDiv sm ∧ H' ps = some (.lst (iv sm)) ∧ ps ≠ hd ∧ m ≤ 1000000000000000000 ∧ Ex H5 H') ?_ ?_
    · refine s_when (et_test (ev_i0 (ev_mod (ev_mod (ev_cell (ev_var rfl) ev_c (ex_l e59 hS5) (by decide)) ev_c (by walk_at "cg ar")) ev_c (by walk_at "cg ar")) ev_c)) (fun _ H10 e10 => ?_) (fun _ H10 e10 => ⟨ps, sm, (cellV ns 3 % 1000000000000000001).toNat, by rw [Int.toNat_of_nonneg z0.1]; rfl, SD, e10 _ _ h9, nps, by omega, e59.trans e10⟩)
      exact s_asg ten fun H11 e11 => ⟨ps, sm, 1000000000000000000, rfl, SD, e11 _ _ (e10 _ _ h9), nps, Nat.le_refl _, (e59.trans e10).trans e11⟩
    clear e6 e7 e8 e9 n8 h8 h9 e58 e59 z0 SD nps
    rintro σ' H10 ⟨ps, sm, m, rfl, SD, h10, nps, lm, e10⟩
    refine q_cut (M := fun σ' H' => ∃ (ps : Addr) (sm : List Int) (m : Nat), σ' = [some (.ref a), some (.ref p), some (.ref hd), some (.ref t), some (.ref ps), some (.int (m : Int))] ∧ IsDiv sm ∧ H' ps = some (.lst (iv sm)) ∧ ps ≠ hd ∧ m ≤ 1000000000000000000 ∧ Ex H5 H') ?_ ?_
    · refine s_when (et_test (ev_i0 (ev_mod (ev_cell (ev_var rfl) ev_c (ex_l e10 hS5) (by decide)) ev_c (by walk_at "cg ar")) ev_c)) (fun _ H11 e11 => ?_) (fun _ H11 e11 => ⟨ps, sm, m, rfl, SD, e11 _ _ h10, nps, lm, e10.trans e11⟩)
      have hS11 := ex_l (e10.trans e11) hS5
      refine q_asgC (ea_two (ev_i0 ev_c (ev_mod (ev_mod (ev_cell (ev_var rfl) ev_c hS11 (by decide)) ev_c (by walk_at "cg ar")) ev_c (by walk_at "cg ar"))) (ev_cell (ev_var rfl) ev_c hS11 (by decide))) fun H12 e12 => ⟨_, _, rfl, fun sm2 SD2 ps2 H13 n13 e13 h13 => ?_⟩
      have z1 : 0 ≤ (cellV ns 3 / 16 * 48271 + 300) % 4096 ∧ (cellV ns 3 / 16 * 48271 + 300) % 4096 ≤ 4096 := by omega
      exact s_asg (ev_mod (ev_i0 (ev_mod (ev_mod (ev_cell (ev_var rfl) ev_c (ex_l (e12.trans e13) hS11) (by decide)) ev_c (by walk_at "cg ar")) ev_c (by walk_at "cg ar")) ev_c) ev_c (by walk_at "cg ar")) fun H14 e14 => ⟨ps2, sm2, ((cellV ns 3 / 16 * 48271 + 300) % 4096).toNat, by rw [Int.toNat_of_nonneg z1.1]; rfl, SD2, e14 _ _ h13, hdp ((e10.trans e11).trans e12) n13, by omega, (((e10.trans e11).trans e12).trans e13).trans e14⟩
    clear e10 h10 SD nps lm
    rintro σ' H10 ⟨ps, sm, m, rfl, SD, h10, nps, lm, e10⟩
    refine q_cut (M := fun σ' H' => ∃ (ps : Addr) (sm : List Int) (m : Nat), σ' = [some (.ref a), some (.ref p), some (.ref hd), some (.ref t), some (.ref ps), some (.int (m : Int))] ∧ IsDiv sm ∧ H' ps = some (.lst (iv sm)) ∧ ps ≠ hd ∧ m ≤ 1000000000000000000 ∧ Ex H5 H') ?_ ?_
    · refine s_when (et_test (ev_i0 (ev_mod (ev_cell (ev_var rfl) ev_c (ex_l e10 hS5) (by decide)) ev_c (by walk_at "cg ar")) ev_c)) (fun _ H11 e11 => ?_) (fun _ H11 e11 => ⟨ps, sm, m, rfl, SD, e11 _ _ h10, nps, lm, e10.trans e11⟩)
      have hS11 := ex_l (e10.trans e11) hS5
      obtain ⟨pk, hpk⟩ : ∃ v : Int, atI [8, 136, 16, 528] (cellV ns 3 / 64 % 4) = some v := by
        rcases (show cellV ns 3 / 64 % 4 = 0 ∨ cellV ns 3 / 64 % 4 = 1 ∨ cellV ns 3 / 64 % 4 = 2 ∨ cellV ns 3 / 64 % 4 = 3 by omega) with h | h | h | h <;> rw [h] <;> exact ⟨_, rfl⟩
      refine q_asgC (ea_two (ev_ixI (xs := [8, 136, 16, 528]) (er_L (el_lst (vs := iv [8, 136, 16, 528]) (ea_cons ev_c (ea_cons ev_c (ea_two ev_c ev_c))) (by show 4 ≤ 100000; decide))) (ev_mod (ev_mod (ev_cell (ev_var rfl) ev_c hS11 (by decide)) ev_c (by walk_at "cg ar")) ev_c (by walk_at "cg ar")) hpk) (ev_cell (ev_var rfl) ev_c hS11 (by decide))) fun H12 e12 => ⟨_, _, rfl, fun sm2 SD2 ps2 H13 n13 e13 h13 => ?_⟩
      have z1 : 0 ≤ (cellV ns 3 / 256 * 48271 + 3000) % 4096 ∧ (cellV ns 3 / 256 * 48271 + 3000) % 4096 ≤ 4096 := by omega
      exact s_asg (ev_mod (ev_i0 (ev_mod (ev_mod (ev_cell (ev_var rfl) ev_c (ex_l (e12.trans e13) hS11) (by decide)) ev_c (by walk_at "cg ar")) ev_c (by walk_at "cg ar")) ev_c) ev_c (by walk_at "cg ar")) fun H14 e14 => ⟨ps2, sm2, ((cellV ns 3 / 256 * 48271 + 3000) % 4096).toNat, by rw [Int.toNat_of_nonneg z1.1]; rfl, SD2, e14 _ _ h13, hdp ((e10.trans e11).trans e12) n13, by omega, (((e10.trans e11).trans e12).trans e13).trans e14⟩
    clear e10 h10 SD nps lm
    rintro σ' H10 ⟨ps, sm, m, rfl, SD, h10, nps, lm, e10⟩
    refine q_asgL (el_slToI (n := cellV ns 2 / 18 % 61) (er_var rfl (e10 _ _ ht)) (ev_mod (ev_mod (ev_cell (ev_var rfl) ev_c (ex_l e10 hS5) (by decide)) ev_c (by walk_at "cg ar")) ev_c (by walk_at "cg ar")) (by omega)) fun t2 H11 n11 e11 h11 => ?_
    have e511 := e10.trans e11
    refine s_retW (andV_go (call_go (ea_go (ea_cons (ev_var rfl) (ea_cons (ev_var rfl) (ea_cons (ev_var rfl) (ea_two (ev_cell (ev_var rfl) ev_c (ex_l e511 hS5) (by decide)) (ev_var rfl))))) fun H12 e12 => ?_)))
    refine ⟨ps, t2, hd, sm, _, m, k, _, rfl, e12 _ _ (e11 _ _ h10), SD, e12 _ _ h11, bx.take _, by rw [List.length_take]; omega, lm, held.mono (e511.trans e12), by omega, nps, hdp e10 n11, fun k' H13 held13 => ?_⟩
    refine ⟨true, rfl, ?_⟩
    rw [if_pos rfl]
    exact call_go (ea_go (ea_one (ev_var rfl)) fun H14 e14 => ⟨hd, [], k', rfl, held13.mono e14, fun H15 _ => q H15⟩)


end
theorem all_mk {l : PySem.W.OpenLaw} {w : World} {K : PySem.W.Frag} {h : Heap} {mg : Str → Option Value} {fa f0 f1 f2 f3 f4 f5 f6 f7 f8 f9 f10 f11 f12 f13 f14 f15 f16 f17 f18 f19 f20 f21 f22 f23 f24 f25 f26 f27 f28 f29 f30 f31 f32 f33 f34 f35 f36 f37 x0 x1 x2 x3 x4 x5 x6 kGate kRegister : Addr} (X : K.In h) (G : h.Ns mainGlobals mg) (hfa : mg "law" = some (.ref fa))
    {od0 an0 od1 an1 od2 an2 od3 an3 od4 an4 od5 an5 od6 an6 od7 an7 od8 an8 od9 an9 od10 an10 od11 an11 od12 an12 od13 an13 od14 an14 od15 an15 od16 an16 od17 an17 od18 an18 od19 an19 od20 an20 od21 an21 od22 an22 od23 an23 od24 an24 od25 an25 od26 an26 od27 an27 od28 an28 od29 an29 od30 an30 od31 an31 od32 an32 od33 an33 od34 an34 od35 an35 od36 an36 od37 an37 : Option Addr} {sl0 sl1 sl2 sl3 sl4 sl5 sl6 sl7 sl8 sl9 sl10 sl11 sl12 sl13 sl14 sl15 sl16 sl17 sl18 sl19 sl20 sl21 sl22 sl23 sl24 sl25 sl26 sl27 sl28 sl29 sl30 sl31 sl32 sl33 sl34 sl35 sl36 sl37 : Array (Option Value)} {oc0 kV0 dc0 pm0 cd0 ct0 oc1 kV1 dc1 pm1 cd1 ct1 oc2 kV2 dc2 pm2 cd2 ct2 oc3 kV3 dc3 pm3 cd3 ct3 oc4 kV4 dc4 pm4 cd4 ct4 oc5 kV5 dc5 pm5 cd5 ct5 oc6 kV6 dc6 pm6 cd6 ct6 oc7 kV7 dc7 pm7 cd7 ct7 oc8 kV8 dc8 pm8 cd8 ct8 oc9 kV9 dc9 pm9 cd9 ct9 oc10 kV10 dc10 pm10 cd10 ct10 oc11 kV11 dc11 pm11 cd11 ct11 oc12 kV12 dc12 pm12 cd12 ct12 oc13 kV13 dc13 pm13 cd13 ct13 oc14 kV14 dc14 pm14 cd14 ct14 oc15 kV15 dc15 pm15 cd15 ct15 oc16 kV16 dc16 pm16 cd16 ct16 oc17 kV17 dc17 pm17 cd17 ct17 oc18 kV18 dc18 pm18 cd18 ct18 oc19 kV19 dc19 pm19 cd19 ct19 oc20 kV20 dc20 pm20 cd20 ct20 oc21 kV21 dc21 pm21 cd21 ct21 oc22 kV22 dc22 pm22 cd22 ct22 oc23 kV23 dc23 pm23 cd23 ct23 oc24 kV24 dc24 pm24 cd24 ct24 oc25 kV25 dc25 pm25 cd25 ct25 oc26 kV26 dc26 pm26 cd26 ct26 oc27 kV27 dc27 pm27 cd27 ct27 oc28 kV28 dc28 pm28 cd28 ct28 oc29 kV29 dc29 pm29 cd29 ct29 oc30 kV30 dc30 pm30 cd30 ct30 oc31 kV31 dc31 pm31 cd31 ct31 oc32 kV32 dc32 pm32 cd32 ct32 oc33 kV33 dc33 pm33 cd33 ct33 oc34 kV34 dc34 pm34 cd34 ct34 oc35 kV35 dc35 pm35 cd35 ct35 oc36 kV36 dc36 pm36 cd36 ct36 oc37 kV37 dc37 pm37 cd37 ct37 : Value} {tk0 tk1 tk2 : Tok}
    (a0 : PySem.W.nsIn K mainGlobals "is_sign" = some (some (.ref f0))) (l0 : K.lookup f0 = some ⟨oc0, od0, .func (PySem.W.fnOf "is_sign" "is_sign" (defArgs s_is_sign) (defBody s_is_sign) (defScope s_is_sign) .none kV0 dc0 pm0 an0 cd0 ct0), sl0⟩) (c0 : PySem.W.codeIn K cd0 "is_sign" = true) (k0 : PySem.W.keepIn K (.ref f0) = true)
    (a1 : PySem.W.nsIn K mainGlobals "need_row" = some (some (.ref f1))) (l1 : K.lookup f1 = some ⟨oc1, od1, .func (PySem.W.fnOf "need_row" "need_row" (defArgs s_need_row) (defBody s_need_row) (defScope s_need_row) .none kV1 dc1 pm1 an1 cd1 ct1), sl1⟩) (c1 : PySem.W.codeIn K cd1 "need_row" = true) (k1 : PySem.W.keepIn K (.ref f1) = true)
    (a2 : PySem.W.nsIn K mainGlobals "need_divisor" = some (some (.ref f2))) (l2 : K.lookup f2 = some ⟨oc2, od2, .func (PySem.W.fnOf "need_divisor" "need_divisor" (defArgs s_need_divisor) (defBody s_need_divisor) (defScope s_need_divisor) .none kV2 dc2 pm2 an2 cd2 ct2), sl2⟩) (c2 : PySem.W.codeIn K cd2 "need_divisor" = true) (k2 : PySem.W.keepIn K (.ref f2) = true)
    (a3 : PySem.W.nsIn K mainGlobals "lengthened" = some (some (.ref f3))) (l3 : K.lookup f3 = some ⟨oc3, od3, .func (PySem.W.fnOf "lengthened" "lengthened" (defArgs s_lengthened) (defBody s_lengthened) (defScope s_lengthened) .none kV3 dc3 pm3 an3 cd3 ct3), sl3⟩) (c3 : PySem.W.codeIn K cd3 "lengthened" = true) (k3 : PySem.W.keepIn K (.ref f3) = true)
    (a4 : PySem.W.nsIn K mainGlobals "added" = some (some (.ref f4))) (l4 : K.lookup f4 = some ⟨oc4, od4, .func (PySem.W.fnOf "added" "added" (defArgs s_added) (defBody s_added) (defScope s_added) .none kV4 dc4 pm4 an4 cd4 ct4), sl4⟩) (c4 : PySem.W.codeIn K cd4 "added" = true) (k4 : PySem.W.keepIn K (.ref f4) = true)
    (a5 : PySem.W.nsIn K mainGlobals "reduced" = some (some (.ref f5))) (l5 : K.lookup f5 = some ⟨oc5, od5, .func (PySem.W.fnOf "reduced" "reduced" (defArgs s_reduced) (defBody s_reduced) (defScope s_reduced) .none kV5 dc5 pm5 an5 cd5 ct5), sl5⟩) (c5 : PySem.W.codeIn K cd5 "reduced" = true) (k5 : PySem.W.keepIn K (.ref f5) = true)
    (a6 : PySem.W.nsIn K mainGlobals "parted" = some (some (.ref f6))) (l6 : K.lookup f6 = some ⟨oc6, od6, .func (PySem.W.fnOf "parted" "parted" (defArgs s_parted) (defBody s_parted) (defScope s_parted) .none kV6 dc6 pm6 an6 cd6 ct6), sl6⟩) (c6 : PySem.W.codeIn K cd6 "parted" = true) (k6 : PySem.W.keepIn K (.ref f6) = true)
    (a7 : PySem.W.nsIn K mainGlobals "need_gate_divisor" = some (some (.ref f7))) (l7 : K.lookup f7 = some ⟨oc7, od7, .func (PySem.W.fnOf "need_gate_divisor" "need_gate_divisor" (defArgs s_need_gate_divisor) (defBody s_need_gate_divisor) (defScope s_need_gate_divisor) .none kV7 dc7 pm7 an7 cd7 ct7), sl7⟩) (c7 : PySem.W.codeIn K cd7 "need_gate_divisor" = true) (k7 : PySem.W.keepIn K (.ref f7) = true)
    (a8 : PySem.W.nsIn K mainGlobals "reach" = some (some (.ref f8))) (l8 : K.lookup f8 = some ⟨oc8, od8, .func (PySem.W.fnOf "reach" "reach" (defArgs s_reach) (defBody s_reach) (defScope s_reach) .none kV8 dc8 pm8 an8 cd8 ct8), sl8⟩) (c8 : PySem.W.codeIn K cd8 "reach" = true) (k8 : PySem.W.keepIn K (.ref f8) = true)
    (a9 : PySem.W.nsIn K mainGlobals "is_count" = some (some (.ref f9))) (l9 : K.lookup f9 = some ⟨oc9, od9, .func (PySem.W.fnOf "is_count" "is_count" (defArgs s_is_count) (defBody s_is_count) (defScope s_is_count) .none kV9 dc9 pm9 an9 cd9 ct9), sl9⟩) (c9 : PySem.W.codeIn K cd9 "is_count" = true) (k9 : PySem.W.keepIn K (.ref f9) = true)
    (a10 : PySem.W.findIn K (.ref kGate) "__init__" = some (some (.ref f10))) (i10 : PySem.W.isFn K (.ref f10) = true) (l10 : K.lookup f10 = some ⟨oc10, od10, .func (PySem.W.fnOf "__init__" "Gate.__init__" (defArgs s_Gate___init__) (defBody s_Gate___init__) (defScope s_Gate___init__) .none kV10 dc10 pm10 an10 cd10 ct10), sl10⟩) (c10 : PySem.W.codeIn K cd10 "Gate.__init__" = true) (k10 : PySem.W.keepIn K (.ref f10) = true)
    (a11 : PySem.W.findIn K (.ref kGate) "rest" = some (some (.ref f11))) (i11 : PySem.W.isFn K (.ref f11) = true) (l11 : K.lookup f11 = some ⟨oc11, od11, .func (PySem.W.fnOf "rest" "Gate.rest" (defArgs s_Gate_rest) (defBody s_Gate_rest) (defScope s_Gate_rest) .none kV11 dc11 pm11 an11 cd11 ct11), sl11⟩) (c11 : PySem.W.codeIn K cd11 "Gate.rest" = true) (k11 : PySem.W.keepIn K (.ref f11) = true)
    (a12 : PySem.W.findIn K (.ref kGate) "later" = some (some (.ref f12))) (i12 : PySem.W.isFn K (.ref f12) = true) (l12 : K.lookup f12 = some ⟨oc12, od12, .func (PySem.W.fnOf "later" "Gate.later" (defArgs s_Gate_later) (defBody s_Gate_later) (defScope s_Gate_later) .none kV12 dc12 pm12 an12 cd12 ct12), sl12⟩) (c12 : PySem.W.codeIn K cd12 "Gate.later" = true) (k12 : PySem.W.keepIn K (.ref f12) = true)
    (a13 : PySem.W.findIn K (.ref kGate) "check" = some (some (.ref f13))) (i13 : PySem.W.isFn K (.ref f13) = true) (l13 : K.lookup f13 = some ⟨oc13, od13, .func (PySem.W.fnOf "check" "Gate.check" (defArgs s_Gate_check) (defBody s_Gate_check) (defScope s_Gate_check) .none kV13 dc13 pm13 an13 cd13 ct13), sl13⟩) (c13 : PySem.W.codeIn K cd13 "Gate.check" = true) (k13 : PySem.W.keepIn K (.ref f13) = true)
    (a14 : PySem.W.findIn K (.ref kRegister) "__init__" = some (some (.ref f14))) (i14 : PySem.W.isFn K (.ref f14) = true) (l14 : K.lookup f14 = some ⟨oc14, od14, .func (PySem.W.fnOf "__init__" "Register.__init__" (defArgs s_Register___init__) (defBody s_Register___init__) (defScope s_Register___init__) .none kV14 dc14 pm14 an14 cd14 ct14), sl14⟩) (c14 : PySem.W.codeIn K cd14 "Register.__init__" = true) (k14 : PySem.W.keepIn K (.ref f14) = true)
    (a15 : PySem.W.findIn K (.ref kRegister) "put" = some (some (.ref f15))) (i15 : PySem.W.isFn K (.ref f15) = true) (l15 : K.lookup f15 = some ⟨oc15, od15, .func (PySem.W.fnOf "put" "Register.put" (defArgs s_Register_put) (defBody s_Register_put) (defScope s_Register_put) .none kV15 dc15 pm15 an15 cd15 ct15), sl15⟩) (c15 : PySem.W.codeIn K cd15 "Register.put" = true) (k15 : PySem.W.keepIn K (.ref f15) = true)
    (a16 : PySem.W.findIn K (.ref kRegister) "anew" = some (some (.ref f16))) (i16 : PySem.W.isFn K (.ref f16) = true) (l16 : K.lookup f16 = some ⟨oc16, od16, .func (PySem.W.fnOf "anew" "Register.anew" (defArgs s_Register_anew) (defBody s_Register_anew) (defScope s_Register_anew) .none kV16 dc16 pm16 an16 cd16 ct16), sl16⟩) (c16 : PySem.W.codeIn K cd16 "Register.anew" = true) (k16 : PySem.W.keepIn K (.ref f16) = true)
    (a17 : PySem.W.findIn K (.ref kRegister) "joined" = some (some (.ref f17))) (i17 : PySem.W.isFn K (.ref f17) = true) (l17 : K.lookup f17 = some ⟨oc17, od17, .func (PySem.W.fnOf "joined" "Register.joined" (defArgs s_Register_joined) (defBody s_Register_joined) (defScope s_Register_joined) .none kV17 dc17 pm17 an17 cd17 ct17), sl17⟩) (c17 : PySem.W.codeIn K cd17 "Register.joined" = true) (k17 : PySem.W.keepIn K (.ref f17) = true)
    (a18 : PySem.W.findIn K (.ref kRegister) "rest" = some (some (.ref f18))) (i18 : PySem.W.isFn K (.ref f18) = true) (l18 : K.lookup f18 = some ⟨oc18, od18, .func (PySem.W.fnOf "rest" "Register.rest" (defArgs s_Register_rest) (defBody s_Register_rest) (defScope s_Register_rest) .none kV18 dc18 pm18 an18 cd18 ct18), sl18⟩) (c18 : PySem.W.codeIn K cd18 "Register.rest" = true) (k18 : PySem.W.keepIn K (.ref f18) = true)
    (a19 : PySem.W.findIn K (.ref kRegister) "check" = some (some (.ref f19))) (i19 : PySem.W.isFn K (.ref f19) = true) (l19 : K.lookup f19 = some ⟨oc19, od19, .func (PySem.W.fnOf "check" "Register.check" (defArgs s_Register_check) (defBody s_Register_check) (defScope s_Register_check) .none kV19 dc19 pm19 an19 cd19 ct19), sl19⟩) (c19 : PySem.W.codeIn K cd19 "Register.check" = true) (k19 : PySem.W.keepIn K (.ref f19) = true)
    (a20 : PySem.W.nsIn K mainGlobals "_law_cell_at" = some (some (.ref f20))) (l20 : K.lookup f20 = some ⟨oc20, od20, .func (PySem.W.fnOf "_law_cell_at" "_law_cell_at" (defArgs s__law_cell_at) (defBody s__law_cell_at) (defScope s__law_cell_at) .none kV20 dc20 pm20 an20 cd20 ct20), sl20⟩) (c20 : PySem.W.codeIn K cd20 "_law_cell_at" = true) (k20 : PySem.W.keepIn K (.ref f20) = true)
    (a21 : PySem.W.nsIn K mainGlobals "_law_is_row" = some (some (.ref f21))) (l21 : K.lookup f21 = some ⟨oc21, od21, .func (PySem.W.fnOf "_law_is_row" "_law_is_row" (defArgs s__law_is_row) (defBody s__law_is_row) (defScope s__law_is_row) .none kV21 dc21 pm21 an21 cd21 ct21), sl21⟩) (c21 : PySem.W.codeIn K cd21 "_law_is_row" = true) (k21 : PySem.W.keepIn K (.ref f21) = true)
    (a22 : PySem.W.nsIn K mainGlobals "_law_step_by" = some (some (.ref f22))) (l22 : K.lookup f22 = some ⟨oc22, od22, .func (PySem.W.fnOf "_law_step_by" "_law_step_by" (defArgs s__law_step_by) (defBody s__law_step_by) (defScope s__law_step_by) .none kV22 dc22 pm22 an22 cd22 ct22), sl22⟩) (c22 : PySem.W.codeIn K cd22 "_law_step_by" = true) (k22 : PySem.W.keepIn K (.ref f22) = true)
    (a23 : PySem.W.nsIn K mainGlobals "_law_rest_by" = some (some (.ref f23))) (l23 : K.lookup f23 = some ⟨oc23, od23, .func (PySem.W.fnOf "_law_rest_by" "_law_rest_by" (defArgs s__law_rest_by) (defBody s__law_rest_by) (defScope s__law_rest_by) .none kV23 dc23 pm23 an23 cd23 ct23), sl23⟩) (c23 : PySem.W.codeIn K cd23 "_law_rest_by" = true) (k23 : PySem.W.keepIn K (.ref f23) = true)
    (a24 : PySem.W.nsIn K mainGlobals "_law_divisor_by" = some (some (.ref f24))) (l24 : K.lookup f24 = some ⟨oc24, od24, .func (PySem.W.fnOf "_law_divisor_by" "_law_divisor_by" (defArgs s__law_divisor_by) (defBody s__law_divisor_by) (defScope s__law_divisor_by) .none kV24 dc24 pm24 an24 cd24 ct24), sl24⟩) (c24 : PySem.W.codeIn K cd24 "_law_divisor_by" = true) (k24 : PySem.W.keepIn K (.ref f24) = true)
    (a25 : PySem.W.nsIn K mainGlobals "_law_reach_by" = some (some (.ref f25))) (l25 : K.lookup f25 = some ⟨oc25, od25, .func (PySem.W.fnOf "_law_reach_by" "_law_reach_by" (defArgs s__law_reach_by) (defBody s__law_reach_by) (defScope s__law_reach_by) .none kV25 dc25 pm25 an25 cd25 ct25), sl25⟩) (c25 : PySem.W.codeIn K cd25 "_law_reach_by" = true) (k25 : PySem.W.keepIn K (.ref f25) = true)
    (a26 : PySem.W.nsIn K mainGlobals "_law_stands" = some (some (.ref f26))) (l26 : K.lookup f26 = some ⟨oc26, od26, .func (PySem.W.fnOf "_law_stands" "_law_stands" (defArgs s__law_stands) (defBody s__law_stands) (defScope s__law_stands) .none kV26 dc26 pm26 an26 cd26 ct26), sl26⟩) (c26 : PySem.W.codeIn K cd26 "_law_stands" = true) (k26 : PySem.W.keepIn K (.ref f26) = true)
    (a27 : PySem.W.nsIn K mainGlobals "_law_refused" = some (some (.ref f27))) (l27 : K.lookup f27 = some ⟨oc27, od27, .func (PySem.W.fnOf "_law_refused" "_law_refused" (defArgs s__law_refused) (defBody s__law_refused) (defScope s__law_refused) .none kV27 dc27 pm27 an27 cd27 ct27), sl27⟩) (c27 : PySem.W.codeIn K cd27 "_law_refused" = true) (k27 : PySem.W.keepIn K (.ref f27) = true)
    (a28 : PySem.W.nsIn K mainGlobals "_law_other" = some (some (.ref f28))) (l28 : K.lookup f28 = some ⟨oc28, od28, .func (PySem.W.fnOf "_law_other" "_law_other" (defArgs s__law_other) (defBody s__law_other) (defScope s__law_other) .none kV28 dc28 pm28 an28 cd28 ct28), sl28⟩) (c28 : PySem.W.codeIn K cd28 "_law_other" = true) (k28 : PySem.W.keepIn K (.ref f28) = true)
    (a29 : PySem.W.nsIn K mainGlobals "_law_stranger" = some (some (.ref f29))) (l29 : K.lookup f29 = some ⟨oc29, od29, .func (PySem.W.fnOf "_law_stranger" "_law_stranger" (defArgs s__law_stranger) (defBody s__law_stranger) (defScope s__law_stranger) .none kV29 dc29 pm29 an29 cd29 ct29), sl29⟩) (c29 : PySem.W.codeIn K cd29 "_law_stranger" = true) (k29 : PySem.W.keepIn K (.ref f29) = true)
    (a30 : PySem.W.nsIn K mainGlobals "_law_went" = some (some (.ref f30))) (l30 : K.lookup f30 = some ⟨oc30, od30, .func (PySem.W.fnOf "_law_went" "_law_went" (defArgs s__law_went) (defBody s__law_went) (defScope s__law_went) .none kV30 dc30 pm30 an30 cd30 ct30), sl30⟩) (c30 : PySem.W.codeIn K cd30 "_law_went" = true) (k30 : PySem.W.keepIn K (.ref f30) = true)
    (a31 : PySem.W.nsIn K mainGlobals "_law_halves" = some (some (.ref f31))) (l31 : K.lookup f31 = some ⟨oc31, od31, .func (PySem.W.fnOf "_law_halves" "_law_halves" (defArgs s__law_halves) (defBody s__law_halves) (defScope s__law_halves) .none kV31 dc31 pm31 an31 cd31 ct31), sl31⟩) (c31 : PySem.W.codeIn K cd31 "_law_halves" = true) (k31 : PySem.W.keepIn K (.ref f31) = true)
    (a32 : PySem.W.nsIn K mainGlobals "_law_doubled" = some (some (.ref f32))) (l32 : K.lookup f32 = some ⟨oc32, od32, .func (PySem.W.fnOf "_law_doubled" "_law_doubled" (defArgs s__law_doubled) (defBody s__law_doubled) (defScope s__law_doubled) .none kV32 dc32 pm32 an32 cd32 ct32), sl32⟩) (c32 : PySem.W.codeIn K cd32 "_law_doubled" = true) (k32 : PySem.W.keepIn K (.ref f32) = true)
    (a33 : PySem.W.nsIn K mainGlobals "_law_far_ends" = some (some (.ref f33))) (l33 : K.lookup f33 = some ⟨oc33, od33, .func (PySem.W.fnOf "_law_far_ends" "_law_far_ends" (defArgs s__law_far_ends) (defBody s__law_far_ends) (defScope s__law_far_ends) .none kV33 dc33 pm33 an33 cd33 ct33), sl33⟩) (c33 : PySem.W.codeIn K cd33 "_law_far_ends" = true) (k33 : PySem.W.keepIn K (.ref f33) = true)
    (a34 : PySem.W.nsIn K mainGlobals "_law_far" = some (some (.ref f34))) (l34 : K.lookup f34 = some ⟨oc34, od34, .func (PySem.W.fnOf "_law_far" "_law_far" (defArgs s__law_far) (defBody s__law_far) (defScope s__law_far) .none kV34 dc34 pm34 an34 cd34 ct34), sl34⟩) (c34 : PySem.W.codeIn K cd34 "_law_far" = true) (k34 : PySem.W.keepIn K (.ref f34) = true)
    (a35 : PySem.W.nsIn K mainGlobals "_law_deeds" = some (some (.ref f35))) (l35 : K.lookup f35 = some ⟨oc35, od35, .func (PySem.W.fnOf "_law_deeds" "_law_deeds" (defArgs s__law_deeds) (defBody s__law_deeds) (defScope s__law_deeds) .none kV35 dc35 pm35 an35 cd35 ct35), sl35⟩) (c35 : PySem.W.codeIn K cd35 "_law_deeds" = true) (k35 : PySem.W.keepIn K (.ref f35) = true)
    (a36 : PySem.W.nsIn K mainGlobals "_law_kept" = some (some (.ref f36))) (l36 : K.lookup f36 = some ⟨oc36, od36, .func (PySem.W.fnOf "_law_kept" "_law_kept" (defArgs s__law_kept) (defBody s__law_kept) (defScope s__law_kept) .none kV36 dc36 pm36 an36 cd36 ct36), sl36⟩) (c36 : PySem.W.codeIn K cd36 "_law_kept" = true) (k36 : PySem.W.keepIn K (.ref f36) = true)
    (a37 : PySem.W.nsIn K mainGlobals "law" = some (some (.ref f37))) (l37 : K.lookup f37 = some ⟨oc37, od37, .func (PySem.W.fnOf "law" "law" (defArgs s_law) (defBody s_law) (defScope s_law) .none kV37 dc37 pm37 an37 cd37 ct37), sl37⟩) (c37 : PySem.W.codeIn K cd37 "law" = true) (k37 : PySem.W.keepIn K (.ref f37) = true)
    (oGate_g : PySem.W.nsIn K mainGlobals "Gate" = some (some (.ref kGate)))
    (oGate_pg : PySem.W.plainGet K kGate Str.empty = true)
    (oGate_hd : PySem.W.hasDictIn K kGate = true)
    (oGate_po : PySem.W.plainOver K kGate = true)
    (oGate_sa : PySem.W.findIn K (.ref kGate) "__setattr__" = some (some (.builtin "object.__setattr__")))
    (oGate_mk : PySem.W.makesIn K kGate = true)
    (oGate_kp : PySem.W.keepIn K (.ref kGate) = true)
    (oGate_n_reach : PySem.W.findIn K (.ref kGate) "reach" = some none)
    (oGate_n_divisor : PySem.W.findIn K (.ref kGate) "divisor" = some none)
    (oGate_n_width : PySem.W.findIn K (.ref kGate) "width" = some none)
    (oGate_n_even : PySem.W.findIn K (.ref kGate) "even" = some none)
    (oGate_w1 : PySem.W.isClsIn K kGate = true)
    (oGate_w2 : PySem.W.typeIn K (.ref kGate) = some (.type "type"))
    (oGate_w3 : PySem.W.findIn K (.ref kGate) "__class__" = some (some (.builtin "object.__class__")))
    (oGate_w4 : PySem.W.mroIn K kGate (.type "object") = some true)
    (oRegister_g : PySem.W.nsIn K mainGlobals "Register" = some (some (.ref kRegister)))
    (oRegister_pg : PySem.W.plainGet K kRegister Str.empty = true)
    (oRegister_hd : PySem.W.hasDictIn K kRegister = true)
    (oRegister_po : PySem.W.plainOver K kRegister = true)
    (oRegister_sa : PySem.W.findIn K (.ref kRegister) "__setattr__" = some (some (.builtin "object.__setattr__")))
    (oRegister_mk : PySem.W.makesIn K kRegister = true)
    (oRegister_kp : PySem.W.keepIn K (.ref kRegister) = true)
    (oRegister_n_gate : PySem.W.findIn K (.ref kRegister) "gate" = some none)
    (oRegister_n_many : PySem.W.findIn K (.ref kRegister) "many" = some none)
    (oRegister_n__rest : PySem.W.findIn K (.ref kRegister) "_rest" = some none)
    (oRegister_w1 : PySem.W.isClsIn K kRegister = true)
    (oRegister_w2 : PySem.W.typeIn K (.ref kRegister) = some (.type "type"))
    (oRegister_w3 : PySem.W.findIn K (.ref kRegister) "__class__" = some (some (.builtin "object.__class__")))
    (oRegister_w4 : PySem.W.mroIn K kRegister (.type "object") = some true)
    (oRegister_b_NoneType : PySem.W.subIn K (.type "NoneType") (.ref kRegister) = some false)
    (oRegister_b_list : PySem.W.subIn K (.type "list") (.ref kRegister) = some false)
    (oRegister_b_int : PySem.W.subIn K (.type "int") (.ref kRegister) = some false)
    (oRegister_b_str : PySem.W.subIn K (.type "str") (.ref kRegister) = some false)
    (oRegister_b_tuple : PySem.W.subIn K (.type "tuple") (.ref kRegister) = some false)
    (oRegister_b_bool : PySem.W.subIn K (.type "bool") (.ref kRegister) = some false)
    (oRegister_o_Gate : PySem.W.subIn K (.ref kGate) (.ref kRegister) = some false)
    (oRegister_o_Register : PySem.W.subIn K (.ref kRegister) (.ref kRegister) = some true)
    (u0_1 : PySem.W.nsIn K mainGlobals "GateError" = some (some (.ref x0))) (u0_2 : PySem.W.excIn K x0 veBase "ValueError.__new__" = true) (u0_3 : PySem.W.keepIn K (.ref x0) = true) (u0_4 : PySem.W.subIn K (.ref x0) (.type "BaseException") = some true) (u0_5 : PySem.W.typeIn K (.ref x0) = some (.type "type")) (u0_6 : PySem.W.isClsIn K x0 = true) (u0_7 : PySem.W.subIn K (.ref x0) (.type "ValueError") = some true)
    (u0_8 : PySem.W.findIn K (.ref x0) "__getattribute__" = some (some (.builtin "BaseException.__getattribute__"))) (u0_9 : PySem.W.findIn K (.ref x0) "__getattr__" = some none) (u0_10 : PySem.W.hasDictIn K x0 = true) (u0_11 : PySem.W.findIn K (.ref x0) "__class__" = some (some (.builtin "object.__class__"))) (u0_12 : PySem.W.mroIn K x0 (.type "object") = some true)
    (u1_1 : PySem.W.nsIn K mainGlobals "NoRow" = some (some (.ref x1))) (u1_2 : PySem.W.excIn K x1 veBase "ValueError.__new__" = true) (u1_3 : PySem.W.keepIn K (.ref x1) = true) (u1_4 : PySem.W.subIn K (.ref x1) (.type "BaseException") = some true) (u1_5 : PySem.W.typeIn K (.ref x1) = some (.type "type")) (u1_6 : PySem.W.isClsIn K x1 = true) (u1_7 : PySem.W.subIn K (.ref x1) (.type "ValueError") = some true)
    (u1_8 : PySem.W.findIn K (.ref x1) "__getattribute__" = some (some (.builtin "BaseException.__getattribute__"))) (u1_9 : PySem.W.findIn K (.ref x1) "__getattr__" = some none) (u1_10 : PySem.W.hasDictIn K x1 = true) (u1_11 : PySem.W.findIn K (.ref x1) "__class__" = some (some (.builtin "object.__class__"))) (u1_12 : PySem.W.mroIn K x1 (.type "object") = some true)
    (u2_1 : PySem.W.nsIn K mainGlobals "NoSign" = some (some (.ref x2))) (u2_2 : PySem.W.excIn K x2 veBase "ValueError.__new__" = true) (u2_3 : PySem.W.keepIn K (.ref x2) = true) (u2_4 : PySem.W.subIn K (.ref x2) (.type "BaseException") = some true) (u2_5 : PySem.W.typeIn K (.ref x2) = some (.type "type")) (u2_6 : PySem.W.isClsIn K x2 = true) (u2_7 : PySem.W.subIn K (.ref x2) (.type "ValueError") = some true)
    (u2_8 : PySem.W.findIn K (.ref x2) "__getattribute__" = some (some (.builtin "BaseException.__getattribute__"))) (u2_9 : PySem.W.findIn K (.ref x2) "__getattr__" = some none) (u2_10 : PySem.W.hasDictIn K x2 = true) (u2_11 : PySem.W.findIn K (.ref x2) "__class__" = some (some (.builtin "object.__class__"))) (u2_12 : PySem.W.mroIn K x2 (.type "object") = some true)
    (u3_1 : PySem.W.nsIn K mainGlobals "NoDivisor" = some (some (.ref x3))) (u3_2 : PySem.W.excIn K x3 veBase "ValueError.__new__" = true) (u3_3 : PySem.W.keepIn K (.ref x3) = true) (u3_4 : PySem.W.subIn K (.ref x3) (.type "BaseException") = some true) (u3_5 : PySem.W.typeIn K (.ref x3) = some (.type "type")) (u3_6 : PySem.W.isClsIn K x3 = true) (u3_7 : PySem.W.subIn K (.ref x3) (.type "ValueError") = some true)
    (u3_8 : PySem.W.findIn K (.ref x3) "__getattribute__" = some (some (.builtin "BaseException.__getattribute__"))) (u3_9 : PySem.W.findIn K (.ref x3) "__getattr__" = some none) (u3_10 : PySem.W.hasDictIn K x3 = true) (u3_11 : PySem.W.findIn K (.ref x3) "__class__" = some (some (.builtin "object.__class__"))) (u3_12 : PySem.W.mroIn K x3 (.type "object") = some true)
    (u4_1 : PySem.W.nsIn K mainGlobals "NoCount" = some (some (.ref x4))) (u4_2 : PySem.W.excIn K x4 veBase "ValueError.__new__" = true) (u4_3 : PySem.W.keepIn K (.ref x4) = true) (u4_4 : PySem.W.subIn K (.ref x4) (.type "BaseException") = some true) (u4_5 : PySem.W.typeIn K (.ref x4) = some (.type "type")) (u4_6 : PySem.W.isClsIn K x4 = true) (u4_7 : PySem.W.subIn K (.ref x4) (.type "ValueError") = some true)
    (u4_8 : PySem.W.findIn K (.ref x4) "__getattribute__" = some (some (.builtin "BaseException.__getattribute__"))) (u4_9 : PySem.W.findIn K (.ref x4) "__getattr__" = some none) (u4_10 : PySem.W.hasDictIn K x4 = true) (u4_11 : PySem.W.findIn K (.ref x4) "__class__" = some (some (.builtin "object.__class__"))) (u4_12 : PySem.W.mroIn K x4 (.type "object") = some true)
    (u5_1 : PySem.W.nsIn K mainGlobals "TooLong" = some (some (.ref x5))) (u5_2 : PySem.W.excIn K x5 veBase "ValueError.__new__" = true) (u5_3 : PySem.W.keepIn K (.ref x5) = true) (u5_4 : PySem.W.subIn K (.ref x5) (.type "BaseException") = some true) (u5_5 : PySem.W.typeIn K (.ref x5) = some (.type "type")) (u5_6 : PySem.W.isClsIn K x5 = true) (u5_7 : PySem.W.subIn K (.ref x5) (.type "ValueError") = some true)
    (u5_8 : PySem.W.findIn K (.ref x5) "__getattribute__" = some (some (.builtin "BaseException.__getattribute__"))) (u5_9 : PySem.W.findIn K (.ref x5) "__getattr__" = some none) (u5_10 : PySem.W.hasDictIn K x5 = true) (u5_11 : PySem.W.findIn K (.ref x5) "__class__" = some (some (.builtin "object.__class__"))) (u5_12 : PySem.W.mroIn K x5 (.type "object") = some true)
    (u6_1 : PySem.W.nsIn K mainGlobals "NoMate" = some (some (.ref x6))) (u6_2 : PySem.W.excIn K x6 veBase "ValueError.__new__" = true) (u6_3 : PySem.W.keepIn K (.ref x6) = true) (u6_4 : PySem.W.subIn K (.ref x6) (.type "BaseException") = some true) (u6_5 : PySem.W.typeIn K (.ref x6) = some (.type "type")) (u6_6 : PySem.W.isClsIn K x6 = true) (u6_7 : PySem.W.subIn K (.ref x6) (.type "ValueError") = some true)
    (u6_8 : PySem.W.findIn K (.ref x6) "__getattribute__" = some (some (.builtin "BaseException.__getattribute__"))) (u6_9 : PySem.W.findIn K (.ref x6) "__getattr__" = some none) (u6_10 : PySem.W.hasDictIn K x6 = true) (u6_11 : PySem.W.findIn K (.ref x6) "__class__" = some (some (.builtin "object.__class__"))) (u6_12 : PySem.W.mroIn K x6 (.type "object") = some true)
    (q1 : PySem.W.specialIn K (.builtin "object.__class__") "__get__" = some (some (.builtin "getset_descriptor.__get__"))) (q2 : PySem.W.takesIn K (.builtin "object.__class__") = some true)
    (p0_0 : PySem.W.subIn K (.ref x0) (.ref x0) = some true)
    (p0_2 : PySem.W.subIn K (.ref x0) (.ref x2) = some false)
    (p0_5 : PySem.W.subIn K (.ref x0) (.ref x5) = some false)
    (p0_6 : PySem.W.subIn K (.ref x0) (.ref x6) = some false)
    (p1_0 : PySem.W.subIn K (.ref x1) (.ref x0) = some true)
    (p1_2 : PySem.W.subIn K (.ref x1) (.ref x2) = some false)
    (p1_5 : PySem.W.subIn K (.ref x1) (.ref x5) = some false)
    (p1_6 : PySem.W.subIn K (.ref x1) (.ref x6) = some false)
    (p2_0 : PySem.W.subIn K (.ref x2) (.ref x0) = some true)
    (p2_2 : PySem.W.subIn K (.ref x2) (.ref x2) = some true)
    (p2_5 : PySem.W.subIn K (.ref x2) (.ref x5) = some false)
    (p2_6 : PySem.W.subIn K (.ref x2) (.ref x6) = some false)
    (p3_0 : PySem.W.subIn K (.ref x3) (.ref x0) = some true)
    (p3_2 : PySem.W.subIn K (.ref x3) (.ref x2) = some false)
    (p3_5 : PySem.W.subIn K (.ref x3) (.ref x5) = some false)
    (p3_6 : PySem.W.subIn K (.ref x3) (.ref x6) = some false)
    (p4_0 : PySem.W.subIn K (.ref x4) (.ref x0) = some true)
    (p4_2 : PySem.W.subIn K (.ref x4) (.ref x2) = some false)
    (p4_5 : PySem.W.subIn K (.ref x4) (.ref x5) = some false)
    (p4_6 : PySem.W.subIn K (.ref x4) (.ref x6) = some false)
    (p5_0 : PySem.W.subIn K (.ref x5) (.ref x0) = some true)
    (p5_2 : PySem.W.subIn K (.ref x5) (.ref x2) = some false)
    (p5_5 : PySem.W.subIn K (.ref x5) (.ref x5) = some true)
    (p5_6 : PySem.W.subIn K (.ref x5) (.ref x6) = some false)
    (p6_0 : PySem.W.subIn K (.ref x6) (.ref x0) = some true)
    (p6_2 : PySem.W.subIn K (.ref x6) (.ref x2) = some false)
    (p6_5 : PySem.W.subIn K (.ref x6) (.ref x5) = some false)
    (p6_6 : PySem.W.subIn K (.ref x6) (.ref x6) = some true)
    (z_ValueError : PySem.W.nsIn K mainGlobals "ValueError" = some none)
    (z_all : PySem.W.nsIn K mainGlobals "all" = some none)
    (z_bool : PySem.W.nsIn K mainGlobals "bool" = some none)
    (z_int : PySem.W.nsIn K mainGlobals "int" = some none)
    (z_isinstance : PySem.W.nsIn K mainGlobals "isinstance" = some none)
    (z_len : PySem.W.nsIn K mainGlobals "len" = some none)
    (z_list : PySem.W.nsIn K mainGlobals "list" = some none)
    (z_max : PySem.W.nsIn K mainGlobals "max" = some none)
    (z_range : PySem.W.nsIn K mainGlobals "range" = some none)
    (z_zip : PySem.W.nsIn K mainGlobals "zip" = some none)
    (v0 : PySem.W.nsIn K mainGlobals "FEWEST_SIGNS" = some (some (.int 2 tk0)))
    (v1 : PySem.W.nsIn K mainGlobals "MOST_SIGNS" = some (some (.int 13 tk1)))
    (v2 : PySem.W.nsIn K mainGlobals "MOST_NOUGHTS" = some (some (.int 1000000000000000000 tk2))) :
    ∃ fd : FuncData, (∀ (s : Shared) (v : Value), BindsTo s fd ⟨[v], []⟩ [("_law_script", v)]) ∧ ∀ base : Heap, K.In base → base.Ns mainGlobals mg → FnOk l.prog w K mg base (L2.CX l.prog w) 13 fa fd ["_law_script"] (sp_law K) := by
  have e := hfa.symm.trans (PySem.W.mg_of X G a37)
  cases e
  have R0 : Raw K mg "is_sign" "is_sign" s_is_sign ["value"] := ⟨f0, _, fun_mk (st := s_is_sign) l0 c0 k0, (fun_mk (st := s_is_sign) l0 c0 k0).binds fun _ _ _ _ _ _ us hl => match us, hl with | [_], _ => rfl, PySem.W.mg_of X G a0⟩
  have R1 : Raw K mg "need_row" "need_row" s_need_row ["row"] := ⟨f1, _, fun_mk (st := s_need_row) l1 c1 k1, (fun_mk (st := s_need_row) l1 c1 k1).binds fun _ _ _ _ _ _ us hl => match us, hl with | [_], _ => rfl, PySem.W.mg_of X G a1⟩
  have R2 : Raw K mg "need_divisor" "need_divisor" s_need_divisor ["divisor"] := ⟨f2, _, fun_mk (st := s_need_divisor) l2 c2 k2, (fun_mk (st := s_need_divisor) l2 c2 k2).binds fun _ _ _ _ _ _ us hl => match us, hl with | [_], _ => rfl, PySem.W.mg_of X G a2⟩
  have R3 : Raw K mg "lengthened" "lengthened" s_lengthened ["row", "length"] := ⟨f3, _, fun_mk (st := s_lengthened) l3 c3 k3, (fun_mk (st := s_lengthened) l3 c3 k3).binds fun _ _ _ _ _ _ us hl => match us, hl with | [_, _], _ => rfl, PySem.W.mg_of X G a3⟩
  have R4 : Raw K mg "added" "added" s_added ["one", "other"] := ⟨f4, _, fun_mk (st := s_added) l4 c4 k4, (fun_mk (st := s_added) l4 c4 k4).binds fun _ _ _ _ _ _ us hl => match us, hl with | [_, _], _ => rfl, PySem.W.mg_of X G a4⟩
  have R5 : Raw K mg "reduced" "reduced" s_reduced ["row", "divisor"] := ⟨f5, _, fun_mk (st := s_reduced) l5 c5 k5, (fun_mk (st := s_reduced) l5 c5 k5).binds fun _ _ _ _ _ _ us hl => match us, hl with | [_, _], _ => rfl, PySem.W.mg_of X G a5⟩
  have R6 : Raw K mg "parted" "parted" s_parted ["row", "divisor"] := ⟨f6, _, fun_mk (st := s_parted) l6 c6 k6, (fun_mk (st := s_parted) l6 c6 k6).binds fun _ _ _ _ _ _ us hl => match us, hl with | [_, _], _ => rfl, PySem.W.mg_of X G a6⟩
  have R7 : Raw K mg "need_gate_divisor" "need_gate_divisor" s_need_gate_divisor ["divisor"] := ⟨f7, _, fun_mk (st := s_need_gate_divisor) l7 c7 k7, (fun_mk (st := s_need_gate_divisor) l7 c7 k7).binds fun _ _ _ _ _ _ us hl => match us, hl with | [_], _ => rfl, PySem.W.mg_of X G a7⟩
  have R8 : Raw K mg "reach" "reach" s_reach ["divisor"] := ⟨f8, _, fun_mk (st := s_reach) l8 c8 k8, (fun_mk (st := s_reach) l8 c8 k8).binds fun _ _ _ _ _ _ us hl => match us, hl with | [_], _ => rfl, PySem.W.mg_of X G a8⟩
  have R9 : Raw K mg "is_count" "is_count" s_is_count ["value"] := ⟨f9, _, fun_mk (st := s_is_count) l9 c9 k9, (fun_mk (st := s_is_count) l9 c9 k9).binds fun _ _ _ _ _ _ us hl => match us, hl with | [_], _ => rfl, PySem.W.mg_of X G a9⟩
  have R10 : RawI K kGate "Gate.__init__" s_Gate___init__ ["self", "divisor"] := ⟨f10, _, fun_mk (st := s_Gate___init__) l10 c10 k10, (fun_mk (st := s_Gate___init__) l10 c10 k10).binds fun _ _ _ _ _ _ us hl => match us, hl with | [_, _], _ => rfl, ⟨oGate_mk, a10, i10, oGate_kp⟩⟩
  have R11 : RawM K kGate "rest" "Gate.rest" s_Gate_rest ["self", "row"] := ⟨f11, _, fun_mk (st := s_Gate_rest) l11 c11 k11, (fun_mk (st := s_Gate_rest) l11 c11 k11).binds fun _ _ _ _ _ _ us hl => match us, hl with | [_, _], _ => rfl, ⟨a11, i11, k11⟩⟩
  have R12 : RawM K kGate "later" "Gate.later" s_Gate_later ["self", "rest", "many"] := ⟨f12, _, fun_mk (st := s_Gate_later) l12 c12 k12, (fun_mk (st := s_Gate_later) l12 c12 k12).binds fun _ _ _ _ _ _ us hl => match us, hl with | [_, _, _], _ => rfl, ⟨a12, i12, k12⟩⟩
  have R13 : RawM K kGate "check" "Gate.check" s_Gate_check ["self", "row"] := ⟨f13, _, fun_mk (st := s_Gate_check) l13 c13 k13, (fun_mk (st := s_Gate_check) l13 c13 k13).binds fun _ _ _ _ _ _ us hl => match us, hl with | [_, _], _ => rfl, ⟨a13, i13, k13⟩⟩
  have R14 : RawI K kRegister "Register.__init__" s_Register___init__ ["self", "gate"] := ⟨f14, _, fun_mk (st := s_Register___init__) l14 c14 k14, (fun_mk (st := s_Register___init__) l14 c14 k14).binds fun _ _ _ _ _ _ us hl => match us, hl with | [_, _], _ => rfl, ⟨oRegister_mk, a14, i14, oRegister_kp⟩⟩
  have R15 : RawM K kRegister "put" "Register.put" s_Register_put ["self", "sign"] := ⟨f15, _, fun_mk (st := s_Register_put) l15 c15 k15, (fun_mk (st := s_Register_put) l15 c15 k15).binds fun _ _ _ _ _ _ us hl => match us, hl with | [_, _], _ => rfl, ⟨a15, i15, k15⟩⟩
  have R16 : RawM K kRegister "anew" "Register.anew" s_Register_anew ["self"] := ⟨f16, _, fun_mk (st := s_Register_anew) l16 c16 k16, (fun_mk (st := s_Register_anew) l16 c16 k16).binds fun _ _ _ _ _ _ us hl => match us, hl with | [_], _ => rfl, ⟨a16, i16, k16⟩⟩
  have R17 : RawM K kRegister "joined" "Register.joined" s_Register_joined ["self", "other"] := ⟨f17, _, fun_mk (st := s_Register_joined) l17 c17 k17, (fun_mk (st := s_Register_joined) l17 c17 k17).binds fun _ _ _ _ _ _ us hl => match us, hl with | [_, _], _ => rfl, ⟨a17, i17, k17⟩⟩
  have R18 : RawM K kRegister "rest" "Register.rest" s_Register_rest ["self"] := ⟨f18, _, fun_mk (st := s_Register_rest) l18 c18 k18, (fun_mk (st := s_Register_rest) l18 c18 k18).binds fun _ _ _ _ _ _ us hl => match us, hl with | [_], _ => rfl, ⟨a18, i18, k18⟩⟩
  have R19 : RawM K kRegister "check" "Register.check" s_Register_check ["self"] := ⟨f19, _, fun_mk (st := s_Register_check) l19 c19 k19, (fun_mk (st := s_Register_check) l19 c19 k19).binds fun _ _ _ _ _ _ us hl => match us, hl with | [_], _ => rfl, ⟨a19, i19, k19⟩⟩
  have R20 : Raw K mg "_law_cell_at" "_law_cell_at" s__law_cell_at ["_law_script", "_law_k"] := ⟨f20, _, fun_mk (st := s__law_cell_at) l20 c20 k20, (fun_mk (st := s__law_cell_at) l20 c20 k20).binds fun _ _ _ _ _ _ us hl => match us, hl with | [_, _], _ => rfl, PySem.W.mg_of X G a20⟩
  have R21 : Raw K mg "_law_is_row" "_law_is_row" s__law_is_row ["_law_found", "_law_size"] := ⟨f21, _, fun_mk (st := s__law_is_row) l21 c21 k21, (fun_mk (st := s__law_is_row) l21 c21 k21).binds fun _ _ _ _ _ _ us hl => match us, hl with | [_, _], _ => rfl, PySem.W.mg_of X G a21⟩
  have R22 : Raw K mg "_law_step_by" "_law_step_by" s__law_step_by ["_law_rest", "_law_sign", "_law_divisor"] := ⟨f22, _, fun_mk (st := s__law_step_by) l22 c22 k22, (fun_mk (st := s__law_step_by) l22 c22 k22).binds fun _ _ _ _ _ _ us hl => match us, hl with | [_, _, _], _ => rfl, PySem.W.mg_of X G a22⟩
  have R23 : Raw K mg "_law_rest_by" "_law_rest_by" s__law_rest_by ["_law_row", "_law_divisor"] := ⟨f23, _, fun_mk (st := s__law_rest_by) l23 c23 k23, (fun_mk (st := s__law_rest_by) l23 c23 k23).binds fun _ _ _ _ _ _ us hl => match us, hl with | [_, _], _ => rfl, PySem.W.mg_of X G a23⟩
  have R24 : Raw K mg "_law_divisor_by" "_law_divisor_by" s__law_divisor_by ["_law_cell", "_law_bits"] := ⟨f24, _, fun_mk (st := s__law_divisor_by) l24 c24 k24, (fun_mk (st := s__law_divisor_by) l24 c24 k24).binds fun _ _ _ _ _ _ us hl => match us, hl with | [_, _], _ => rfl, PySem.W.mg_of X G a24⟩
  have R25 : Raw K mg "_law_reach_by" "_law_reach_by" s__law_reach_by ["_law_divisor"] := ⟨f25, _, fun_mk (st := s__law_reach_by) l25 c25 k25, (fun_mk (st := s__law_reach_by) l25 c25 k25).binds fun _ _ _ _ _ _ us hl => match us, hl with | [_], _ => rfl, PySem.W.mg_of X G a25⟩
  have R26 : Raw K mg "_law_stands" "_law_stands" s__law_stands ["_law_taker", "_law_many", "_law_due", "_law_divisor", "_law_held"] := ⟨f26, _, fun_mk (st := s__law_stands) l26 c26 k26, (fun_mk (st := s__law_stands) l26 c26 k26).binds fun _ _ _ _ _ _ us hl => match us, hl with | [_, _, _, _, _], _ => rfl, PySem.W.mg_of X G a26⟩
  have R27 : Raw K mg "_law_refused" "_law_refused" s__law_refused ["_law_taker", "_law_thing", "_law_puts"] := ⟨f27, _, fun_mk (st := s__law_refused) l27 c27 k27, (fun_mk (st := s__law_refused) l27 c27 k27).binds fun _ _ _ _ _ _ us hl => match us, hl with | [_, _, _], _ => rfl, PySem.W.mg_of X G a27⟩
  have R28 : Raw K mg "_law_other" "_law_other" s__law_other ["_law_cell", "_law_divisor"] := ⟨f28, _, fun_mk (st := s__law_other) l28 c28 k28, (fun_mk (st := s__law_other) l28 c28 k28).binds fun _ _ _ _ _ _ us hl => match us, hl with | [_, _], _ => rfl, PySem.W.mg_of X G a28⟩
  have R29 : Raw K mg "_law_stranger" "_law_stranger" s__law_stranger ["_law_cell", "_law_divisor"] := ⟨f29, _, fun_mk (st := s__law_stranger) l29 c29 k29, (fun_mk (st := s__law_stranger) l29 c29 k29).binds fun _ _ _ _ _ _ us hl => match us, hl with | [_, _], _ => rfl, PySem.W.mg_of X G a29⟩
  have R30 : Raw K mg "_law_went" "_law_went" s__law_went ["_law_due", "_law_row", "_law_divisor"] := ⟨f30, _, fun_mk (st := s__law_went) l30 c30 k30, (fun_mk (st := s__law_went) l30 c30 k30).binds fun _ _ _ _ _ _ us hl => match us, hl with | [_, _, _], _ => rfl, PySem.W.mg_of X G a30⟩
  have R31 : Raw K mg "_law_halves" "_law_halves" s__law_halves ["_law_number"] := ⟨f31, _, fun_mk (st := s__law_halves) l31 c31 k31, (fun_mk (st := s__law_halves) l31 c31 k31).binds fun _ _ _ _ _ _ us hl => match us, hl with | [_], _ => rfl, PySem.W.mg_of X G a31⟩
  have R32 : Raw K mg "_law_doubled" "_law_doubled" s__law_doubled ["_law_far_here", "_law_due", "_law_many", "_law_divisor", "_law_most"] := ⟨f32, _, fun_mk (st := s__law_doubled) l32 c32 k32, (fun_mk (st := s__law_doubled) l32 c32 k32).binds fun _ _ _ _ _ _ us hl => match us, hl with | [_, _, _, _, _], _ => rfl, PySem.W.mg_of X G a32⟩
  have R33 : Raw K mg "_law_far_ends" "_law_far_ends" s__law_far_ends ["_law_far_here", "_law_due", "_law_many", "_law_divisor", "_law_row", "_law_cell", "_law_held"] := ⟨f33, _, fun_mk (st := s__law_far_ends) l33 c33 k33, (fun_mk (st := s__law_far_ends) l33 c33 k33).binds fun _ _ _ _ _ _ us hl => match us, hl with | [_, _, _, _, _, _, _], _ => rfl, PySem.W.mg_of X G a33⟩
  have R34 : Raw K mg "_law_far" "_law_far" s__law_far ["_law_divisor", "_law_number", "_law_row", "_law_cell", "_law_held"] := ⟨f34, _, fun_mk (st := s__law_far) l34 c34 k34, (fun_mk (st := s__law_far) l34 c34 k34).binds fun _ _ _ _ _ _ us hl => match us, hl with | [_, _, _, _, _], _ => rfl, PySem.W.mg_of X G a34⟩
  have R35 : Raw K mg "_law_deeds" "_law_deeds" s__law_deeds ["_law_script", "_law_divisor", "_law_held"] := ⟨f35, _, fun_mk (st := s__law_deeds) l35 c35 k35, (fun_mk (st := s__law_deeds) l35 c35 k35).binds fun _ _ _ _ _ _ us hl => match us, hl with | [_, _, _], _ => rfl, PySem.W.mg_of X G a35⟩
  have R36 : Raw K mg "_law_kept" "_law_kept" s__law_kept ["_law_held"] := ⟨f36, _, fun_mk (st := s__law_kept) l36 c36 k36, (fun_mk (st := s__law_kept) l36 c36 k36).binds fun _ _ _ _ _ _ us hl => match us, hl with | [_], _ => rfl, PySem.W.mg_of X G a36⟩
  have T : Txt K mg ⟨0, x0, x1, x2, x3, x4, x5, x6, kGate, kRegister⟩ := ⟨⟨PySem.W.mg_of X G u0_1, u0_2, u0_3, u0_4, u0_5, u0_6, ⟨u0_8, u0_9, u0_4, u0_10, u0_11, q1, q2, u0_12⟩, u0_7⟩, ⟨PySem.W.mg_of X G u1_1, u1_2, u1_3, u1_4, u1_5, u1_6, ⟨u1_8, u1_9, u1_4, u1_10, u1_11, q1, q2, u1_12⟩, u1_7⟩, ⟨PySem.W.mg_of X G u2_1, u2_2, u2_3, u2_4, u2_5, u2_6, ⟨u2_8, u2_9, u2_4, u2_10, u2_11, q1, q2, u2_12⟩, u2_7⟩, ⟨PySem.W.mg_of X G u3_1, u3_2, u3_3, u3_4, u3_5, u3_6, ⟨u3_8, u3_9, u3_4, u3_10, u3_11, q1, q2, u3_12⟩, u3_7⟩, ⟨PySem.W.mg_of X G u4_1, u4_2, u4_3, u4_4, u4_5, u4_6, ⟨u4_8, u4_9, u4_4, u4_10, u4_11, q1, q2, u4_12⟩, u4_7⟩, ⟨PySem.W.mg_of X G u5_1, u5_2, u5_3, u5_4, u5_5, u5_6, ⟨u5_8, u5_9, u5_4, u5_10, u5_11, q1, q2, u5_12⟩, u5_7⟩, ⟨PySem.W.mg_of X G u6_1, u6_2, u6_3, u6_4, u6_5, u6_6, ⟨u6_8, u6_9, u6_4, u6_10, u6_11, q1, q2, u6_12⟩, u6_7⟩, ⟨⟨oGate_pg, oGate_hd, oGate_po, oGate_sa⟩, PySem.W.mg_of X G oGate_g⟩, oGate_n_reach, oGate_n_divisor, oGate_n_width, oGate_n_even, ⟨oGate_w1, oGate_w2, oGate_w3, oGate_w4, q1, q2, ⟨oGate_pg, oGate_hd, oGate_po, oGate_sa⟩⟩, ⟨⟨oRegister_pg, oRegister_hd, oRegister_po, oRegister_sa⟩, PySem.W.mg_of X G oRegister_g⟩, oRegister_n_gate, oRegister_n_many, oRegister_n__rest, ⟨oRegister_w1, oRegister_w2, oRegister_w3, oRegister_w4, q1, q2, ⟨oRegister_pg, oRegister_hd, oRegister_po, oRegister_sa⟩⟩, oRegister_b_NoneType, oRegister_b_list, oRegister_b_int, oRegister_b_str, oRegister_b_tuple, oRegister_b_bool, oRegister_o_Gate, oRegister_o_Register, p0_0, p0_2, p0_5, p0_6, p1_0, p1_2, p1_5, p1_6, p2_0, p2_2, p2_5, p2_6, p3_0, p3_2, p3_5, p3_6, p4_0, p4_2, p4_5, p4_6, p5_0, p5_2, p5_5, p5_6, p6_0, p6_2, p6_5, p6_6, PySem.W.mg_none_of X G z_ValueError, PySem.W.mg_none_of X G z_all, PySem.W.mg_none_of X G z_bool, PySem.W.mg_none_of X G z_int, PySem.W.mg_none_of X G z_isinstance, PySem.W.mg_none_of X G z_len, PySem.W.mg_none_of X G z_list, PySem.W.mg_none_of X G z_max, PySem.W.mg_none_of X G z_range, PySem.W.mg_none_of X G z_zip, ⟨_, PySem.W.mg_of X G v0⟩, ⟨_, PySem.W.mg_of X G v1⟩, ⟨_, PySem.W.mg_of X G v2⟩, R0, R1, R2, R3, R4, R5, R6, R7, R8, R9, R10, R11, R12, R13, R14, R15, R16, R17, R18, R19, R20, R21, R22, R23, R24, R25, R26, R27, R28, R29, R30, R31, R32, R33, R34, R35, R36⟩
  refine ⟨_, fun s v => .of_eq rfl, fun base _ _ => ok_law (fun_mk (st := s_law) l37 c37 k37) T⟩

end Cg
open PySem PySem.W PyProof.Rows in
set_option maxRecDepth 100000 in
set_option maxHeartbeats 0 in
theorem PySem.Challenge.cw_crcgate_k10_a_register_holds : PySem.Challenge.rw_crcgate_k10_a_register.Holds := by
  w_on; o_law; k_head; (case hw => w_witness2)
  k_fill
  refine L2.walk_of (l := PySem.Challenge.rw_crcgate_k10_a_register) (n := 63) (k := 13) (x := "_law_script") (CX := fun w => L2.CX PySem.Challenge.rw_crcgate_k10_a_register.prog w) (sp := fun w => Cg.sp_law _) rfl (by decide) rfl ⟨rfl, by decide, by decide⟩ (fun w h Y => PySem.W.kIn_of Y) ?F (fun _ _ a ns hl _ hS => ⟨a, ns, rfl, hS, hl, fun _ => rfl⟩) (fun _ _ _ _ _ z => Cg.cx_none z)
  case F =>
    intro w mg fa h KX G hmg
    refine' Cg.all_mk KX G hmg ?a0 ?l0 ?c0 ?k0 ?a1 ?l1 ?c1 ?k1 ?a2 ?l2 ?c2 ?k2 ?a3 ?l3 ?c3 ?k3 ?a4 ?l4 ?c4 ?k4 ?a5 ?l5 ?c5 ?k5 ?a6 ?l6 ?c6 ?k6 ?a7 ?l7 ?c7 ?k7 ?a8 ?l8 ?c8 ?k8 ?a9 ?l9 ?c9 ?k9 ?a10 ?i10 ?l10 ?c10 ?k10 ?a11 ?i11 ?l11 ?c11 ?k11 ?a12 ?i12 ?l12 ?c12 ?k12 ?a13 ?i13 ?l13 ?c13 ?k13 ?a14 ?i14 ?l14 ?c14 ?k14 ?a15 ?i15 ?l15 ?c15 ?k15 ?a16 ?i16 ?l16 ?c16 ?k16 ?a17 ?i17 ?l17 ?c17 ?k17 ?a18 ?i18 ?l18 ?c18 ?k18 ?a19 ?i19 ?l19 ?c19 ?k19 ?a20 ?l20 ?c20 ?k20 ?a21 ?l21 ?c21 ?k21 ?a22 ?l22 ?c22 ?k22 ?a23 ?l23 ?c23 ?k23 ?a24 ?l24 ?c24 ?k24 ?a25 ?l25 ?c25 ?k25 ?a26 ?l26 ?c26 ?k26 ?a27 ?l27 ?c27 ?k27 ?a28 ?l28 ?c28 ?k28 ?a29 ?l29 ?c29 ?k29 ?a30 ?l30 ?c30 ?k30 ?a31 ?l31 ?c31 ?k31 ?a32 ?l32 ?c32 ?k32 ?a33 ?l33 ?c33 ?k33 ?a34 ?l34 ?c34 ?k34 ?a35 ?l35 ?c35 ?k35 ?a36 ?l36 ?c36 ?k36 ?a37 ?l37 ?c37 ?k37 ?oGate_g ?oGate_pg ?oGate_hd ?oGate_po ?oGate_sa ?oGate_mk ?oGate_kp ?oGate_n_reach ?oGate_n_divisor ?oGate_n_width ?oGate_n_even ?oGate_w1 ?oGate_w2 ?oGate_w3 ?oGate_w4 ?oRegister_g ?oRegister_pg ?oRegister_hd ?oRegister_po ?oRegister_sa ?oRegister_mk ?oRegister_kp ?oRegister_n_gate ?oRegister_n_many ?oRegister_n__rest ?oRegister_w1 ?oRegister_w2 ?oRegister_w3 ?oRegister_w4 ?oRegister_b_NoneType ?oRegister_b_list ?oRegister_b_int ?oRegister_b_str ?oRegister_b_tuple ?oRegister_b_bool ?oRegister_o_Gate ?oRegister_o_Register ?u0_1 ?u0_2 ?u0_3 ?u0_4 ?u0_5 ?u0_6 ?u0_7 ?u0_8 ?u0_9 ?u0_10 ?u0_11 ?u0_12 ?u1_1 ?u1_2 ?u1_3 ?u1_4 ?u1_5 ?u1_6 ?u1_7 ?u1_8 ?u1_9 ?u1_10 ?u1_11 ?u1_12 ?u2_1 ?u2_2 ?u2_3 ?u2_4 ?u2_5 ?u2_6 ?u2_7 ?u2_8 ?u2_9 ?u2_10 ?u2_11 ?u2_12 ?u3_1 ?u3_2 ?u3_3 ?u3_4 ?u3_5 ?u3_6 ?u3_7 ?u3_8 ?u3_9 ?u3_10 ?u3_11 ?u3_12 ?u4_1 ?u4_2 ?u4_3 ?u4_4 ?u4_5 ?u4_6 ?u4_7 ?u4_8 ?u4_9 ?u4_10 ?u4_11 ?u4_12 ?u5_1 ?u5_2 ?u5_3 ?u5_4 ?u5_5 ?u5_6 ?u5_7 ?u5_8 ?u5_9 ?u5_10 ?u5_11 ?u5_12 ?u6_1 ?u6_2 ?u6_3 ?u6_4 ?u6_5 ?u6_6 ?u6_7 ?u6_8 ?u6_9 ?u6_10 ?u6_11 ?u6_12 ?q1 ?q2 ?p0_0 ?p0_2 ?p0_5 ?p0_6 ?p1_0 ?p1_2 ?p1_5 ?p1_6 ?p2_0 ?p2_2 ?p2_5 ?p2_6 ?p3_0 ?p3_2 ?p3_5 ?p3_6 ?p4_0 ?p4_2 ?p4_5 ?p4_6 ?p5_0 ?p5_2 ?p5_5 ?p5_6 ?p6_0 ?p6_2 ?p6_5 ?p6_6 ?z_ValueError ?z_all ?z_bool ?z_int ?z_isinstance ?z_len ?z_list ?z_max ?z_range ?z_zip ?v0 ?v1 ?v2
    (case oGate_g => k_is)
    (case oGate_pg => k_is)
    (case oGate_hd => k_is)
    (case oGate_po => k_is)
    (case oGate_sa => k_is)
    (case oGate_mk => k_is)
    (case oGate_kp => k_is)
    (case oGate_n_reach => k_is)
    (case oGate_n_divisor => k_is)
    (case oGate_n_width => k_is)
    (case oGate_n_even => k_is)
    (case oGate_w1 => k_is)
    (case oGate_w2 => k_is)
    (case oGate_w3 => k_is)
    (case oGate_w4 => k_is)
    (case oRegister_g => k_is)
    (case oRegister_pg => k_is)
    (case oRegister_hd => k_is)
    (case oRegister_po => k_is)
    (case oRegister_sa => k_is)
    (case oRegister_mk => k_is)
    (case oRegister_kp => k_is)
    (case oRegister_n_gate => k_is)
    (case oRegister_n_many => k_is)
    (case oRegister_n__rest => k_is)
    (case oRegister_w1 => k_is)
    (case oRegister_w2 => k_is)
    (case oRegister_w3 => k_is)
    (case oRegister_w4 => k_is)
    (case oRegister_b_NoneType => k_is)
    (case oRegister_b_list => k_is)
    (case oRegister_b_int => k_is)
    (case oRegister_b_str => k_is)
    (case oRegister_b_tuple => k_is)
    (case oRegister_b_bool => k_is)
    (case a0 => k_is)
    (case l0 => k_is)
    (case c0 => k_is)
    (case k0 => k_is)
    (case a1 => k_is)
    (case l1 => k_is)
    (case c1 => k_is)
    (case k1 => k_is)
    (case a2 => k_is)
    (case l2 => k_is)
    (case c2 => k_is)
    (case k2 => k_is)
    (case a3 => k_is)
    (case l3 => k_is)
    (case c3 => k_is)
    (case k3 => k_is)
    (case a4 => k_is)
    (case l4 => k_is)
    (case c4 => k_is)
    (case k4 => k_is)
    (case a5 => k_is)
    (case l5 => k_is)
    (case c5 => k_is)
    (case k5 => k_is)
    (case a6 => k_is)
    (case l6 => k_is)
    (case c6 => k_is)
    (case k6 => k_is)
    (case a7 => k_is)
    (case l7 => k_is)
    (case c7 => k_is)
    (case k7 => k_is)
    (case a8 => k_is)
    (case l8 => k_is)
    (case c8 => k_is)
    (case k8 => k_is)
    (case a9 => k_is)
    (case l9 => k_is)
    (case c9 => k_is)
    (case k9 => k_is)
    (case a10 => k_is)
    (case i10 => k_is)
    (case l10 => k_is)
    (case c10 => k_is)
    (case k10 => k_is)
    (case a11 => k_is)
    (case i11 => k_is)
    (case l11 => k_is)
    (case c11 => k_is)
    (case k11 => k_is)
    (case a12 => k_is)
    (case i12 => k_is)
    (case l12 => k_is)
    (case c12 => k_is)
    (case k12 => k_is)
    (case a13 => k_is)
    (case i13 => k_is)
    (case l13 => k_is)
    (case c13 => k_is)
    (case k13 => k_is)
    (case a14 => k_is)
    (case i14 => k_is)
    (case l14 => k_is)
    (case c14 => k_is)
    (case k14 => k_is)
    (case a15 => k_is)
    (case i15 => k_is)
    (case l15 => k_is)
    (case c15 => k_is)
    (case k15 => k_is)
    (case a16 => k_is)
    (case i16 => k_is)
    (case l16 => k_is)
    (case c16 => k_is)
    (case k16 => k_is)
    (case a17 => k_is)
    (case i17 => k_is)
    (case l17 => k_is)
    (case c17 => k_is)
    (case k17 => k_is)
    (case a18 => k_is)
    (case i18 => k_is)
    (case l18 => k_is)
    (case c18 => k_is)
    (case k18 => k_is)
    (case a19 => k_is)
    (case i19 => k_is)
    (case l19 => k_is)
    (case c19 => k_is)
    (case k19 => k_is)
    (case a20 => k_is)
    (case l20 => k_is)
    (case c20 => k_is)
    (case k20 => k_is)
    (case a21 => k_is)
    (case l21 => k_is)
    (case c21 => k_is)
    (case k21 => k_is)
    (case a22 => k_is)
    (case l22 => k_is)
    (case c22 => k_is)
    (case k22 => k_is)
    (case a23 => k_is)
    (case l23 => k_is)
    (case c23 => k_is)
    (case k23 => k_is)
    (case a24 => k_is)
    (case l24 => k_is)
    (case c24 => k_is)
    (case k24 => k_is)
    (case a25 => k_is)
    (case l25 => k_is)
    (case c25 => k_is)
    (case k25 => k_is)
    (case a26 => k_is)
    (case l26 => k_is)
    (case c26 => k_is)
    (case k26 => k_is)
    (case a27 => k_is)
    (case l27 => k_is)
    (case c27 => k_is)
    (case k27 => k_is)
    (case a28 => k_is)
    (case l28 => k_is)
    (case c28 => k_is)
    (case k28 => k_is)
    (case a29 => k_is)
    (case l29 => k_is)
    (case c29 => k_is)
    (case k29 => k_is)
    (case a30 => k_is)
    (case l30 => k_is)
    (case c30 => k_is)
    (case k30 => k_is)
    (case a31 => k_is)
    (case l31 => k_is)
    (case c31 => k_is)
    (case k31 => k_is)
    (case a32 => k_is)
    (case l32 => k_is)
    (case c32 => k_is)
    (case k32 => k_is)
    (case a33 => k_is)
    (case l33 => k_is)
    (case c33 => k_is)
    (case k33 => k_is)
    (case a34 => k_is)
    (case l34 => k_is)
    (case c34 => k_is)
    (case k34 => k_is)
    (case a35 => k_is)
    (case l35 => k_is)
    (case c35 => k_is)
    (case k35 => k_is)
    (case a36 => k_is)
    (case l36 => k_is)
    (case c36 => k_is)
    (case k36 => k_is)
    (case a37 => k_is)
    (case l37 => k_is)
    (case c37 => k_is)
    (case k37 => k_is)
    (case oRegister_o_Gate => first | rfl | k_is)
    (case oRegister_o_Register => first | rfl | k_is)
    (case u0_1 => k_is)
    (case u0_2 => k_exc)
    (case u0_3 => k_is)
    (case u0_4 => k_is)
    (case u0_5 => k_is)
    (case u0_6 => k_is)
    (case u0_7 => k_is)
    (case u0_8 => k_is)
    (case u0_9 => k_is)
    (case u0_10 => k_is)
    (case u0_11 => k_is)
    (case u0_12 => k_is)
    (case u1_1 => k_is)
    (case u1_2 => k_exc)
    (case u1_3 => k_is)
    (case u1_4 => k_is)
    (case u1_5 => k_is)
    (case u1_6 => k_is)
    (case u1_7 => k_is)
    (case u1_8 => k_is)
    (case u1_9 => k_is)
    (case u1_10 => k_is)
    (case u1_11 => k_is)
    (case u1_12 => k_is)
    (case u2_1 => k_is)
    (case u2_2 => k_exc)
    (case u2_3 => k_is)
    (case u2_4 => k_is)
    (case u2_5 => k_is)
    (case u2_6 => k_is)
    (case u2_7 => k_is)
    (case u2_8 => k_is)
    (case u2_9 => k_is)
    (case u2_10 => k_is)
    (case u2_11 => k_is)
    (case u2_12 => k_is)
    (case u3_1 => k_is)
    (case u3_2 => k_exc)
    (case u3_3 => k_is)
    (case u3_4 => k_is)
    (case u3_5 => k_is)
    (case u3_6 => k_is)
    (case u3_7 => k_is)
    (case u3_8 => k_is)
    (case u3_9 => k_is)
    (case u3_10 => k_is)
    (case u3_11 => k_is)
    (case u3_12 => k_is)
    (case u4_1 => k_is)
    (case u4_2 => k_exc)
    (case u4_3 => k_is)
    (case u4_4 => k_is)
    (case u4_5 => k_is)
    (case u4_6 => k_is)
    (case u4_7 => k_is)
    (case u4_8 => k_is)
    (case u4_9 => k_is)
    (case u4_10 => k_is)
    (case u4_11 => k_is)
    (case u4_12 => k_is)
    (case u5_1 => k_is)
    (case u5_2 => k_exc)
    (case u5_3 => k_is)
    (case u5_4 => k_is)
    (case u5_5 => k_is)
    (case u5_6 => k_is)
    (case u5_7 => k_is)
    (case u5_8 => k_is)
    (case u5_9 => k_is)
    (case u5_10 => k_is)
    (case u5_11 => k_is)
    (case u5_12 => k_is)
    (case u6_1 => k_is)
    (case u6_2 => k_exc)
    (case u6_3 => k_is)
    (case u6_4 => k_is)
    (case u6_5 => k_is)
    (case u6_6 => k_is)
    (case u6_7 => k_is)
    (case u6_8 => k_is)
    (case u6_9 => k_is)
    (case u6_10 => k_is)
    (case u6_11 => k_is)
    (case u6_12 => k_is)
    (case q1 => k_is)
    (case q2 => k_is)
    (case p0_0 => first | rfl | k_is)
    (case p0_2 => first | rfl | k_is)
    (case p0_5 => first | rfl | k_is)
    (case p0_6 => first | rfl | k_is)
    (case p1_0 => first | rfl | k_is)
    (case p1_2 => first | rfl | k_is)
    (case p1_5 => first | rfl | k_is)
    (case p1_6 => first | rfl | k_is)
    (case p2_0 => first | rfl | k_is)
    (case p2_2 => first | rfl | k_is)
    (case p2_5 => first | rfl | k_is)
    (case p2_6 => first | rfl | k_is)
    (case p3_0 => first | rfl | k_is)
    (case p3_2 => first | rfl | k_is)
    (case p3_5 => first | rfl | k_is)
    (case p3_6 => first | rfl | k_is)
    (case p4_0 => first | rfl | k_is)
    (case p4_2 => first | rfl | k_is)
    (case p4_5 => first | rfl | k_is)
    (case p4_6 => first | rfl | k_is)
    (case p5_0 => first | rfl | k_is)
    (case p5_2 => first | rfl | k_is)
    (case p5_5 => first | rfl | k_is)
    (case p5_6 => first | rfl | k_is)
    (case p6_0 => first | rfl | k_is)
    (case p6_2 => first | rfl | k_is)
    (case p6_5 => first | rfl | k_is)
    (case p6_6 => first | rfl | k_is)
    (case z_ValueError => k_is)
    (case z_all => k_is)
    (case z_bool => k_is)
    (case z_int => k_is)
    (case z_isinstance => k_is)
    (case z_len => k_is)
    (case z_list => k_is)
    (case z_max => k_is)
    (case z_range => k_is)
    (case z_zip => k_is)
    (case v0 => k_is)
    (case v1 => k_is)
    (case v2 => k_is)
