import PyProof.Rows.All
import Wide.All
import OpenK.AllK
import Wide.FinOn
import HandS.ForMost
import HandS.ForExc
import HandS.IsInst
import HandS.Zip
import HandS.Evl
import HandS.ExcIs
import PySem.Challenge.RW_crcgate_k01_a_sum
set_option Elab.async false
set_option linter.all false
set_option maxRecDepth 100000
set_option maxHeartbeats 4000000
/-! ## Pre: our own words over the hand layer: rows of iv, defs of the top -/
namespace Cg
open PySem PySem.Spec PyProof.Rows L2 Evl

abbrev iv (ns : List Int) : List V := ns.map V.int
theorem iv_len (ns : List Int) : (iv ns).length = ns.length := List.length_map ..
theorem iv_at {ns : List Int} {i : Nat} {x : V} (h : (iv ns)[i]? = some x) : ∃ n, ns[i]? = some n ∧ x = V.int n := by
  rw [List.getElem?_map] at h
  cases e : ns[i]? with
  | none => rw [e] at h; cases h
  | some n => rw [e] at h; exact ⟨n, rfl, (Option.some.inj h).symm⟩
theorem iv_get {ns : List Int} {i : Nat} {n : Int} (h : ns[i]? = some n) : (iv ns)[i]? = some (V.int n) := by
  rw [List.getElem?_map, h]; rfl
theorem iv_inj {xs ys : List Int} (h : iv xs = iv ys) : xs = ys := by
  induction xs generalizing ys with
  | nil => cases ys with
    | nil => rfl
    | cons y r => cases h
  | cons x r ih => cases ys with
    | nil => cases h
    | cons y s =>
      have e1 : V.int x = V.int y := (List.cons.inj h).1
      have e2 : iv r = iv s := (List.cons.inj h).2
      rw [V.int.inj e1, ih e2]

theorem b_list : bootBuiltins "list" = some (.type "list") := by decide +kernel
theorem b_int : bootBuiltins "int" = some (.type "int") := by decide +kernel
theorem b_bool : bootBuiltins "bool" = some (.type "bool") := by decide +kernel
theorem b_str : bootBuiltins "str" = some (.type "str") := by decide +kernel
theorem b_tuple : bootBuiltins "tuple" = some (.type "tuple") := by decide +kernel
theorem b_ValueError : bootBuiltins "ValueError" = some (.type "ValueError") := by decide +kernel
theorem b_len : bootBuiltins "len" = some (.builtin "len") := PySem.boot_len
theorem b_isinstance : bootBuiltins "isinstance" = some (.builtin "isinstance") := by decide +kernel
theorem b_max : bootBuiltins "max" = some (.builtin "max") := by decide +kernel
theorem b_min : bootBuiltins "min" = some (.builtin "min") := by decide +kernel
theorem b_all : bootBuiltins "all" = some (.builtin "all") := by decide +kernel
theorem b_sum : bootBuiltins "sum" = some (.builtin "sum") := by decide +kernel
theorem b_ord : bootBuiltins "ord" = some (.builtin "ord") := by decide +kernel
theorem b_chr : bootBuiltins "chr" = some (.builtin "chr") := by decide +kernel
def rInt1 : List V → Hp → VK → Prop := fun xs H Q => (∃ i, xs = [.int i] ∧ Q (.int i) H) ∨ ∃ k, xs = [.bl k] ∧ Q (.int (if k then 1 else 0)) H
def rMin2 : List V → Hp → VK → Prop := fun xs H Q => ∃ i j, xs = [.int i, .int j] ∧ Q (.int (if j < i then j else i)) H
/-! ### defs of the top -/
def Raw (K : PySem.W.Frag) (mg : Str → Option Value) (name qual : Str) (st : Stmt) (ps : List Str) : Prop := ∃ f fd, Fun K name qual st f fd ∧ Binds K fd ps [] ∧ mg name = some (.ref f)
def Has (P : Program) (w : World) (K : PySem.W.Frag) (mg : Str → Option Value) (base : Heap) (k : Nat) (name : Str) (ps : List Str) (sp : Sp) : Prop :=
  ∃ f fd, FnOk P w K mg base (L2.CX P w) k f fd ps sp ∧ mg name = some (.ref f) ∧ PySem.W.keepIn K (.ref f) = true ∧ Binds K fd ps []
section
variable {P : Program} {w : World} {K : PySem.W.Frag} {mg : Str → Option Value} {base : Heap}
theorem Raw.ok {x qual : Str} {st : Stmt} {N ps : List Str} {k : Nat} {sp : Sp} (R : Raw K mg x qual st ps) (S : FnScope N ps (defScope st)) (len : ∀ vs H Q E, sp vs H Q E → vs.length = ps.length)
    (hbody : ∀ (f : Addr) (cdv : Value) (A : Around) (outer : List Env) (s : Shared) (H : Hp) (vs : List V) (Q : VK) (E : XK), Room k (A.deeper (envOfC qual (defScope st) s.heap.objs.size f cdv)) → sp vs H Q E →
      ∃ t, PSs (cxOf (L2.CX P w) P w K mg base N qual (defScope st) f cdv A outer s H E) (defBody st) t ∧ t { nx := fun _ H' => Q .non H', rt := Q } (start N vs) H) : Has P w K mg base (k + 1) x ps sp := by
  obtain ⟨f, fd, F, b, g⟩ := R
  exact ⟨f, fd, F.okX S len fun cdv A outer s H vs Q E hr h => hbody f cdv A outer s H vs Q E hr h, g, F.kp, b⟩
end
section
variable {X : Cx} {k : Nat} {ps : List Str} {sp : Sp} {E : XK} {x : Str} {p pos : Pos} {e : Expr} {es : List Expr} {t : TA}
theorem pe_callH (F : Has X.prog X.w X.K X.mg X.base k x ps sp) (hr : Room k X.A) (hx : Passes (L2.CX X.prog X.w) X E) (ha : PA X (e :: es) t) (hg : Gl X x := by rfl) (hdb : (x == ("__debug__" : Str)) = false := by decide)
    (he : starEach (e :: es) X.env = (false, eval e X.env) :: starEach es X.env := by rfl) (hpl : (backTo pos (starEach es X.env)).any (·.1) = false := by rfl) : PE X (.Call (.Name x p) (e :: es) [] pos) (tCall sp [] E t) := by
  obtain ⟨f, fd, F, g, kp, b⟩ := F
  exact pe_call F hr hg g kp b .nil hx ha hdb he hpl
end

theorem op_eqII : OpR X (compareOp .Eq) (rI0 fun i j => .bl (decide (i = j))) := opB0 fun _ _ _ _ _ _ _ q => eq_int (by rw [Bool.beq_eq_decide_eq]; exact q)
theorem op_neII : OpR X (compareOp .NotEq) (rI0 fun i j => .bl (!decide (i = j))) := opB0 fun _ _ _ _ _ _ _ q => ne_int (by rw [bne, Bool.beq_eq_decide_eq]; exact q)

theorem kk_isi (K) (h : X.K = K := by rfl) : CallR X (.builtin "isinstance") (rIsi K) := h ▸ call_isi
theorem kk_len (K) (h : X.K = K := by rfl) : CallR X (.builtin "len") (rLenS K) := h ▸ call_len_seq
theorem kk_list (K) (h : X.K = K := by rfl) : CallR X (.type "list") (rListS K) := h ▸ call_list_of
theorem kk_all (K) (hc : X.calm = true) (h : X.K = K := by rfl) : CallR X (.builtin "all") (rAll K) := h ▸ cr_all hc
theorem kk_sum (K) (hc : X.calm = true) (h : X.K = K := by rfl) : CallR X (.builtin "sum") (rSum K) := h ▸ cr_sum hc
theorem kk_int : CallR X (.type "int") rInt1 := call_int1
theorem kk_max (hc : X.calm = true) : CallR X (.builtin "max") rMax2 := call_max2 hc
theorem kk_min (hc : X.calm = true) : CallR X (.builtin "min") rMin2 := call_min2 hc
theorem kk_ixl (K) (h : X.K = K := by rfl) : IxR X (rIxL K) := h ▸ ix_list
theorem kk_ixt (K) (h : X.K = K := by rfl) : IxR X (rIxT K) := h ▸ ix_tup
theorem kk_sl (K) (h : X.K = K := by rfl) : SlR X (rSlL K) := h ▸ sl_list
theorem kk_in (K) (h : X.K = K := by rfl) : OpR X (compareOp .In) (rIn K false) := h ▸ op_in_seq
theorem kk_ni (K) (h : X.K = K := by rfl) : OpR X (compareOp .NotIn) (rIn K true) := h ▸ op_notIn_seq
theorem kk_eqD (K) (hu : X.A.units + 64 < cLine) (h : X.K = K := by rfl) : OpR X (compareOp .Eq) (rEqD K) := h ▸ op_eqD hu
theorem kk_neD (K) (hu : X.A.units + 64 < cLine) (h : X.K = K := by rfl) : OpR X (compareOp .NotEq) (rNeD K) := h ▸ op_neD hu

theorem cx_none {P : Program} {w : World} {H : Hp} {s : Shared} {e : Value} {s' : Shared} (z : L2.CX P w [] H s (fun _ _ _ => False) e s') : False := by
  obtain ⟨_, _, _, _, _, _, _, _, _, _, _, _, q⟩ := z
  exact q.elim
theorem pe_globI {X : Cx} {x : Str} {n : Int} {pos : Pos} (h : ∃ t, X.mg x = some (.int n t)) (hg : Gl X x := by rfl) (hd : (x == ("__debug__" : Str)) = false := by decide) : PE X (.Name x pos) (tC (.int n)) := by
  obtain ⟨t, h⟩ := h
  exact pe_glob hg h ⟨t, rfl⟩ hd
/-! ### errors of the program -/
abbrev veBase : List Value := [.type "ValueError", .type "Exception", .type "BaseException", .type "object"]
structure ExcT (K : PySem.W.Frag) (mg : Str → Option Value) (x : Str) (C : Addr) : Prop where
  g : mg x = some (.ref C)
  x : PySem.W.excIn K C veBase "ValueError.__new__" = true
  k : PySem.W.keepIn K (.ref C) = true
  b : PySem.W.subIn K (.ref C) (.type "BaseException") = some true
  t : PySem.W.typeIn K (.ref C) = some (.type "type")
  i : PySem.W.isClsIn K C = true
  c : ExcC K C
  v : PySem.W.subIn K (.ref C) (.type "ValueError") = some true
theorem ExcT.r {X : Cx} {x : Str} {C : Addr} (E : ExcT X.K X.mg x C) : Raises X (.ref C) := raises_own E.b E.t
theorem ExcT.exm {K : PySem.W.Frag} {mg : Str → Option Value} {x : Str} {C : Addr} {cls : Value} {b : Bool} (E : ExcT K mg x C) (h : PySem.W.subIn K cls (.ref C) = some b) : PySem.W.exmOne K cls (.ref C) = some b := PySem.W.exm_ref E.b E.c.hd E.t h
theorem ExcT.kitV {K : PySem.W.Frag} {mg : Str → Option Value} {x : Str} {C : Addr} (E : ExcT K mg x C) : PySem.W.kitOne K (.ref C) (.type "ValueError") = some true := by
  have m : PySem.W.kitMeta "ValueError" = true := by decide +kernel
  have n : ((Value.ref C : Value) == .type "ValueError") = false := rfl
  unfold PySem.W.kitOne
  rw [n]
  unfold PySem.W.kitCls
  rw [if_neg Bool.false_ne_true]
  show (if PySem.W.kitMeta "ValueError" = true then PySem.W.subIn K (.ref C) (.type "ValueError") else none) = some true
  rw [if_pos m]
  exact E.v
theorem ExcT.kit {K : PySem.W.Frag} {mg : Str → Option Value} {x : Str} {C D : Addr} {b : Bool} (E : ExcT K mg x C) (h : PySem.W.subIn K (.ref D) (.ref C) = some b) (ne : b = false → C ≠ D) : PySem.W.kitOne K (.ref D) (.ref C) = some b := by
  unfold PySem.W.kitOne
  by_cases e : D = C
  · subst e
    have z : ((Value.ref D : Value) == .ref D) = true := by simp
    rw [z, if_pos rfl]
    cases b with
    | true => rfl
    | false => exact absurd rfl (ne rfl)
  · have z : ((Value.ref D : Value) == .ref C) = false := by simpa using e
    rw [z, if_neg Bool.false_ne_true]
    unfold PySem.W.kitCls
    have e2 : ((PySem.W.clsIn K C).isSome && PySem.W.typeIn K (.ref C) == some (.type "type")) = true := by
      have h2' : (PySem.W.clsIn K C).isSome = true := E.i
      rw [h2', E.t] <;> rfl
    show (if ((PySem.W.clsIn K C).isSome && PySem.W.typeIn K (.ref C) == some (.type "type")) = true then PySem.W.subIn K (.ref D) (.ref C) else none) = some b
    rw [if_pos e2]
    exact h
/-- isinstance(e, c) in an except suite -/
def rIsX (K : PySem.W.Frag) (a : Addr) (cls : Value) (d : Option Addr) : List V → Hp → VK → Prop := fun xs H Q => ∃ D, cls = .ref D ∧ d = none ∧ ExcC K D ∧ rIsE K D a xs H Q
theorem call_isX {X : Cx} {a : Addr} {cls : Value} {d : Option Addr} {oe : Obj} {pn : List (Addr × Obj)} (hz : Zc cls d oe) (hf : ∃ vs, oe.data = .fields vs) : CallR (X.suite a ((a, oe) :: pn)) (.builtin "isinstance") (rIsX X.K a cls d) := by
  intro pins s σ H xs us Q I r h
  obtain ⟨D, rfl, rfl, C, h⟩ := h
  exact call_isE C hz hf pins s σ H xs us Q I r h
section
variable {X : Cx} {k : Nat} {ps : List Str} {sp : Sp} {E : L2.St → XK} {x : Str} {p pos : Pos} {e : Expr} {es : List Expr} {t : TA}
theorem pe_callHS (F : Has X.prog X.w X.K X.mg X.base k x ps sp) (hr : Room k X.A) (hx : ∀ σ, PassesAt (L2.CX X.prog X.w) X σ (E σ)) (ha : PA X (e :: es) t) (hg : Gl X x := by rfl) (hdb : (x == ("__debug__" : Str)) = false := by decide)
    (he : starEach (e :: es) X.env = (false, eval e X.env) :: starEach es X.env := by rfl) (hpl : (backTo pos (starEach es X.env)).any (·.1) = false := by rfl) : PE X (.Call (.Name x p) (e :: es) [] pos) (tCallS sp E t) := by
  obtain ⟨f, fd, F, g, kp, b⟩ := F
  exact pe_callS F hr hg g kp b hx ha hdb he hpl
end
/-! ### what evaluates to what: a list, new or old -/
def EvR (te : TE) (σ : L2.St) (H : Hp) (xs : List V) : Prop := ∀ H1, Ex H H1 → ∀ Q : VK, (∀ p H2, Ex H1 H2 → H2 p = some (.lst xs) → Q (.ref p) H2) → te σ H1 Q
section
variable {K : PySem.W.Frag} {σ : L2.St} {H H' : Hp} {ta tb te tx : TE} {t u : TT} {x y z v : V} {r : R2} {xs ys : List V}
theorem Ex.at {a : Addr} {o : HO} (e : Ex H H') (h : H a = some o) : H' a = some o := e a o h
theorem er_var {i : Nat} {a : Addr} (h : σ[i]? = some (some (.ref a))) (hl : H a = some (.lst xs)) : EvR (tVar i) σ H xs := fun H1 e _ q => ⟨_, h, q a H1 (Ex.refl H1) (e _ _ hl)⟩
theorem er_ev {a : Addr} (h : Ev te σ H (.ref a)) (hl : H a = some (.lst xs)) : EvR te σ H xs := fun H1 e Q q => h H1 e Q fun H2 e2 => q a H2 e2 (e2 _ _ (e _ _ hl))
theorem er_L (h : EvL te σ H xs) : EvR te σ H xs := fun H1 e Q q => h H1 e Q fun p H2 _ e2 h2 => q p H2 e2 h2
theorem EvR.is (h : EvR te σ H xs) (e : xs = ys) : EvR te σ H ys := e ▸ h
theorem el_is (h : EvL te σ H xs) (e : xs = ys) : EvL te σ H ys := e ▸ h
theorem el_cat (ha : EvR ta σ H xs) (hb : EvR tb σ H ys) (hz : xs.length + ys.length ≤ 10000000) : EvL (tOp rCat ta tb) σ H (xs ++ ys) := fun H1 e Q q =>
  ha H1 e _ fun a H2 e2 h2 => hb H2 (e.trans e2) _ fun b H3 e3 h3 => ⟨a, b, xs, ys, rfl, rfl, e3 _ _ h2, h3, Nat.le_trans hz (by decide), fun p hp => q p _ (fresh_back (e2.trans e3) hp) ((e2.trans e3).trans (Ex.new hp)) upd_same⟩
theorem el_rep {k : Int} {x : V} (ha : EvR ta σ H [x]) (hb : Ev tb σ H (.int k)) (hk : k ≤ 10000000 ∧ -10000000 ≤ k) : EvL (tOp rRep ta tb) σ H (List.replicate k.toNat x) := fun H1 e Q q =>
  ha H1 e _ fun a H2 e2 h2 => hb H2 (e.trans e2) _ fun H3 e3 => ⟨a, k, [x], rfl, rfl, e3 _ _ h2, by omega, by omega, by
    show [x].length * k.toNat ≤ 2 ^ 24
    rw [List.length_singleton]; omega, fun p hp => by
    have z : (List.replicate k.toNat [x]).flatten = List.replicate k.toNat x := by
      generalize k.toNat = n
      induction n with
      | zero => rfl
      | succ n ih => rw [List.replicate_succ, List.replicate_succ, List.flatten_cons, ih]; rfl
    refine q p _ (fresh_back (e2.trans e3) hp) ((e2.trans e3).trans (Ex.new hp)) ?_
    rw [z]
    exact upd_same⟩
theorem ev_lenR (ha : EvR ta σ H xs) : Ev (tCB (rLenS K) (tCons ta tNil)) σ H (.int (xs.length : Int)) := fun H1 e Q q =>
  ha H1 e _ fun p H2 e2 h2 => ⟨p, xs, rfl, Or.inl (sq_of h2), q H2 e2⟩
theorem el_listR (ha : EvR ta σ H xs) : EvL (tCB (rListS K) (tCons ta tNil)) σ H xs := fun H1 e Q q =>
  ha H1 e _ fun p H2 e2 h2 => ⟨p, xs, rfl, Or.inl (sq_of h2), fun l hl => q l _ (fresh_back e2 hl) (e2.trans (Ex.new hl)) upd_same⟩
theorem ev_ixR {i : Int} (ha : EvR ta σ H xs) (hb : Ev tb σ H (.int i)) (hv : atI xs i = some v) : Ev (tOp (rIxL K) ta tb) σ H v := fun H1 e Q q =>
  ha H1 e _ fun p H2 e2 h2 => hb H2 (e.trans e2) _ fun H3 e3 => ⟨p, xs, i, v, rfl, rfl, sq_of (e3 _ _ h2), hv, q H3 (e2.trans e3)⟩
theorem el_slR {tl th : TO} {lo hi : Option Int} (h : EvR te σ H xs) (h1 : EvO tl σ H lo) (h2 : EvO th σ H hi) : EvL (tSl (rSlL K) te tl th) σ H (cutV xs lo hi) := fun H1 e _ q =>
  h H1 e _ fun a H2 e2 hs => h1 H2 (e.trans e2) _ fun H3 e3 => h2 H3 ((e.trans e2).trans e3) _ fun H4 e4 =>
    ⟨a, xs, rfl, sq_of ((e3.trans e4) _ _ hs), fun p hp => q p _ (fresh_back ((e2.trans e3).trans e4) hp) (((e2.trans e3).trans e4).trans (Ex.new hp)) upd_same⟩
theorem ev_sumR {ns : List Int} (ha : EvR ta σ H (iv ns)) : Ev (tCB (rSum K) (tCons ta tNil)) σ H (.int ns.sum) := fun H1 e Q q =>
  ha H1 e _ fun p H2 e2 h2 => ⟨p, ns, rfl, sq_of h2, q H2 e2⟩
theorem ev_allR {bs : List Bool} (ha : EvR ta σ H (bs.map V.bl)) : Ev (tCB (rAll K) (tCons ta tNil)) σ H (.bl (bs.all id)) := fun H1 e Q q =>
  ha H1 e _ fun p H2 e2 h2 => ⟨p, bs, rfl, sq_of h2, q H2 e2⟩
theorem dpAll_iv : ∀ (ns : List Int), DpAll K H (iv ns) (ns.map PyData.int)
  | [] => .nil
  | n :: r => .cons (.int n) (dpAll_iv r)
theorem dp_row {a : Addr} {ns : List Int} (h : H a = some (.lst (iv ns))) : Dp K H (.ref a) (.list (ns.map PyData.int)) := .lst (sq_of h) (dpAll_iv ns)
theorem shaped_row (ns : List Int) : SeqAt.shaped (.list (ns.map PyData.int)) = true := by
  induction ns with
  | nil => rfl
  | cons n r ih => exact ih
theorem eqv_rows (xs ys : List Int) : PyData.eqv (.list (xs.map PyData.int)) (.list (ys.map PyData.int)) = decide (xs = ys) := by
  rw [PyData.eqv]
  induction xs generalizing ys with
  | nil => cases ys with
    | nil => rfl
    | cons y r => rfl
  | cons x r ih => cases ys with
    | nil => rfl
    | cons y t =>
      rw [List.map_cons, List.map_cons, PyData.eqvAll, ih, PyData.eqv]
      by_cases h1 : x = y
      · subst h1
        by_cases h2 : r = t
        · subst h2; simp
        · simp [h2]
      · simp [h1]
theorem ev_eqR {xs ys : List Int} (ha : EvR ta σ H (iv xs)) (hb : EvR tb σ H (iv ys)) : Ev (tOp (rEqD K) ta tb) σ H (.bl (decide (xs = ys))) := fun H1 e Q q =>
  ha H1 e _ fun p H2 e2 h2 => hb H2 (e.trans e2) _ fun p' H3 e3 h3 => ⟨_, _, dp_row (e3 _ _ h2), dp_row h3, shaped_row _, shaped_row _, by
    rw [eqv_rows]
    exact q H3 (e2.trans e3)⟩
theorem ev_neR {xs ys : List Int} (ha : EvR ta σ H (iv xs)) (hb : EvR tb σ H (iv ys)) : Ev (tOp (rNeD K) ta tb) σ H (.bl (!decide (xs = ys))) := fun H1 e Q q =>
  ha H1 e _ fun p H2 e2 h2 => hb H2 (e.trans e2) _ fun p' H3 e3 h3 => ⟨_, _, dp_row (e3 _ _ h2), dp_row h3, shaped_row _, shaped_row _, by
    rw [eqv_rows]
    exact q H3 (e2.trans e3)⟩
theorem inV_iv (x : Int) (ns : List Int) : inV (.int x) (iv ns) = decide (x ∈ ns) := by
  induction ns with
  | nil => rfl
  | cons n r ih =>
    show (eqV (V.int n) (V.int x) || inV (.int x) (iv r)) = _
    rw [ih]
    show (n == x || decide (x ∈ r)) = _
    by_cases h : n = x
    · subst h; simp
    · have h' : ¬ x = n := fun e => h e.symm
      simp [h, h']
theorem flat_iv (ns : List Int) : (iv ns).all flatV = true := by
  induction ns with
  | nil => rfl
  | cons n r ih => exact ih
theorem ev_inR {i : Int} {ns : List Int} (ha : Ev ta σ H (.int i)) (hb : EvR tb σ H (iv ns)) : Ev (tOp (rIn K false) ta tb) σ H (.bl (decide (i ∈ ns))) := fun H1 e Q q =>
  ha H1 e _ fun H2 e2 => hb H2 (e.trans e2) _ fun p H3 e3 h3 => ⟨p, _, rfl, Or.inl (sq_of h3), rfl, flat_iv ns, by
    rw [if_neg (by decide), inV_iv]
    exact q H3 (e2.trans e3)⟩
theorem ev_niR {i : Int} {ns : List Int} (ha : Ev ta σ H (.int i)) (hb : EvR tb σ H (iv ns)) : Ev (tOp (rIn K true) ta tb) σ H (.bl (!decide (i ∈ ns))) := fun H1 e Q q =>
  ha H1 e _ fun H2 e2 => hb H2 (e.trans e2) _ fun p H3 e3 h3 => ⟨p, _, rfl, Or.inl (sq_of h3), rfl, flat_iv ns, by
    rw [if_pos rfl, inV_iv]
    exact q H3 (e2.trans e3)⟩
theorem ev_isi {n : String} {tv : Value} {b : Bool} (ha : Ev ta σ H x) (ht : TyX K H x tv) (hm : ∀ H1, Ex H H1 → TyX K H1 x tv) (hb : PySem.W.kitOne K tv (.type n) = some b) : Ev (tCB (rIsi K) (tCons ta (tCons (tC (.ty n)) tNil))) σ H (.bl b) := fun H1 e Q q =>
  ha H1 e _ fun H2 e2 => ⟨x, .ty n, tv, .type n, b, rfl, .ty n, hm H2 (e.trans e2), hb, q H2 e2⟩
def tyName : V → Option String
  | .non => some "NoneType" | .bl _ => some "bool" | .int _ => some "int" | .str _ => some "str" | _ => none
theorem tyx_flat {s : String} (h : tyName x = some s) : TyX K H x (.type s) := by
  cases x with
  | non => cases h; exact .base .non
  | bl b => cases h; exact .base (.bl b)
  | int i => cases h; exact .base (.int i)
  | str z => cases h; exact .base (.str z)
  | byt _ => cases h
  | flt _ => cases h
  | ref _ => cases h
  | ty _ => cases h
theorem kit_list_list : kitB "list" "list" = some true := by decide +kernel
theorem kit_int_int : kitB "int" "int" = some true := by decide +kernel
theorem kit_int_bool : kitB "int" "bool" = some false := by decide +kernel
theorem kit_bool_int : kitB "bool" "int" = some true := by decide +kernel
theorem kit_bool_bool : kitB "bool" "bool" = some true := by decide +kernel
theorem kit_str_str : kitB "str" "str" = some true := by decide +kernel
theorem kit_list_int : kitB "list" "int" = some false := by decide +kernel
theorem kit_list_bool : kitB "list" "bool" = some false := by decide +kernel
theorem kit_list_str : kitB "list" "str" = some false := by decide +kernel
theorem kit_tuple_tuple : kitB "tuple" "tuple" = some true := by decide +kernel
theorem kit_tuple_list : kitB "tuple" "list" = some false := by decide +kernel
theorem kit_int_list : kitB "int" "list" = some false := by decide +kernel
theorem kit_str_list : kitB "str" "list" = some false := by decide +kernel
theorem kit_NoneType_list : kitB "NoneType" "list" = some false := by decide +kernel
theorem kit_bool_list : kitB "bool" "list" = some false := by decide +kernel
theorem kit_dict_list : kitB "dict" "list" = some false := by decide +kernel
theorem kit_NoneType_int : kitB "NoneType" "int" = some false := by decide +kernel
theorem kit_str_int : kitB "str" "int" = some false := by decide +kernel
theorem kit_tuple_int : kitB "tuple" "int" = some false := by decide +kernel
theorem kit_dict_int : kitB "dict" "int" = some false := by decide +kernel
theorem kit_int_str : kitB "int" "str" = some false := by decide +kernel
theorem kit_bool_str : kitB "bool" "str" = some false := by decide +kernel
theorem kit_NoneType_str : kitB "NoneType" "str" = some false := by decide +kernel
theorem kit_tuple_str : kitB "tuple" "str" = some false := by decide +kernel
theorem ev_isiF {n s : String} {b : Bool} (ha : Ev ta σ H x) (ht : tyName x = some s) (hb : kitB s n = some b) : Ev (tCB (rIsi K) (tCons ta (tCons (tC (.ty n)) tNil))) σ H (.bl b) :=
  ev_isi ha (tyx_flat ht) (fun _ _ => tyx_flat ht) (kit_ty hb)
theorem ev_isiR {n : String} {b : Bool} (ha : EvR ta σ H xs) (hb : kitB "list" n = some b) : Ev (tCB (rIsi K) (tCons ta (tCons (tC (.ty n)) tNil))) σ H (.bl b) := fun H1 e Q q =>
  ha H1 e _ fun p H2 e2 h2 => ⟨.ref p, .ty n, .type "list", .type n, b, rfl, .ty n, .base (.lst h2), kit_ty hb, q H2 e2⟩
theorem ev_intB {b : Bool} (ha : Ev ta σ H (.bl b)) : Ev (tCB rInt1 (tCons ta tNil)) σ H (.int (if b then 1 else 0)) := fun H1 e Q q =>
  ha H1 e _ fun H2 e2 => Or.inr ⟨b, rfl, q H2 e2⟩
theorem ev_min2 {i j : Int} (ha : Ev ta σ H (.int i)) (hb : Ev tb σ H (.int j)) : Ev (tCB rMin2 (tCons ta (tCons tb tNil))) σ H (.int (if j < i then j else i)) := fun H1 e Q q =>
  ha H1 e _ fun H2 e2 => hb H2 (e.trans e2) _ fun H3 e3 => ⟨i, j, rfl, q H3 (e2.trans e3)⟩
theorem ev_cmp {p : Int → Int → Bool} {i j : Int} (ha : Ev ta σ H (.int i)) (hb : Ev tb σ H (.int j)) : Ev (tCmp p ta tb) σ H (.bl (p i j)) := fun H1 e Q q =>
  ha H1 e _ fun H2 e2 => hb H2 (e.trans e2) _ fun H3 e3 => ⟨i, j, rfl, rfl, q H3 (e2.trans e3)⟩
/-! rows of ints -/
theorem el_catI {xs ys : List Int} (ha : EvR ta σ H (iv xs)) (hb : EvR tb σ H (iv ys)) (hz : xs.length + ys.length ≤ 10000000) : EvL (tOp rCat ta tb) σ H (iv (xs ++ ys)) :=
  el_is (el_cat ha hb (by rw [iv_len, iv_len]; exact hz)) (List.map_append ..).symm
theorem el_oneI {n : Int} (h : Ev te σ H (.int n)) : EvL (tLst (tCons te tNil)) σ H (iv [n]) := el_lst (ea_cons h ea_nil) (by show 1 ≤ _; decide)
theorem el_nilI : EvL (tLst tNil) σ H (iv []) := el_lst ea_nil (Nat.zero_le _)
theorem el_repI {k n : Int} (ha : Ev ta σ H (.int n)) (hb : Ev tb σ H (.int k)) (hk : k ≤ 10000000 ∧ -10000000 ≤ k) : EvL (tOp rRep (tLst (tCons ta tNil)) tb) σ H (iv (List.replicate k.toNat n)) :=
  el_is (el_rep (x := .int n) (er_L (el_oneI ha)) hb hk) (List.map_replicate ..).symm
theorem el_repN {k : Nat} {n : Int} (ha : Ev ta σ H (.int n)) (hb : Ev tb σ H (.int (k : Int))) (hk : k ≤ 10000000) : EvL (tOp rRep (tLst (tCons ta tNil)) tb) σ H (iv (List.replicate k n)) :=
  el_is (el_repI ha hb (by omega)) (by rw [Int.toNat_natCast])
theorem cutV_iv (xs : List Int) (lo hi : Option Int) : cutV (iv xs) lo hi = iv ((xs.drop (HT.sIx xs.length 0 lo)).take (HT.sIx xs.length xs.length hi - HT.sIx xs.length 0 lo)) := by
  unfold cutV
  rw [iv_len]
  unfold iv
  rw [List.map_take, List.map_drop]
theorem el_slFromI {xs : List Int} {n : Int} (h : EvR te σ H (iv xs)) (h1 : Ev tx σ H (.int n)) (h0 : 0 ≤ n) : EvL (tSl (rSlL K) te (tPart tx) tNoPart) σ H (iv (xs.drop n.toNat)) :=
  el_is (el_slR h (eo_some h1) eo_none) (by
    rw [cutV_iv, show n = ((n.toNat : Nat) : Int) by omega, HT.sIx_nat, HT.sIx_none, Int.toNat_natCast]
    congr 1
    rw [List.take_of_length_le (by rw [List.length_drop]; omega)]
    by_cases hc : n.toNat ≤ xs.length
    · rw [Nat.min_eq_left hc]
    · rw [Nat.min_eq_right (by omega), List.drop_of_length_le (Nat.le_refl _), List.drop_of_length_le (by omega)])
theorem el_slToI {xs : List Int} {n : Int} (h : EvR te σ H (iv xs)) (h1 : Ev tx σ H (.int n)) (h0 : 0 ≤ n) : EvL (tSl (rSlL K) te tNoPart (tPart tx)) σ H (iv (xs.take n.toNat)) :=
  el_is (el_slR h eo_none (eo_some h1)) (by
    rw [cutV_iv, show n = ((n.toNat : Nat) : Int) by omega, HT.sIx_nat, HT.sIx_none, Int.toNat_natCast, List.drop_zero, Nat.sub_zero]
    congr 1
    by_cases hc : n.toNat ≤ xs.length
    · rw [Nat.min_eq_left hc]
    · rw [Nat.min_eq_right (by omega), List.take_of_length_le (Nat.le_refl _), List.take_of_length_le (by omega)])
theorem ev_lenI {xs : List Int} (ha : EvR ta σ H (iv xs)) : Ev (tCB (rLenS K) (tCons ta tNil)) σ H (.int (xs.length : Int)) := ev_is (ev_lenR ha) (by rw [iv_len])
theorem at_iv {xs : List Int} {i n : Int} (h : atI xs i = some n) : atI (iv xs) i = some (.int n) := by
  unfold atI at h ⊢
  rw [iv_len]
  cases e : ixN xs.length i with
  | none => rw [e] at h; cases h
  | some j =>
    rw [e] at h
    exact iv_get h
theorem ev_ixI {xs : List Int} {i n : Int} (ha : EvR ta σ H (iv xs)) (hb : Ev tb σ H (.int i)) (hv : atI xs i = some n) : Ev (tOp (rIxL K) ta tb) σ H (.int n) := ev_ixR ha hb (at_iv hv)
theorem ev_mod {g : Int → Int → V} {C : Int → Int → Prop} {i j : Int} (ha : Ev ta σ H (.int i)) (hb : Ev tb σ H (.int j)) (hc : C i j) : Ev (tOp (rI C g) ta tb) σ H (g i j) := ev_op ha hb (rv_I hc)
theorem ev_i0 {g : Int → Int → V} {i j : Int} (ha : Ev ta σ H (.int i)) (hb : Ev tb σ H (.int j)) : Ev (tOp (rI0 g) ta tb) σ H (g i j) := ev_op ha hb rv_I0
theorem ev_eqS (ha : Ev ta σ H x) (hb : Ev tb σ H y) (h : scal x y = true) : Ev (tOp rEq ta tb) σ H (.bl (decide (x = y))) := ev_op ha hb (rv_eq h)
theorem ev_neS (ha : Ev ta σ H x) (hb : Ev tb σ H y) (h : scal x y = true) : Ev (tOp rNe ta tb) σ H (.bl (!decide (x = y))) := ev_op ha hb (rv_ne h)
theorem ev_one (h : Ev te σ H x) : Ev te σ H x := h
theorem ev_chain {g g' : Int → Int → Bool} {tc : TE} {i j k : Int} (ha : Ev ta σ H (.int i)) (hb : Ev tb σ H (.int j)) (hc : Ev tc σ H (.int k)) :
    Ev (tChain (rI0 fun i j => .bl (g i j)) (rI0 fun i j => .bl (g' i j)) ta tb tc) σ H (.bl (g i j && g' j k)) := fun H1 e Q q =>
  ha H1 e _ fun H2 e2 => hb H2 (e.trans e2) _ fun H3 e3 => ⟨i, j, rfl, rfl, g i j, rfl, by
    cases hg : g i j with
    | true =>
      rw [hg] at q
      refine iteT ?_
      exact hc H3 ((e.trans e2).trans e3) _ fun H4 e4 => ⟨j, k, rfl, rfl, q H4 ((e2.trans e3).trans e4)⟩
    | false =>
      rw [hg] at q
      refine iteF ?_
      exact q H3 (e2.trans e3)⟩
/-! arguments of which some are lists -/
def EvAP (t : TA) (σ : L2.St) (H : Hp) (P : List V → Hp → Prop) : Prop := ∀ H1, Ex H H1 → ∀ Q : List V → Hp → Prop, (∀ vs H2, Ex H1 H2 → P vs H2 → Q vs H2) → t σ H1 Q
theorem eap_nil : EvAP tNil σ H (fun vs _ => vs = []) := fun H1 _ _ q => q [] H1 (Ex.refl H1) rfl
theorem eap_ev {tr : TA} {P : List V → Hp → Prop} (h : Ev te σ H v) (hr : EvAP tr σ H P) : EvAP (tCons te tr) σ H (fun vs H' => ∃ r, vs = v :: r ∧ P r H') := fun H1 e Q q =>
  h H1 e _ fun H2 e2 => hr H2 (e.trans e2) _ fun vs H3 e3 h3 => q _ H3 (e2.trans e3) ⟨vs, rfl, h3⟩
theorem eap_er {tr : TA} {P : List V → Hp → Prop} (h : EvR te σ H xs) (hr : EvAP tr σ H P) : EvAP (tCons te tr) σ H (fun vs H' => ∃ p r, vs = .ref p :: r ∧ H' p = some (.lst xs) ∧ P r H') := fun H1 e Q q =>
  h H1 e _ fun p H2 e2 h2 => hr H2 (e.trans e2) _ fun vs H3 e3 h3 => q _ H3 (e2.trans e3) ⟨p, vs, rfl, e3 _ _ h2, h3⟩
/-- a written list of lists, and one of them -/
def EvLs (t : TA) (σ : L2.St) (H : Hp) (xss : List (List V)) : Prop := EvAP t σ H (fun vs H' => ∃ ps : List Addr, vs = ps.map V.ref ∧ ps.length = xss.length ∧ ∀ (i : Nat) (p : Addr) (xs : List V), ps[i]? = some p → xss[i]? = some xs → H' p = some (.lst xs))
theorem els_nil : EvLs tNil σ H [] := fun H1 _ _ q => q [] H1 (Ex.refl H1) ⟨[], rfl, rfl, fun i p xs h => by simp at h⟩
theorem els_cons {tr : TA} {xss : List (List V)} (h : EvR te σ H xs) (hr : EvLs tr σ H xss) : EvLs (tCons te tr) σ H (xs :: xss) := fun H1 e Q q =>
  h H1 e _ fun p H2 e2 h2 => hr H2 (e.trans e2) _ fun vs H3 e3 ⟨ps, ev, el, hp⟩ => q _ H3 (e2.trans e3) ⟨p :: ps, by rw [ev]; rfl, by rw [List.length_cons, el]; rfl, fun i p' xs' h1 h3 => by
    cases i with
    | zero =>
      have a1 : p = p' := Option.some.inj h1
      have a2 : xs = xs' := Option.some.inj h3
      subst a1 a2
      exact e3 _ _ h2
    | succ i => exact hp i p' xs' h1 h3⟩
theorem er_pick {t : TA} {xss : List (List V)} {i : Int} {j : Nat} (h : EvLs t σ H xss) (hb : Ev tb σ H (.int i)) (ei : i = (j : Int)) (hj : xss[j]? = some xs) (hz : xss.length ≤ 1000) : EvR (tOp (rIxL K) (tLst t) tb) σ H xs := fun H1 e Q q =>
  h H1 e _ fun vs H2 e2 ⟨ps, ev, el, hp⟩ => by
    subst ev
    have hjl : j < xss.length := (List.getElem?_eq_some_iff.mp hj).1
    have hjp : j < ps.length := by omega
    refine ⟨by rw [List.length_map, el]; exact Nat.le_trans hz (by decide), fun p hpn => hb _ ((e.trans e2).trans (Ex.new hpn)) _ fun H3 e3 => ⟨p, ps.map V.ref, i, .ref ps[j], rfl, rfl, sq_of (e3 _ _ upd_same), ?_, ?_⟩⟩
    · rw [ei]
      exact atI_nat (by rw [List.getElem?_map, List.getElem?_eq_getElem hjp]; rfl)
    · exact q ps[j] H3 ((e2.trans (Ex.new hpn)).trans e3) (e3 _ _ (Ex.new hpn _ _ (hp j ps[j] xs (List.getElem?_eq_getElem hjp) hj)))
/-- a call that gives a new list -/
theorem el_callP {sp : Sp} {dvs : List V} {E : XK} {targs : TA} {P : List V → Hp → Prop} (h : EvAP targs σ H P) (k : ∀ vs H1, Ex H H1 → P vs H1 → ∀ Q : VK, RetL xs H1 Q → sp (vs ++ dvs) H1 Q E) : EvL (tCall sp dvs E targs) σ H xs := fun H1 e Q q =>
  h H1 e _ fun vs H2 e2 p => k vs H2 (e.trans e2) p Q fun a H3 n3 e3 h3 => q a H3 (fresh_back e2 n3) (e2.trans e3) h3
theorem ev_isiTup {n : String} {b : Bool} {a : Addr} (ha : Ev ta σ H (.ref a)) (h : H a = some (.tup xs)) (hb : kitB "tuple" n = some b) : Ev (tCB (rIsi K) (tCons ta (tCons (tC (.ty n)) tNil))) σ H (.bl b) := fun H1 e Q q =>
  ha H1 e _ fun H2 e2 => ⟨.ref a, .ty n, .type "tuple", .type n, b, rfl, .ty n, .base (.tup (e2 _ _ (e _ _ h))), kit_ty hb, q H2 e2⟩
theorem ev_lenTup {a : Addr} (ha : Ev ta σ H (.ref a)) (h : H a = some (.tup xs)) : Ev (tCB (rLenS K) (tCons ta tNil)) σ H (.int (xs.length : Int)) := fun H1 e Q q =>
  ha H1 e _ fun H2 e2 => ⟨a, xs, rfl, Or.inr (st_of (e2 _ _ (e _ _ h))), q H2 e2⟩
theorem ev_ixTup {a : Addr} {i : Int} {j : Nat} (ha : Ev ta σ H (.ref a)) (h : H a = some (.tup xs)) (hb : Ev tb σ H (.int i)) (ei : i = (j : Int)) (hv : xs[j]? = some v) : Ev (tOp (rIxT K) ta tb) σ H v := fun H1 e Q q =>
  ha H1 e _ fun H2 e2 => hb H2 (e.trans e2) _ fun H3 e3 => ⟨a, xs, i, v, rfl, rfl, st_of (e3 _ _ (e2 _ _ (e _ _ h))), by rw [ei]; exact atI_nat hv, q H3 (e2.trans e3)⟩
/-! a call with arguments of which some are lists -/
theorem q_asgP {i : Nat} {sp : Sp} {dvs : List V} {E : XK} {targs : TA} {tz : TS} {D : Ends} {P : List V → Hp → Prop} (h : EvAP targs σ H P) (k : ∀ vs H1, Ex H H1 → P vs H1 → sp (vs ++ dvs) H1 (fun v H2 => tz D (σ.set i (some v)) H2) E) : tSeq (tAsg (tCall sp dvs E targs) (gName i)) tz D σ H :=
  h H (Ex.refl H) _ fun vs H1 e p => k vs H1 e p
theorem s_retP {sp : Sp} {dvs : List V} {E : XK} {targs : TA} {D : Ends} {P : List V → Hp → Prop} (h : EvAP targs σ H P) (k : ∀ vs H1, Ex H H1 → P vs H1 → sp (vs ++ dvs) H1 (fun v H2 => D.rt v H2) E) : tRet (tCall sp dvs E targs) D σ H :=
  h H (Ex.refl H) _ fun vs H1 e p => k vs H1 e p
/-! a call within a try -/
theorem s_dropS {sp : Sp} {vs : List V} {E : L2.St → XK} {targs : TA} {D : Ends} (h : EvA targs σ H vs) (k : ∀ H1, Ex H H1 → sp vs H1 (fun _ H2 => D.nx σ H2) (E σ)) : tDrop (tCallS sp E targs) D σ H :=
  h H (Ex.refl H) _ fun H1 e => k H1 e
/-! a call: the callee's promise in the reader's hand -/
theorem q_asgC {i : Nat} {sp : Sp} {dvs vs : List V} {E : XK} {targs : TA} {tz : TS} {D : Ends} (h : EvA targs σ H vs) (k : ∀ H1, Ex H H1 → sp (vs ++ dvs) H1 (fun v H2 => tz D (σ.set i (some v)) H2) E) : tSeq (tAsg (tCall sp dvs E targs) (gName i)) tz D σ H :=
  h H (Ex.refl H) _ fun H1 e => k H1 e
/-! the reading itself, step by step -/
theorem q_asgW {i : Nat} {tz : TS} {D : Ends} (h : te σ H (fun v H2 => tz D (σ.set i (some v)) H2)) : tSeq (tAsg te (gName i)) tz D σ H := h
theorem s_asgW {i : Nat} {D : Ends} (h : te σ H (fun v H2 => D.nx (σ.set i (some v)) H2)) : tAsg te (gName i) D σ H := h
theorem tup2_go {i j : Nat} {a : Addr} {x y : V} {D : L2.St → Hp → Prop} (hs : SqT K H a [x, y]) (k : D ((σ.set i (some x)).set j (some y)) H) : gTup K 2 (gCons (gName i) (gCons (gName j) gNil)) (.ref a) σ H D :=
  ⟨a, [x, y], rfl, hs, rfl, x, [y], rfl, y, [], rfl, rfl, k⟩
theorem q_asgG {g : TG} {tz : TS} {D : Ends} (h : te σ H (fun v H1 => g v σ H1 (tz D))) : tSeq (tAsg te g) tz D σ H := h
theorem op_go {Q : VK} (h : ta σ H (fun x H1 => tb σ H1 fun y H2 => r x y H2 Q)) : tOp r ta tb σ H Q := h
theorem call_go {sp : Sp} {dvs : List V} {E : XK} {t : TA} {Q : VK} (h : t σ H (fun vs H1 => sp (vs ++ dvs) H1 Q E)) : tCall sp dvs E t σ H Q := h
theorem ev_go {Q : VK} (h : Ev te σ H v) (k : ∀ H2, Ex H H2 → Q v H2) : te σ H Q := h H (Ex.refl H) Q k
theorem er_go {Q : VK} (h : EvR te σ H xs) (k : ∀ p H2, Ex H H2 → H2 p = some (.lst xs) → Q (.ref p) H2) : te σ H Q := h H (Ex.refl H) Q k
theorem el_go {Q : VK} (h : EvL te σ H xs) (k : ∀ p H2, H p = none → Ex H H2 → H2 p = some (.lst xs) → Q (.ref p) H2) : te σ H Q := h H (Ex.refl H) Q k
theorem ea_go {t : TA} {vs : List V} {Q : List V → Hp → Prop} (h : EvA t σ H vs) (k : ∀ H2, Ex H H2 → Q vs H2) : t σ H Q := h H (Ex.refl H) Q k
theorem s_asgC {i : Nat} {sp : Sp} {dvs vs : List V} {E : XK} {targs : TA} {D : Ends} (h : EvA targs σ H vs) (k : ∀ H1, Ex H H1 → sp (vs ++ dvs) H1 (fun v H2 => D.nx (σ.set i (some v)) H2) E) : tAsg (tCall sp dvs E targs) (gName i) D σ H :=
  h H (Ex.refl H) _ fun H1 e => k H1 e
theorem q_dropC {sp : Sp} {dvs vs : List V} {E : XK} {targs : TA} {tz : TS} {D : Ends} (h : EvA targs σ H vs) (k : ∀ H1, Ex H H1 → sp (vs ++ dvs) H1 (fun _ H2 => tz D σ H2) E) : tSeq (tDrop (tCall sp dvs E targs)) tz D σ H :=
  h H (Ex.refl H) _ fun H1 e => k H1 e
theorem s_retC {sp : Sp} {dvs vs : List V} {E : XK} {targs : TA} {D : Ends} (h : EvA targs σ H vs) (k : ∀ H1, Ex H H1 → sp (vs ++ dvs) H1 (fun v H2 => D.rt v H2) E) : tRet (tCall sp dvs E targs) D σ H :=
  h H (Ex.refl H) _ fun H1 e => k H1 e
theorem ea_one (h : Ev te σ H x) : EvA (tCons te tNil) σ H [x] := ea_cons h ea_nil
theorem ea_two (h : Ev ta σ H x) (h2 : Ev tb σ H y) : EvA (tCons ta (tCons tb tNil)) σ H [x, y] := ea_cons h (ea_cons h2 ea_nil)
/-- what is put together of an old heap and one list of one's own -/
theorem q_app1 {tz : TS} {D : Ends} {B : Hp} {l : Addr} {ws : List V} (hb : B l = none) (eb : Ex B H) (hl : H l = some (.lst ws)) (ha : Ev ta σ H (.ref l)) (h : Ev te σ H v) (hz : ws.length < 10000000)
    (k : ∀ H1, Ex B H1 → (∀ a o, a ≠ l → H a = some o → H1 a = some o) → H1 l = some (.lst (ws ++ [v])) → tz D σ H1) : tSeq (tDrop (tBM K "list" rAppend ta (tCons te tNil))) tz D σ H :=
  ha H (Ex.refl H) _ fun H1 e1 => ⟨Or.inl ⟨rfl, ws, sq_of (e1 l _ hl)⟩, h H1 e1 _ fun H2 e2 => ⟨l, ws, v, rfl, rfl, e2 l _ (e1 l _ hl), Nat.lt_of_lt_of_le hz (by decide),
    k _ (Ex.mut (eb.trans (e1.trans e2)) hb) (fun a o n ho => by rw [upd_ne n]; exact (e1.trans e2) _ _ ho) upd_same⟩⟩
theorem s_app1 {D : Ends} {B : Hp} {l : Addr} {ws : List V} (hb : B l = none) (eb : Ex B H) (hl : H l = some (.lst ws)) (ha : Ev ta σ H (.ref l)) (h : Ev te σ H v) (hz : ws.length < 10000000)
    (k : ∀ H1, Ex B H1 → (∀ a o, a ≠ l → H a = some o → H1 a = some o) → H1 l = some (.lst (ws ++ [v])) → D.nx σ H1) : tDrop (tBM K "list" rAppend ta (tCons te tNil)) D σ H :=
  ha H (Ex.refl H) _ fun H1 e1 => ⟨Or.inl ⟨rfl, ws, sq_of (e1 l _ hl)⟩, h H1 e1 _ fun H2 e2 => ⟨l, ws, v, rfl, rfl, e2 l _ (e1 l _ hl), Nat.lt_of_lt_of_le hz (by decide),
    k _ (Ex.mut (eb.trans (e1.trans e2)) hb) (fun a o n ho => by rw [upd_ne n]; exact (e1.trans e2) _ _ ho) upd_same⟩⟩
theorem iv_snoc (ws : List Int) (n : Int) : iv ws ++ [V.int n] = iv (ws ++ [n]) := (List.map_append (l₁ := ws) (l₂ := [n]) (f := V.int)).symm
theorem q_appI {tz : TS} {D : Ends} {B : Hp} {l : Addr} {ws : List Int} {n : Int} (hb : B l = none) (eb : Ex B H) (hl : H l = some (.lst (iv ws))) (ha : Ev ta σ H (.ref l)) (h : Ev te σ H (.int n)) (hz : ws.length < 10000000)
    (k : ∀ H1, Ex B H1 → (∀ a o, a ≠ l → H a = some o → H1 a = some o) → H1 l = some (.lst (iv (ws ++ [n]))) → tz D σ H1) : tSeq (tDrop (tBM K "list" rAppend ta (tCons te tNil))) tz D σ H :=
  q_app1 hb eb hl ha h (by rw [iv_len]; exact hz) fun H1 e1 e2 h1 => k H1 e1 e2 (by rw [h1, iv_snoc])
theorem s_appI {D : Ends} {B : Hp} {l : Addr} {ws : List Int} {n : Int} (hb : B l = none) (eb : Ex B H) (hl : H l = some (.lst (iv ws))) (ha : Ev ta σ H (.ref l)) (h : Ev te σ H (.int n)) (hz : ws.length < 10000000)
    (k : ∀ H1, Ex B H1 → (∀ a o, a ≠ l → H a = some o → H1 a = some o) → H1 l = some (.lst (iv (ws ++ [n]))) → D.nx σ H1) : tDrop (tBM K "list" rAppend ta (tCons te tNil)) D σ H :=
  s_app1 hb eb hl ha h (by rw [iv_len]; exact hz) fun H1 e1 e2 h1 => k H1 e1 e2 (by rw [h1, iv_snoc])
/-- xs[j] = e, in a list of one's own -/
theorem q_setI {tz : TS} {D : Ends} {B : Hp} {l : Addr} {ws : List Int} {n i : Int} {j : Nat} (hb : B l = none) (eb : Ex B H) (hl : H l = some (.lst (iv ws))) (h : Ev te σ H (.int n)) (ha : Ev ta σ H (.ref l)) (hi : Ev tb σ H (.int i)) (ei : i = (j : Int)) (hj : j < ws.length)
    (k : ∀ H1, Ex B H1 → (∀ a o, a ≠ l → H a = some o → H1 a = some o) → H1 l = some (.lst (iv (ws.set j n))) → tz D σ H1) : tSeq (tAsg te (gSub ta tb rSetL)) tz D σ H :=
  h H (Ex.refl H) _ fun H1 e1 => ha H1 e1 _ fun H2 e2 => hi H2 (e1.trans e2) _ fun H3 e3 => ⟨l, iv ws, i, j, rfl, rfl, ((e1.trans e2).trans e3) l _ hl, by rw [ei, iv_len]; exact ixN_nat hj, by
    refine k _ (Ex.mut (eb.trans ((e1.trans e2).trans e3)) hb) (fun a o n ho => by rw [upd_ne n]; exact ((e1.trans e2).trans e3) _ _ ho) ?_
    rw [upd_same]
    unfold iv
    rw [List.map_set]⟩
theorem s_setI {D : Ends} {B : Hp} {l : Addr} {ws : List Int} {n i : Int} {j : Nat} (hb : B l = none) (eb : Ex B H) (hl : H l = some (.lst (iv ws))) (h : Ev te σ H (.int n)) (ha : Ev ta σ H (.ref l)) (hi : Ev tb σ H (.int i)) (ei : i = (j : Int)) (hj : j < ws.length)
    (k : ∀ H1, Ex B H1 → (∀ a o, a ≠ l → H a = some o → H1 a = some o) → H1 l = some (.lst (iv (ws.set j n))) → D.nx σ H1) : tAsg te (gSub ta tb rSetL) D σ H :=
  h H (Ex.refl H) _ fun H1 e1 => ha H1 e1 _ fun H2 e2 => hi H2 (e1.trans e2) _ fun H3 e3 => ⟨l, iv ws, i, j, rfl, rfl, ((e1.trans e2).trans e3) l _ hl, by rw [ei, iv_len]; exact ixN_nat hj, by
    refine k _ (Ex.mut (eb.trans ((e1.trans e2).trans e3)) hb) (fun a o n ho => by rw [upd_ne n]; exact ((e1.trans e2).trans e3) _ _ ho) ?_
    rw [upd_same]
    unfold iv
    rw [List.map_set]⟩
/-- for i, x in enumerate(xs) -/
theorem s_forEn {D : Ends} {tu : TS} {a : Addr} {j1 j2 : Nat} {xs : List V} (h : Ev ta σ H (.ref a)) (hx : H a = some (.lst xs)) (Pv : Nat → L2.St → Hp → Prop) (h0 : ∀ H1, Ex H H1 → Pv 0 σ H1) (hl : ∀ i σ' H', i ≤ xs.length → Pv i σ' H' → SqL K H' a xs)
    (hs : ∀ i x σ' H', xs[i]? = some x → Pv i σ' H' → ∀ H2, Ex H' H2 → tu { D with nx := Pv (i + 1), ct := Pv (i + 1), bk := D.nx } ((σ'.set j1 (some (.int (i : Int)))).set j2 (some x)) H2) (hd : ∀ σ' H', Pv xs.length σ' H' → D.nx σ' H') :
    tFor (iEnum K (tCons ta tNil)) (gTup K 2 (gCons (gName j1) (gCons (gName j2) gNil))) tu D σ H := h H (Ex.refl H) _ fun H1 e1 => ⟨a, xs, rfl, sq_of (e1 _ _ hx), by
  refine ⟨fun i m σ' H' => i + m = xs.length ∧ Pv i σ' H', ⟨xs.length, Nat.zero_add _, h0 H1 e1⟩, ?_⟩
  rintro i m σ' H' ⟨em, p⟩
  have q := hl i σ' H' (by omega) p
  by_cases hi : i < xs.length
  · refine .inr ⟨⟨xs, xs[i], q, List.getElem?_eq_getElem hi⟩, Pv (i + 1), fun σ2 H2 hN => ⟨m - 1, by omega, by omega, hN⟩, fun x H2 hy => ?_⟩
    obtain ⟨T, x1, rfl, nT, rfl, f1⟩ := hy
    have ex1 : x1 = xs[i] := Option.some.inj ((f1 _ q).symm.trans (List.getElem?_eq_getElem hi))
    subst ex1
    exact ⟨T, [.int (i : Int), xs[i]], rfl, .inl (.inl upd_same), rfl, .int (i : Int), [xs[i]], rfl, xs[i], [], rfl, rfl, hs i _ σ' H' (List.getElem?_eq_getElem hi) p _ (Ex.new nT)⟩
  · have e : i = xs.length := by omega
    subst e
    exact .inl ⟨⟨xs, q, Nat.le_refl _⟩, hd σ' H' p⟩⟩
theorem q_forEn {D : Ends} {tu tz : TS} {a : Addr} {j1 j2 : Nat} {xs : List V} (h : Ev ta σ H (.ref a)) (hx : H a = some (.lst xs)) (Pv : Nat → L2.St → Hp → Prop) (h0 : ∀ H1, Ex H H1 → Pv 0 σ H1) (hl : ∀ i σ' H', i ≤ xs.length → Pv i σ' H' → SqL K H' a xs)
    (hs : ∀ i x σ' H', xs[i]? = some x → Pv i σ' H' → ∀ H2, Ex H' H2 → tu { D with nx := Pv (i + 1), ct := Pv (i + 1), bk := tz D } ((σ'.set j1 (some (.int (i : Int)))).set j2 (some x)) H2) (hd : ∀ σ' H', Pv xs.length σ' H' → tz D σ' H') :
    tSeq (tFor (iEnum K (tCons ta tNil)) (gTup K 2 (gCons (gName j1) (gCons (gName j2) gNil))) tu) tz D σ H := s_forEn (D := { D with nx := tz D }) h hx Pv h0 hl hs hd
/-! comprehensions over rows -/
theorem yes_go {A B : Hp → Prop} (h : A H) : tYes σ H (fun b H3 => if b = true then A H3 else B H3) := by
  show (if true = true then A H else B H)
  rw [if_pos rfl]
  exact h
theorem el_lcMap {tl : TE} {j : Nat} {vs : List Nat} (g : V → V) (h : EvR tl σ H xs) (hz : xs.length ≤ 1000000) (hw : ∀ x, wipe ((wipe σ vs).set j (some x)) vs = wipe σ vs)
    (he : ∀ (i : Nat) (x : V) H1, Ex H H1 → xs[i]? = some x → Ev te ((wipe σ vs).set j (some x)) H1 (g x)) :
    EvL (tLc (iList K tl) (gName j) tYes te vs) σ H (xs.map g) := fun H0 e Q q => h H0 e _ fun a H1 e1 hx => ⟨a, rfl, ⟨xs, sq_of hx⟩, fun Dl hD =>
  lc_list (xs := xs) (fun i H' => Ex H1 H' ∧ H' Dl = some (.lst ((xs.map g).take i))) ⟨Ex.new hD, by rw [List.take_zero]; exact upd_same⟩ (fun i H' _ p => sq_of (p.1 a _ hx)) (fun i x H' hi p => ⟨hw x, by
    refine yes_go ?_
    refine he i x H1 (e.trans e1) hi H' p.1 _ fun H4 e4 => ⟨_, e4 Dl _ p.2, ?_, Ex.mut (p.1.trans e4) hD, ?_⟩
    · have z := (List.getElem?_eq_some_iff.mp hi).1
      rw [List.length_take, List.length_map]
      show _ < 2 ^ 24
      omega
    · have z : (xs.map g)[i]? = some (g x) := by rw [List.getElem?_map, hi]; rfl
      rw [List.take_add_one, z]
      exact upd_same⟩)
    (fun H' p => q Dl H' (fresh_back e1 hD) (e1.trans p.1) (by
      have z := p.2
      rw [List.take_of_length_le (by rw [List.length_map]; exact Nat.le_refl _)] at z
      exact z))⟩
theorem el_lcRg {ta : TA} {j : Nat} {vs : List Nat} {n : Int} (g : Nat → V) (h : EvA ta σ H [.int n]) (hn : 0 ≤ n ∧ n ≤ 1000000) (hw : ∀ x, wipe ((wipe σ vs).set j (some x)) vs = wipe σ vs)
    (he : ∀ (i : Nat) H1, Ex H H1 → (i : Int) < n → Ev te ((wipe σ vs).set j (some (.int (i : Int)))) H1 (g i)) :
    EvL (tLc (iRng1 ta) (gName j) tYes te vs) σ H ((List.range n.toNat).map g) := fun H0 e Q q => h H0 e _ fun H1 e1 => ⟨n, rfl, by omega, by omega, fun Dl hD =>
  lc_range (lo := 0) (n := n.toNat) (fun i H' => Ex H1 H' ∧ H' Dl = some (.lst (((List.range n.toNat).map g).take i))) ⟨Ex.new hD, by rw [List.take_zero]; exact upd_same⟩ (fun i H' hi p => by
    have e0 : (0 : Int) + (i : Int) = (i : Int) := Int.zero_add _
    refine ⟨hw _, ?_⟩
    refine yes_go ?_
    rw [e0]
    refine he i H1 (e.trans e1) (by omega) H' p.1 _ fun H4 e4 => ⟨_, e4 Dl _ p.2, ?_, Ex.mut (p.1.trans e4) hD, ?_⟩
    · rw [List.length_take, List.length_map, List.length_range]
      show _ < 2 ^ 24
      omega
    · have z : ((List.range n.toNat).map g)[i]? = some (g i) := by rw [List.getElem?_map, List.getElem?_range hi]; rfl
      rw [List.take_add_one, z]
      exact upd_same) (fun H' p => q Dl H' (fresh_back e1 hD) (e1.trans p.1) (by
      have z := p.2
      rw [List.take_of_length_le (by rw [List.length_map, List.length_range]; exact Nat.le_refl _)] at z
      exact z))⟩
/-- [e for a, b in zip(xs, ys)] -/
theorem el_lcZip {i j : Nat} {vs : List Nat} {xs ys : List V} (g : V → V → V) (ha : EvR ta σ H xs) (hb : EvR tb σ H ys) (hz : xs.length ≤ 1000000) (hw : ∀ x y, wipe (((wipe σ vs).set i (some x)).set j (some y)) vs = wipe σ vs)
    (he : ∀ (k : Nat) (x y : V) H1, Ex H H1 → xs[k]? = some x → ys[k]? = some y → Ev te (((wipe σ vs).set i (some x)).set j (some y)) H1 (g x y)) :
    EvL (tLc (iZip K (tCons ta (tCons tb tNil))) (gTup K 2 (gCons (gName i) (gCons (gName j) gNil))) tYes te vs) σ H (List.zipWith g xs ys) := fun H0 e Q q =>
  ha H0 e _ fun a H1 e1 h1 => hb H1 (e.trans e1) _ fun b H2 e2 h2 => ⟨a, b, xs, ys, rfl, sq_of (e2 _ _ h1), sq_of h2, fun Dl hD => by
    have e02 : Ex H H2 := (e.trans e1).trans e2
    have hA : H2 a = some (.lst xs) := e2 _ _ h1
    refine ⟨fun k m H' => k + m = (List.zipWith g xs ys).length ∧ Ex H2 H' ∧ H' Dl = some (.lst ((List.zipWith g xs ys).take k)), ⟨(List.zipWith g xs ys).length, Nat.zero_add _, Ex.new hD, by rw [List.take_zero]; exact upd_same⟩, ?_⟩
    rintro k m H' ⟨em, p1, p2⟩
    have hl : (List.zipWith g xs ys).length = min xs.length ys.length := List.length_zipWith
    by_cases hk : k < (List.zipWith g xs ys).length
    · have kx : k < xs.length := by omega
      have ky : k < ys.length := by omega
      refine .inr ⟨⟨xs, ys, xs[k], ys[k], sq_of (p1 _ _ hA), sq_of (p1 _ _ h2), List.getElem?_eq_getElem kx, List.getElem?_eq_getElem ky⟩, fun H4 => Ex H2 H4 ∧ H4 Dl = some (.lst ((List.zipWith g xs ys).take (k + 1))), fun H4 hN => ⟨m - 1, by omega, by omega, hN.1, hN.2⟩, fun x H4 hy => ?_⟩
      obtain ⟨T, x1, x2, rfl, nT, rfl, f1, f2⟩ := hy
      have ex1 : x1 = xs[k] := Option.some.inj ((f1 _ (sq_of (p1 _ _ hA))).symm.trans (List.getElem?_eq_getElem kx))
      have ex2 : x2 = ys[k] := Option.some.inj ((f2 _ (sq_of (p1 _ _ h2))).symm.trans (List.getElem?_eq_getElem ky))
      subst ex1 ex2
      refine ⟨T, [xs[k], ys[k]], rfl, .inl (.inl upd_same), rfl, xs[k], [ys[k]], rfl, ys[k], [], rfl, rfl, hw _ _, ?_⟩
      refine yes_go ?_
      refine he k xs[k] ys[k] H2 e02 (List.getElem?_eq_getElem kx) (List.getElem?_eq_getElem ky) _ (p1.trans (Ex.new nT)) _ fun H5 e5 => ⟨_, e5 Dl _ (Ex.new nT _ _ p2), ?_, Ex.mut ((p1.trans (Ex.new nT)).trans e5) hD, ?_⟩
      · rw [List.length_take]
        show _ < 2 ^ 24
        omega
      · have z : (List.zipWith g xs ys)[k]? = some (g xs[k] ys[k]) := by
          rw [List.getElem?_zipWith, List.getElem?_eq_getElem kx, List.getElem?_eq_getElem ky]
        rw [List.take_add_one, z]
        exact upd_same
    · refine .inl ⟨⟨xs, ys, sq_of (p1 _ _ hA), sq_of (p1 _ _ h2), by omega⟩, ?_⟩
      have z := p2
      rw [List.take_of_length_le (by omega)] at z
      exact q Dl H' (fresh_back (e1.trans e2) hD) ((e1.trans e2).trans p1) z⟩
end
end Cg


set_option Elab.async false
set_option linter.all false
set_option maxRecDepth 100000
set_option maxHeartbeats 4000000
namespace Cg
open PySem PySem.Spec PyProof.Rows L2 Evl

def topS (i : Nat) : Stmt := PySem.Challenge.pw_crcgate_k01_a_sum.main.body.getD i (.Pass ⟨0, 0, 0, 0⟩)
abbrev s_is_sign : Stmt := topS 4
abbrev N_is_sign : List Str := ["value"]
theorem sc_is_sign : FnScope N_is_sign ["value"] (defScope s_is_sign) := ⟨rfl, rfl, rfl, by decide +kernel, rfl, by decide +kernel, by decide +kernel⟩
abbrev s_need_row : Stmt := topS 5
abbrev N_need_row : List Str := ["row", "sign"]
theorem sc_need_row : FnScope N_need_row ["row"] (defScope s_need_row) := ⟨rfl, rfl, rfl, by decide +kernel, rfl, by decide +kernel, by decide +kernel⟩
abbrev s_lengthened : Stmt := topS 6
abbrev N_lengthened : List Str := ["row", "length"]
theorem sc_lengthened : FnScope N_lengthened ["row", "length"] (defScope s_lengthened) := ⟨rfl, rfl, rfl, by decide +kernel, rfl, by decide +kernel, by decide +kernel⟩
abbrev s_added : Stmt := topS 7
abbrev N_added : List Str := ["one", "other", "length", "first", "second", "a", "b"]
theorem sc_added : FnScope N_added ["one", "other"] (defScope s_added) := ⟨rfl, rfl, rfl, by decide +kernel, rfl, by decide +kernel, by decide +kernel⟩
abbrev s__law_cell_at : Stmt := topS 9
abbrev N__law_cell_at : List Str := ["_law_script", "_law_k"]
theorem sc__law_cell_at : FnScope N__law_cell_at ["_law_script", "_law_k"] (defScope s__law_cell_at) := ⟨rfl, rfl, rfl, by decide +kernel, rfl, by decide +kernel, by decide +kernel⟩
abbrev s__law_row_by : Stmt := topS 10
abbrev N__law_row_by : List Str := ["_law_cell", "_law_size", "_law_found", "_law_state", "_law_k"]
theorem sc__law_row_by : FnScope N__law_row_by ["_law_cell", "_law_size"] (defScope s__law_row_by) := ⟨rfl, rfl, rfl, by decide +kernel, rfl, by decide +kernel, by decide +kernel⟩
abbrev s__law_is_row : Stmt := topS 11
abbrev N__law_is_row : List Str := ["_law_found", "_law_size", "_law_x"]
theorem sc__law_is_row : FnScope N__law_is_row ["_law_found", "_law_size"] (defScope s__law_is_row) := ⟨rfl, rfl, rfl, by decide +kernel, rfl, by decide +kernel, by decide +kernel⟩
abbrev s__law_at : Stmt := topS 12
abbrev N__law_at : List Str := ["_law_row", "_law_power"]
theorem sc__law_at : FnScope N__law_at ["_law_row", "_law_power"] (defScope s__law_at) := ⟨rfl, rfl, rfl, by decide +kernel, rfl, by decide +kernel, by decide +kernel⟩
abbrev s_law : Stmt := topS 13
abbrev N_law : List Str := ["_law_script", "_law_size", "_law_more", "_law_way", "_law_one", "_law_other", "_law_most", "_law_mine", "_law_theirs", "_law_found", "_law_power"]
theorem sc_law : FnScope N_law ["_law_script"] (defScope s_law) := ⟨rfl, rfl, rfl, by decide +kernel, rfl, by decide +kernel, by decide +kernel⟩
structure Cs where
  (none_ GateError NoRow : Addr)
structure Txt (K : PySem.W.Frag) (mg : Str → Option Value) (cs : Cs) : Prop where
  e_GateError : ExcT K mg "GateError" cs.GateError
  e_NoRow : ExcT K mg "NoRow" cs.NoRow
  z_ValueError : mg "ValueError" = none
  z_all : mg "all" = none
  z_bool : mg "bool" = none
  z_int : mg "int" = none
  z_isinstance : mg "isinstance" = none
  z_len : mg "len" = none
  z_list : mg "list" = none
  z_max : mg "max" = none
  z_range : mg "range" = none
  z_zip : mg "zip" = none
  d_is_sign : Raw K mg "is_sign" "is_sign" s_is_sign ["value"]
  d_need_row : Raw K mg "need_row" "need_row" s_need_row ["row"]
  d_lengthened : Raw K mg "lengthened" "lengthened" s_lengthened ["row", "length"]
  d_added : Raw K mg "added" "added" s_added ["one", "other"]
  d__law_cell_at : Raw K mg "_law_cell_at" "_law_cell_at" s__law_cell_at ["_law_script", "_law_k"]
  d__law_row_by : Raw K mg "_law_row_by" "_law_row_by" s__law_row_by ["_law_cell", "_law_size"]
  d__law_is_row : Raw K mg "_law_is_row" "_law_is_row" s__law_is_row ["_law_found", "_law_size"]
  d__law_at : Raw K mg "_law_at" "_law_at" s__law_at ["_law_row", "_law_power"]
/-! ## our own lines for straight expressions -/
local macro_rules | `(tactic| walk_at "cg ar") => `(tactic| first | decide | omega | exact ⟨by decide, by decide⟩ | exact Or.inr ⟨by decide, by decide⟩ | (show (0 : Int) < _; first | decide | omega) | assumption)
local macro_rules | `(tactic| walk_at "cg hp") => `(tactic| first | assumption | (refine' Ex.at (by assumption) ?_; walk_at "cg hp"))
local macro_rules | `(tactic| walk_at "cg sq") => `(tactic| first | assumption | exact sq_of (by walk_at "cg hp") | (refine' ex_l (by assumption) ?_; walk_at "cg sq"))
local macro_rules | `(tactic| walk_at "cg er") => `(tactic| first | ((with_reducible apply er_var); (exact rfl); (walk_at "cg hp")) | ((with_reducible apply er_L); walk_at "cg el"))
local macro_rules | `(tactic| walk_at "cg el") => `(tactic| first
  | with_reducible exact el_nilI
  | ((with_reducible apply el_oneI); walk_at "cg ev")
  | ((with_reducible apply el_catI); (walk_at "cg er"); (walk_at "cg er"); (walk_at "cg ar"))
  | ((with_reducible apply el_repI); (walk_at "cg ev"); (walk_at "cg ev"); (walk_at "cg ar"))
  | ((with_reducible apply el_slFromI); (walk_at "cg er"); (walk_at "cg ev"); (walk_at "cg ar"))
  | ((with_reducible apply el_slToI); (walk_at "cg er"); (walk_at "cg ev"); (walk_at "cg ar"))
  | ((with_reducible apply el_listR); walk_at "cg er"))
local macro_rules | `(tactic| walk_at "cg ev") => `(tactic| first
  | with_reducible exact ev_c
  | ((with_reducible apply ev_var); exact rfl)
  | ((with_reducible apply ev_i0); (walk_at "cg ev"); (walk_at "cg ev"))
  | ((with_reducible apply ev_mod); (walk_at "cg ev"); (walk_at "cg ev"); (walk_at "cg ar"))
  | ((with_reducible apply ev_cmp); (walk_at "cg ev"); (walk_at "cg ev"))
  | ((with_reducible apply ev_lenI); walk_at "cg er")
  | ((with_reducible apply ev_chain); (walk_at "cg ev"); (walk_at "cg ev"); (walk_at "cg ev"))
  | ((with_reducible apply ev_notV); walk_at "cg ev")
  | ((with_reducible apply ev_max2); (walk_at "cg ev"); (walk_at "cg ev"))
  | ((with_reducible apply ev_min2); (walk_at "cg ev"); (walk_at "cg ev"))
  | ((with_reducible apply ev_intB); walk_at "cg ev")
  | ((with_reducible apply ev_eqR); (walk_at "cg er"); (walk_at "cg er"))
  | ((with_reducible apply ev_neR); (walk_at "cg er"); (walk_at "cg er"))
  | ((with_reducible apply ev_isiR); (walk_at "cg er"); (exact kit_list_list))
  | ((with_reducible apply ev_isiF); (walk_at "cg ev"); (exact rfl); first | exact kit_int_int | exact kit_int_bool | exact kit_bool_bool | exact kit_bool_int | exact kit_str_str)
  | ((with_reducible apply ev_sumR); walk_at "cg er")
  | ((with_reducible apply ev_inR); (walk_at "cg ev"); (walk_at "cg er"))
  | ((with_reducible apply ev_niR); (walk_at "cg ev"); (walk_at "cg er")))
local macro_rules | `(tactic| walk_at "cg ea") => `(tactic| first | with_reducible exact ea_nil | ((with_reducible apply ea_cons); (walk_at "cg ev"); (walk_at "cg ea")))
local macro_rules | `(tactic| walk_at "cg et") => `(tactic| first
  | ((with_reducible apply et_B); walk_at "cg ev")
  | ((with_reducible apply et_not); walk_at "cg et")
  | ((with_reducible apply et_test); walk_at "cg ev"))

/-! ## signs -/
def Bits (ns : List Int) : Prop := ∀ x ∈ ns, x = 0 ∨ x = 1
theorem Bits.nil : Bits [] := fun _ h => nomatch h
theorem Bits.cons {x : Int} {r : List Int} (h : x = 0 ∨ x = 1) (hr : Bits r) : Bits (x :: r) := fun y hy => by
  cases hy with
  | head => exact h
  | tail _ k => exact hr y k
theorem Bits.append {xs ys : List Int} (h : Bits xs) (k : Bits ys) : Bits (xs ++ ys) := fun y hy => by
  rcases List.mem_append.mp hy with z | z
  · exact h y z
  · exact k y z
theorem Bits.one {x : Int} (h : x = 0 ∨ x = 1) : Bits [x] := Bits.cons h .nil
theorem Bits.rep {x : Int} (n : Nat) (h : x = 0 ∨ x = 1) : Bits (List.replicate n x) := fun y hy => by
  rw [(List.mem_replicate.mp hy).2]
  exact h
theorem Bits.take {xs : List Int} (h : Bits xs) (n : Nat) : Bits (xs.take n) := fun y hy => h y (List.mem_of_mem_take hy)
theorem Bits.drop {xs : List Int} (h : Bits xs) (n : Nat) : Bits (xs.drop n) := fun y hy => h y (List.mem_of_mem_drop hy)
theorem bit_mod (i : Int) : i % 2 = 0 ∨ i % 2 = 1 := by omega
theorem Bits.get {xs : List Int} (h : Bits xs) {i : Nat} {x : Int} (e : xs[i]? = some x) : x = 0 ∨ x = 1 := h x (List.mem_of_getElem? e)

/-! ## sums of signs -/
def longer (xs : List Int) (n : Nat) : List Int := List.replicate (n - xs.length) 0 ++ xs
theorem longer_len {xs : List Int} {n : Nat} (h : xs.length ≤ n) : (longer xs n).length = n := by
  unfold longer
  rw [List.length_append, List.length_replicate]
  omega
theorem longer_bits {xs : List Int} (h : Bits xs) (n : Nat) : Bits (longer xs n) := (Bits.rep _ (.inl rfl)).append h
def xorR (xs ys : List Int) : List Int := List.zipWith (fun a b => Builtin.bitXor a b) xs ys
theorem xor_bit {a b : Int} (ha : a = 0 ∨ a = 1) (hb : b = 0 ∨ b = 1) : Builtin.bitXor a b = (a + b) % 2 := by
  rcases ha with rfl | rfl <;> rcases hb with rfl | rfl <;> decide +kernel
theorem xorR_bits : ∀ {xs ys : List Int}, Bits xs → Bits ys → Bits (xorR xs ys)
  | [], _, _, _ => by intro x hx; cases hx
  | _ :: _, [], _, _ => by intro x hx; cases hx
  | x :: xs, y :: ys, hx, hy => by
    have h1 := hx x List.mem_cons_self
    have h2 := hy y List.mem_cons_self
    refine Bits.cons ?_ (xorR_bits (fun z k => hx z (List.mem_cons_of_mem _ k)) fun z k => hy z (List.mem_cons_of_mem _ k))
    show Builtin.bitXor x y = 0 ∨ Builtin.bitXor x y = 1
    rw [xor_bit h1 h2]
    exact bit_mod _
theorem at_nat {xs : List Int} {i : Int} {j : Nat} {n : Int} (e : i = (j : Int)) (h : xs[j]? = some n) : atI xs i = some n := by
  rw [e]
  exact atI_nat h
theorem max_cast (a b : Nat) : (if (b : Int) > (a : Int) then (b : Int) else (a : Int)) = ((max a b : Nat) : Int) := by
  split <;> omega

theorem el_lcXor {K : PySem.W.Frag} {ta tb : TE} {σ : L2.St} {H : Hp} {i j : Nat} {vs : List Nat} {te : TE} {xs ys : List Int} (ha : EvR ta σ H (iv xs)) (hb : EvR tb σ H (iv ys)) (hz : xs.length ≤ 1000000) (hw : ∀ x y, wipe (((wipe σ vs).set i (some x)).set j (some y)) vs = wipe σ vs)
    (he : ∀ (x y : Int) H1, Ev te (((wipe σ vs).set i (some (.int x))).set j (some (.int y))) H1 (.int (Builtin.bitXor x y))) :
    EvL (tLc (iZip K (tCons ta (tCons tb tNil))) (gTup K 2 (gCons (gName i) (gCons (gName j) gNil))) tYes te vs) σ H (iv (xorR xs ys)) := by
  refine el_is (el_lcZip (fun x y => match x, y with | .int a, .int b => .int (Builtin.bitXor a b) | _, _ => .non) ha hb (by rw [iv_len]; exact hz) hw (fun k x y H1 e hx hy => ?_)) ?_
  · obtain ⟨n, _, rfl⟩ := iv_at hx
    obtain ⟨m, _, rfl⟩ := iv_at hy
    exact he n m H1
  · unfold xorR iv
    rw [List.zipWith_map, List.map_zipWith]

section
variable {P : Program} {w : World} {K : PySem.W.Frag} {mg : Str → Option Value} {base : Heap} {cs : Cs}
/-! ## _law_cell_at -/
def cellV (ns : List Int) (k : Int) : Int := ns.getD k.toNat 0
def sp__law_cell_at (K : PySem.W.Frag) : Sp := fun vs H Q _ => ∃ (a : Addr) (ns : List Int) (k : Int), vs = [.ref a, .int k] ∧ SqL K H a (iv ns) ∧ 0 ≤ k ∧ RetV (.int (cellV ns k)) H Q
theorem has__law_cell_at (T : Txt K mg cs) : Has P w K mg base 1 "_law_cell_at" ["_law_script", "_law_k"] (sp__law_cell_at K) := by
  refine T.d__law_cell_at.ok sc__law_cell_at (fun vs H Q E h => ?_) (fun f cdv A outer s H vs Q E hr h => ?_)
  · obtain ⟨a, ns, k, rfl, _⟩ := h
    rfl
  · obtain ⟨a, ns, k, rfl, hS, h0, q⟩ := h
    refine ⟨_, (pss_cons (ps_if (pt_cmpR op_lt (pv 1) (pe_callB (kk_len K) (by rfl) T.z_len b_len (pa_cons (pv 0) pa_nil)) (nomark _)) (pss_one (ps_ret (pe_ix (kk_ixl K) (pv 0) (pv 1) (fun _ _ => rfl)))) pss_nil)
      (pss_one (ps_ret pe_int))), ?_⟩
    refine q_when (et_test (ev_i0 (ev_var rfl) (ev_len (ev_var rfl) hS))) (fun hb H1 e1 => ?_) (fun hb H1 e1 => ?_)
    · have hk : k.toNat < ns.length := by
        have z := of_decide_eq_true hb
        rw [iv_len] at z
        omega
      have hx : atI (iv ns) k = some (.int (cellV ns k)) := by
        rw [show k = ((k.toNat : Nat) : Int) by omega]
        refine atI_nat (iv_get ?_)
        unfold cellV
        rw [Int.toNat_natCast, List.getD_eq_getElem?_getD, List.getElem?_eq_getElem hk]
        rfl
      exact s_ret (ev_op (ev_var rfl) (ev_var rfl) (rv_ixL (ex_l e1 hS) hx)) fun H2 e2 => q H2 (e1.trans e2)
    · have hk : ns.length ≤ k.toNat := by
        have z := of_decide_eq_false hb
        rw [iv_len] at z
        omega
      have hx : cellV ns k = 0 := by
        unfold cellV
        rw [List.getD_eq_getElem?_getD, List.getElem?_eq_none hk]
        rfl
      rw [hx] at q
      exact s_ret ev_c fun H2 e2 => q H2 (e1.trans e2)
theorem ev_cell {E : XK} {ta tb : TE} {σ : L2.St} {H : Hp} {a : Addr} {ns : List Int} {k : Int} (ha : Ev ta σ H (.ref a)) (hb : Ev tb σ H (.int k)) (hS : SqL K H a (iv ns)) (h0 : 0 ≤ k) :
    Ev (tCall (sp__law_cell_at K) [] E (tCons ta (tCons tb tNil))) σ H (.int (cellV ns k)) := ev_call (ea_two ha hb) fun H1 e Q q _ => ⟨a, ns, k, rfl, ex_l e hS, h0, q⟩
local macro_rules | `(tactic| walk_at "cg ev") => `(tactic| ((with_reducible apply ev_cell); (exact ev_var rfl); (walk_at "cg ev"); (walk_at "cg sq"); (walk_at "cg ar")))

/-! ## _law_row_by: some row of that many signs -/
def sp__law_row_by : Sp := fun vs H Q _ => ∃ (c n : Int), vs = [.int c, .int n] ∧ 0 ≤ n ∧ n ≤ 100000 ∧ ∀ ks, Bits ks → (ks.length : Int) = n → RetL (iv ks) H Q
theorem has__law_row_by (T : Txt K mg cs) : Has P w K mg base 1 "_law_row_by" ["_law_cell", "_law_size"] sp__law_row_by := by
  refine T.d__law_row_by.ok sc__law_row_by (fun vs H Q E h => ?_) (fun f cdv A outer s H vs Q E hr h => ?_)
  · obtain ⟨a, n, rfl, _⟩ := h
    rfl
  · obtain ⟨c, n, rfl, h0, hn, q⟩ := h
    refine ⟨_, (pss_cons (ps_set (i := 2) sc__law_row_by.nd rfl (Or.inl rfl) (pe_lst pa_nil))
      (pss_cons (ps_set (i := 3) sc__law_row_by.nd rfl (Or.inl rfl) (pe_op op_mod (pe_op op_fdiv (pv 0) pe_int) pe_int))
      (pss_cons (ps_for (passes_of rfl) rfl (pi_range1 (by rfl) T.z_range (pa_cons (pv 1) pa_nil)) (pg_name (i := 4) sc__law_row_by.nd rfl (Or.inl rfl)) (pss_cons (ps_set (i := 3) sc__law_row_by.nd rfl (Or.inl rfl) (pe_op op_mod (pe_op op_add (pe_op op_mul (pv 3) pe_int) pe_int) pe_int))
      (pss_one (ps_expr (pe_bm PySem.F.plainAttrs_list PySem.F.slot_list_append PySem.F.type_list_append mt_append (pv 2) (pa_cons (pe_op op_mod (pe_op op_fdiv (pv 3) pe_int) pe_int) pa_nil))))))
      (pss_cut (ps_if (pt_cmpR op_eqII (pe_op op_mod (pv 0) pe_int) pe_int (nomark _)) (pss_one (ps_set (i := 2) sc__law_row_by.nd rfl (Or.inl rfl) (pe_op op_rep (pe_lst (pa_cons pe_int pa_nil)) (pv 1)))) pss_nil)
      (pss_cut (ps_if (pt_cmpR op_eqII (pe_op op_mod (pv 0) pe_int) pe_int (nomark _)) (pss_one (ps_setLc (i := 2) (own := [("_law_k", 4)]) (g := gName 4) (tt := tYes) rfl sc__law_row_by.nd rfl rfl (sw_true rfl rfl rfl (by decide +kernel)) (pi_range1 (by rfl) T.z_range (pa_cons (pv 1) pa_nil)) (blkOk_by (own := [("_law_k", 4)]) (N := N__law_row_by) (sc := defScope s__law_row_by) (by decide +kernel)) (fun _ _ _ _ _ => pg_name (i := 4) sc__law_row_by.nd rfl (Or.inl rfl)) (fun _ _ _ _ _ => pts_nil) (fun _ _ _ _ _ => (pe_callTy kk_int (by rfl) T.z_int b_int (pa_cons (pe_cmpR op_eqII (pv 4) (pe_op op_mod (pe_op op_fdiv (pv 0) pe_int) (pv 1)) (nomark _)) pa_nil))))) pss_nil)
      (pss_cut (ps_if (pt_cmpR op_eqII (pe_op op_mod (pv 0) pe_int) pe_int (nomark _)) (pss_one (ps_set (i := 2) sc__law_row_by.nd rfl (Or.inl rfl) (pe_op op_rep (pe_lst (pa_cons pe_int pa_nil)) (pv 1)))) pss_nil)
      (pss_one (ps_ret (pv 2))))))))), ?_⟩
    refine q_asgL (by exact el_nilI) fun p H1 hp e1 h1 => ?_
    refine q_asg (by walk_at "cg ev") fun H2 e2 => ?_
    refine q_forR1 (by walk_at "cg ea") ⟨h0, hn⟩ (fun i σ' H' => ∃ (st : Int) (ks : List Int) (v : Option V), σ' = [some (.int c), some (.int n), some (.ref p), some (.int st), v] ∧ Bits ks ∧ ks.length = i ∧ Ex H H' ∧ H' p = some (.lst (iv ks))) ?_ ?_ ?_
    · exact fun H3 e3 => ⟨_, [], none, rfl, .nil, rfl, (e1.trans e2).trans e3, e3 _ _ (e2 _ _ h1)⟩
    · rintro i σ' H' hi ⟨st, ks, v, rfl, hk, hl, e, hp'⟩
      refine q_asg (by walk_at "cg ev") fun H3 e3 => ?_
      refine s_appI hp (e.trans e3) (e3 _ _ hp') (ev_var rfl) (by walk_at "cg ev") (by omega) fun H4 e4 _ h4 => ?_
      exact ⟨_, _, _, rfl, hk.append (.one (bit_mod _)), by rw [List.length_append, hl]; rfl, e4, h4⟩
    · rintro σ' H' ⟨st, ks, v, rfl, hk, hl, e, hp'⟩
      have M0 : ∃ (p' : Addr) (ks : List Int), [some (V.int c), some (.int n), some (.ref p), some (.int st), v] = [some (V.int c), some (.int n), some (.ref p'), some (.int st), v] ∧ Bits ks ∧ (ks.length : Int) = n ∧ Ex H H' ∧ H p' = none ∧ H' p' = some (.lst (iv ks)) := ⟨p, ks, rfl, hk, by omega, e, hp, hp'⟩
      clear hp' e hk hl hp h1 e1 e2
      have hrep : ∀ (x : Int) (p' : Addr), ((List.replicate n.toNat x).length : Int) = n := fun x _ => by rw [List.length_replicate]; omega
      refine q_cut (M := fun σ' H' => ∃ (p' : Addr) (ks : List Int), σ' = [some (V.int c), some (.int n), some (.ref p'), some (.int st), v] ∧ Bits ks ∧ (ks.length : Int) = n ∧ Ex H H' ∧ H p' = none ∧ H' p' = some (.lst (iv ks))) ?_ ?_
      · refine s_when (by walk_at "cg et") (fun _ H3 e3 => ?_) (fun _ H3 e3 => ?_)
        · obtain ⟨p', ks, _, _, _, e, _, _⟩ := M0
          exact s_asgL (by walk_at "cg el") fun p2 H4 n4 e4 h4 => ⟨p2, _, rfl, Bits.rep _ (.inl rfl), hrep 0 p2, (e.trans e3).trans e4, fresh_back (e.trans e3) n4, h4⟩
        · obtain ⟨p', ks, es, a1, a2, e, a3, a4⟩ := M0
          exact ⟨p', ks, es, a1, a2, e.trans e3, a3, e3 _ _ a4⟩
      clear M0
      rintro σ' H' ⟨p0, ks0, rfl, M0⟩
      refine q_cut (M := fun σ' H' => ∃ (p' : Addr) (ks : List Int), σ' = [some (V.int c), some (.int n), some (.ref p'), some (.int st), v] ∧ Bits ks ∧ (ks.length : Int) = n ∧ Ex H H' ∧ H p' = none ∧ H' p' = some (.lst (iv ks))) ?_ ?_
      · refine s_when (by walk_at "cg et") (fun _ H3 e3 => ?_) (fun _ H3 e3 => ?_)
        · obtain ⟨_, _, e, _, _⟩ := M0
          refine s_asgL (el_lcRg (fun i => .int (if decide ((i : Int) = c / 8 % n) then 1 else 0)) (by walk_at "cg ea") ⟨h0, by omega⟩ (fun _ => rfl) (fun i H4 e4 hi => by walk_at "cg ev")) fun p2 H4 n4 e4 h4 =>
            ⟨p2, (List.range n.toNat).map (fun (i : Nat) => if decide ((i : Int) = c / 8 % n) then (1 : Int) else 0), rfl, fun x hx => ?_, by rw [List.length_map, List.length_range]; omega, (e.trans e3).trans e4, fresh_back (e.trans e3) n4, ?_⟩
          · obtain ⟨i, _, rfl⟩ := List.mem_map.mp hx
            split
            · exact .inr rfl
            · exact .inl rfl
          · rw [h4]
            unfold iv
            rw [List.map_map]
            rfl
        · exact ⟨p0, ks0, rfl, M0.1, M0.2.1, M0.2.2.1.trans e3, M0.2.2.2.1, e3 _ _ M0.2.2.2.2⟩
      clear M0
      rintro σ' H' ⟨p0, ks0, rfl, M0⟩
      refine q_cut (M := fun σ' H' => ∃ (p' : Addr) (ks : List Int), σ' = [some (V.int c), some (.int n), some (.ref p'), some (.int st), v] ∧ Bits ks ∧ (ks.length : Int) = n ∧ Ex H H' ∧ H p' = none ∧ H' p' = some (.lst (iv ks))) ?_ ?_
      · refine s_when (by walk_at "cg et") (fun _ H3 e3 => ?_) (fun _ H3 e3 => ?_)
        · obtain ⟨_, _, e, _, _⟩ := M0
          exact s_asgL (by walk_at "cg el") fun p2 H4 n4 e4 h4 => ⟨p2, _, rfl, Bits.rep _ (.inr rfl), hrep 1 p2, (e.trans e3).trans e4, fresh_back (e.trans e3) n4, h4⟩
        · exact ⟨p0, ks0, rfl, M0.1, M0.2.1, M0.2.2.1.trans e3, M0.2.2.2.1, e3 _ _ M0.2.2.2.2⟩
      rintro σ' H' ⟨p0, ks0, rfl, hk, hl, e, hp, h⟩
      exact s_ret (ev_var rfl) fun H3 e3 => q ks0 hk hl p0 H3 hp (e.trans e3) (e3 _ _ h)

/-! ## _law_is_row: where it is one -/
def sp__law_is_row : Sp := fun vs H Q _ => ∃ (a : Addr) (ns : List Int), vs = [.ref a, .int (ns.length : Int)] ∧ H a = some (.lst (iv ns)) ∧ Bits ns ∧ ns.length ≤ 100000 ∧ RetV (.bl true) H Q
theorem has__law_is_row (T : Txt K mg cs) : Has P w K mg base 1 "_law_is_row" ["_law_found", "_law_size"] sp__law_is_row := by
  refine T.d__law_is_row.ok sc__law_is_row (fun vs H Q E h => ?_) (fun f cdv A outer s H vs Q E hr h => ?_)
  · obtain ⟨a, n, rfl, _⟩ := h
    rfl
  · obtain ⟨a, ns, rfl, ha, hb, hl, q⟩ := h
    refine ⟨_, (pss_cons (ps_if (PW.pt (pw_or (pt_not (pt_val (pe_callB (kk_isi K) (by rfl) T.z_isinstance b_isinstance (pa_cons (pv 0) (pa_cons (pe_bltn (v := .ty "list") (u := .type "list") (by rfl) T.z_list b_list rfl) pa_nil))))) (pw_or1 (pt_cmpR op_neII (pe_callB (kk_len K) (by rfl) T.z_len b_len (pa_cons (pv 0) pa_nil)) (pv 1) (nomark _))))) (pss_one (ps_ret pe_bl)) pss_nil)
      (pss_one (ps_ret (pe_callB (kk_all K rfl) (by rfl) T.z_all b_all (pa_cons (pe_lc (own := [("_law_x", 2)]) (g := gName 2) (tt := tYes) rfl sc__law_is_row.nd (pi_list (pv 0)) (blkOk_by (own := [("_law_x", 2)]) (N := N__law_is_row) (sc := defScope s__law_is_row) (by decide +kernel)) (fun _ _ _ _ _ => pg_name (i := 2) sc__law_is_row.nd rfl (Or.inl rfl)) (fun _ _ _ _ _ => pts_nil) (fun _ _ _ _ _ => (pe_and (pe_callB (kk_isi K) (by rfl) T.z_isinstance b_isinstance (pa_cons (pv 2) (pa_cons (pe_bltn (v := .ty "int") (u := .type "int") (by rfl) T.z_int b_int rfl) pa_nil))) (pe_and (pe_not (pe_callB (kk_isi K) (by rfl) T.z_isinstance b_isinstance (pa_cons (pv 2) (pa_cons (pe_bltn (v := .ty "bool") (u := .type "bool") (by rfl) T.z_bool b_bool rfl) pa_nil)))) (pe_one (pe_chain op_le op_le pe_int (pv 2) pe_int)))))) pa_nil))))), ?_⟩
    refine q_when (et_or (by walk_at "cg et") (fun _ => by walk_at "cg et")) (fun hb H1 e1 => ?_) (fun _ H1 e1 => ?_)
    · simp at hb
    · refine s_ret (ev_allR (bs := (iv ns).map fun _ => true) (er_L (el_is (el_lcMap (fun _ => .bl true) (by walk_at "cg er") (by rw [iv_len]; omega) (fun _ => rfl) (fun i x H2 e2 hx => ?_)) ?_))) fun H2 e2 => ?_
      · obtain ⟨n, hn, rfl⟩ := iv_at hx
        have hn01 : (decide ((0 : Int) ≤ n) && decide (n ≤ 1)) = true := by
          rcases hb.get hn with rfl | rfl <;> rfl
        refine ev_is (ev_andV (by walk_at "cg ev") (fun _ => ev_andV (by walk_at "cg ev") (fun _ => ev_one (by walk_at "cg ev")))) ?_
        rw [hn01]
        rfl
      · rw [List.map_map]
        unfold iv
        rw [List.map_map, List.map_map]
        rfl
      · have z : ((iv ns).map fun _ => true).all id = true := by simp
        rw [z]
        exact q H2 (e1.trans e2)
theorem et_is_row {E : XK} {ta tb : TE} {σ : L2.St} {H : Hp} {ns : List Int} (ha : EvR ta σ H (iv ns)) (hb : Ev tb σ H (.int (ns.length : Int))) (h1 : Bits ns) (h2 : ns.length ≤ 100000) :
    Ev (tCall sp__law_is_row [] E (tCons ta (tCons tb tNil))) σ H (.bl true) := fun H1 e Q q => ha H1 e _ fun a H2 e2 h2' => hb H2 (e.trans e2) _ fun H3 e3 => ⟨a, ns, rfl, e3 _ _ h2', h1, h2, fun H4 e4 => q H4 ((e2.trans e3).trans e4)⟩

/-! ## is_sign, need_row, where a row stands -/
def sp_is_sign : Sp := fun vs H Q _ => ∃ (n : Int), vs = [.int n] ∧ (n = 0 ∨ n = 1) ∧ RetV (.bl true) H Q
theorem has_is_sign (T : Txt K mg cs) : Has P w K mg base 1 "is_sign" ["value"] sp_is_sign := by
  refine T.d_is_sign.ok sc_is_sign (fun vs H Q E h => ?_) (fun f cdv A outer s H vs Q E hr h => ?_)
  · obtain ⟨n, rfl, _⟩ := h
    rfl
  · obtain ⟨n, rfl, hn, q⟩ := h
    refine ⟨_, (pss_one (ps_ret (pe_and (pe_callB (kk_isi K) (by rfl) T.z_isinstance b_isinstance (pa_cons (pv 0) (pa_cons (pe_bltn (v := .ty "int") (u := .type "int") (by rfl) T.z_int b_int rfl) pa_nil))) (pe_and (pe_not (pe_callB (kk_isi K) (by rfl) T.z_isinstance b_isinstance (pa_cons (pv 0) (pa_cons (pe_bltn (v := .ty "bool") (u := .type "bool") (by rfl) T.z_bool b_bool rfl) pa_nil)))) (pe_one (pe_cmpR (kk_in K) (pv 0) (pe_tup (pa_cons pe_int (pa_cons pe_int pa_nil))) rfl)))))), ?_⟩
    refine s_ret (ev_is (ev_andV (by walk_at "cg ev") (fun _ => ev_andV (by walk_at "cg ev") (fun _ => ev_one (ev_inU (by walk_at "cg ev") (eu_tup (by walk_at "cg ea") (by decide)) rfl rfl)))) ?_) q
    rcases hn with rfl | rfl <;> rfl
def sp_need_row : Sp := fun vs H Q _ => ∃ (a : Addr) (ns : List Int), vs = [.ref a] ∧ H a = some (.lst (iv ns)) ∧ Bits ns ∧ RetV .non H Q
theorem has_need_row (T : Txt K mg cs) : Has P w K mg base 2 "need_row" ["row"] sp_need_row := by
  refine T.d_need_row.ok sc_need_row (fun vs H Q E h => ?_) (fun f cdv A outer s H vs Q E hr h => ?_)
  · obtain ⟨a, n, rfl, _⟩ := h
    rfl
  · obtain ⟨a, ns, rfl, ha, hb, q⟩ := h
    refine ⟨_, (pss_cons (ps_if (pt_not (pt_val (pe_callB (kk_isi K) (by rfl) T.z_isinstance b_isinstance (pa_cons (pv 0) (pa_cons (pe_bltn (v := .ty "list") (u := .type "list") (by rfl) T.z_list b_list rfl) pa_nil))))) (pss_one ps_never) pss_nil)
      (pss_one (ps_for (passes_of rfl) rfl (pi_list (pv 0)) (pg_name (i := 1) sc_need_row.nd rfl (Or.inl rfl)) (pss_one (ps_if (pt_not (pt_val (pe_callH (has_is_sign T) (hr.mono (by decide)) (passes_call (takes_of rfl rfl rfl rfl) (fun _ _ _ _ h => h)) (pa_cons (pv 1) pa_nil)))) (pss_one ps_never) pss_nil))))), ?_⟩
    refine q_when (by walk_at "cg et") (fun hb H1 e1 => ?_) (fun _ H1 e1 => ?_)
    · simp at hb
    · refine s_forLn (ev_var rfl) (by walk_at "cg sq") (fun i σ' H' => Ex H H' ∧ ∃ v, σ' = [some (.ref a), v]) (fun H2 e2 => ⟨e1.trans e2, none, rfl⟩) (fun i σ' H' _ h => sq_of (h.1 _ _ ha)) (fun i x σ' H' hx h => ?_) (fun σ' H' h => q _ h.1)
      obtain ⟨e, v, rfl⟩ := h
      obtain ⟨n, hn, rfl⟩ := iv_at hx
      refine s_when (et_not (et_B (ev_call (by walk_at "cg ea") fun H1 e1 Q q _ => ⟨n, rfl, hb.get hn, q⟩))) (fun hb H2 e2 => ?_) (fun _ H2 e2 => ⟨e.trans e2, _, rfl⟩)
      simp at hb

/-! ## lengthened, added -/
def sp_lengthened : Sp := fun vs H Q _ => ∃ (a : Addr) (ns : List Int) (n : Nat), vs = [.ref a, .int (n : Int)] ∧ H a = some (.lst (iv ns)) ∧ ns.length ≤ n ∧ n ≤ 100000 ∧ RetL (iv (longer ns n)) H Q
theorem has_lengthened (T : Txt K mg cs) : Has P w K mg base 1 "lengthened" ["row", "length"] sp_lengthened := by
  refine T.d_lengthened.ok sc_lengthened (fun vs H Q E h => ?_) (fun f cdv A outer s H vs Q E hr h => ?_)
  · obtain ⟨a, ns, n, rfl, _⟩ := h
    rfl
  · obtain ⟨a, ns, n, rfl, ha, h1, h2, q⟩ := h
    refine ⟨_, (pss_one (ps_ret (pe_op op_cat (pe_op op_rep (pe_lst (pa_cons pe_int pa_nil)) (pe_op op_sub (pv 1) (pe_callB (kk_len K) (by rfl) T.z_len b_len (pa_cons (pv 0) pa_nil)))) (pv 0)))), ?_⟩
    refine s_retL (el_is (el_catI (xs := List.replicate ((n : Int) - (ns.length : Int)).toNat 0) (ys := ns) (er_L (el_repI (by walk_at "cg ev") (by walk_at "cg ev") (by walk_at "cg ar"))) (by walk_at "cg er") (by rw [List.length_replicate]; omega)) ?_) q
    unfold longer
    rw [show ((n : Int) - (ns.length : Int)).toNat = n - ns.length by omega]
def addR (xs ys : List Int) : List Int := xorR (longer xs (max xs.length ys.length)) (longer ys (max xs.length ys.length))
def sp_added : Sp := fun vs H Q _ => ∃ (a b : Addr) (xs ys : List Int), vs = [.ref a, .ref b] ∧ H a = some (.lst (iv xs)) ∧ H b = some (.lst (iv ys)) ∧ Bits xs ∧ Bits ys ∧ xs.length ≤ 10000 ∧ ys.length ≤ 10000 ∧ RetL (iv (addR xs ys)) H Q
theorem has_added (T : Txt K mg cs) : Has P w K mg base 3 "added" ["one", "other"] sp_added := by
  refine T.d_added.ok sc_added (fun vs H Q E h => ?_) (fun f cdv A outer s H vs Q E hr h => ?_)
  · obtain ⟨a, b, xs, ys, rfl, _⟩ := h
    rfl
  · obtain ⟨a, b, xs, ys, rfl, ha, hb, bx, bY, lx, ly, q⟩ := h
    refine ⟨_, (pss_cons (ps_expr (pe_callH (has_need_row T) (hr.mono (by decide)) (passes_call (takes_of rfl rfl rfl rfl) (fun _ _ _ _ h => h)) (pa_cons (pv 0) pa_nil)))
      (pss_cons (ps_expr (pe_callH (has_need_row T) (hr.mono (by decide)) (passes_call (takes_of rfl rfl rfl rfl) (fun _ _ _ _ h => h)) (pa_cons (pv 1) pa_nil)))
      (pss_cons (ps_set (i := 2) sc_added.nd rfl (Or.inl rfl) (pe_callB (kk_max rfl) (by rfl) T.z_max b_max (pa_cons (pe_callB (kk_len K) (by rfl) T.z_len b_len (pa_cons (pv 0) pa_nil)) (pa_cons (pe_callB (kk_len K) (by rfl) T.z_len b_len (pa_cons (pv 1) pa_nil)) pa_nil))))
      (pss_cons (ps_set (i := 3) sc_added.nd rfl (Or.inl rfl) (pe_callH (has_lengthened T) (hr.mono (by decide)) (passes_call (takes_of rfl rfl rfl rfl) (fun _ _ _ _ h => h)) (pa_cons (pv 0) (pa_cons (pv 2) pa_nil))))
      (pss_cons (ps_set (i := 4) sc_added.nd rfl (Or.inl rfl) (pe_callH (has_lengthened T) (hr.mono (by decide)) (passes_call (takes_of rfl rfl rfl rfl) (fun _ _ _ _ h => h)) (pa_cons (pv 1) (pa_cons (pv 2) pa_nil))))
      (pss_one (ps_ret (pe_lc (own := [("a", 5), ("b", 6)]) (g := gTup K 2 (gCons (gName 5) (gCons (gName 6) gNil))) (tt := tYes) rfl sc_added.nd (pi_zip (by rfl) T.z_zip (pa_cons (pv 3) (pa_cons (pv 4) pa_nil))) (blkOk_by (own := [("a", 5), ("b", 6)]) (N := N_added) (sc := defScope s_added) (by decide +kernel)) (fun _ _ _ _ _ => pg_tup rfl (pgs_cons (pg_name (i := 5) sc_added.nd rfl (Or.inl rfl)) (pgs_cons (pg_name (i := 6) sc_added.nd rfl (Or.inl rfl)) pgs_nil))) (fun _ _ _ _ _ => pts_nil) (fun _ _ _ _ _ => (pe_op op_xor (pv 5) (pv 6))))))))))), ?_⟩
    refine q_dropC (by walk_at "cg ea") fun H1 e1 => ⟨a, xs, rfl, by walk_at "cg hp", bx, fun H2 e2 => ?_⟩
    refine q_dropC (by walk_at "cg ea") fun H3 e3 => ⟨b, ys, rfl, by walk_at "cg hp", bY, fun H4 e4 => ?_⟩
    refine q_asg (ev_is (ev_max2 (ev_lenI (xs := xs) (by walk_at "cg er")) (ev_lenI (xs := ys) (by walk_at "cg er"))) (congrArg V.int (max_cast _ _))) fun H5 e5 => ?_
    refine q_asgC (by walk_at "cg ea") fun H6 e6 => ⟨a, xs, _, rfl, by walk_at "cg hp", by omega, by omega, fun p H7 hp e7 h7 => ?_⟩
    refine q_asgC (by walk_at "cg ea") fun H8 e8 => ⟨b, ys, _, rfl, by walk_at "cg hp", by omega, by omega, fun p' H9 hp' e9 h9 => ?_⟩
    have e : Ex H H9 := (((((((e1.trans e2).trans e3).trans e4).trans e5).trans e6).trans e7).trans e8).trans e9
    refine s_retL (el_lcXor (xs := longer xs (max xs.length ys.length)) (ys := longer ys (max xs.length ys.length)) (er_var rfl (e9 _ _ (e8 _ _ h7))) (er_var rfl h9) (by rw [longer_len (by omega)]; omega) (fun _ _ => rfl) (fun x y H1 => by walk_at "cg ev")) fun p2 H10 n10 e10 h10 => ?_
    exact q p2 H10 (fresh_back e n10) (e.trans e10) h10

/-! ## _law_at, the law -/
def atP (xs : List Int) (p : Nat) : Int := if p < xs.length then xs.getD (xs.length - 1 - p) 0 else 0
def sp__law_at : Sp := fun vs H Q _ => ∃ (a : Addr) (xs : List Int) (p : Nat), vs = [.ref a, .int (p : Int)] ∧ H a = some (.lst (iv xs)) ∧ RetV (.int (atP xs p)) H Q
theorem has__law_at (T : Txt K mg cs) : Has P w K mg base 1 "_law_at" ["_law_row", "_law_power"] sp__law_at := by
  refine T.d__law_at.ok sc__law_at (fun vs H Q E h => ?_) (fun f cdv A outer s H vs Q E hr h => ?_)
  · obtain ⟨a, ns, k, rfl, _⟩ := h
    rfl
  · obtain ⟨a, xs, p, rfl, ha, q⟩ := h
    refine ⟨_, (pss_cons (ps_if (pt_cmpR op_lt (pv 1) (pe_callB (kk_len K) (by rfl) T.z_len b_len (pa_cons (pv 0) pa_nil)) (nomark _)) (pss_one (ps_ret (pe_ix (kk_ixl K) (pv 0) (pe_op op_sub (pe_op op_sub (pe_callB (kk_len K) (by rfl) T.z_len b_len (pa_cons (pv 0) pa_nil)) pe_int) (pv 1)) (fun _ _ => rfl)))) pss_nil)
      (pss_one (ps_ret pe_int))), ?_⟩
    refine q_when (by walk_at "cg et") (fun hb H1 e1 => ?_) (fun hb H1 e1 => ?_)
    · have hp : p < xs.length := by
        have z := of_decide_eq_true hb
        omega
      have hx : xs[xs.length - 1 - p]? = some (atP xs p) := by
        unfold atP
        rw [if_pos hp, List.getD_eq_getElem?_getD, List.getElem?_eq_getElem (by omega)]
        rfl
      exact s_ret (ev_ixI (i := (xs.length : Int) - 1 - (p : Int)) (by walk_at "cg er") (by walk_at "cg ev") (at_nat (by omega) hx)) fun H2 e2 => q H2 (e1.trans e2)
    · have hp : ¬ p < xs.length := by
        have z := of_decide_eq_false hb
        omega
      have hx : atP xs p = 0 := if_neg hp
      rw [hx] at q
      exact s_ret ev_c fun H2 e2 => q H2 (e1.trans e2)
theorem longer_at {xs : List Int} {n p : Nat} (h : xs.length ≤ n) (hp : p < n) : (longer xs n)[n - 1 - p]? = some (atP xs p) := by
  unfold longer atP
  by_cases hl : p < xs.length
  · rw [if_pos hl, List.getElem?_append_right (by rw [List.length_replicate]; omega), List.length_replicate, show n - 1 - p - (n - xs.length) = xs.length - 1 - p by omega, List.getD_eq_getElem?_getD, List.getElem?_eq_getElem (by omega)]
    rfl
  · rw [if_neg hl, List.getElem?_append_left (by rw [List.length_replicate]; omega), List.getElem?_replicate, if_pos (by omega)]
theorem atP_bit {xs : List Int} (h : Bits xs) (p : Nat) : atP xs p = 0 ∨ atP xs p = 1 := by
  unfold atP
  split
  · rw [List.getD_eq_getElem?_getD, List.getElem?_eq_getElem (by omega)]
    exact h _ (List.getElem_mem _)
  · exact .inl rfl
theorem addR_len (xs ys : List Int) : (addR xs ys).length = max xs.length ys.length := by
  unfold addR xorR
  rw [List.length_zipWith, longer_len (by omega), longer_len (by omega)]
  omega
theorem addR_bits {xs ys : List Int} (h : Bits xs) (k : Bits ys) : Bits (addR xs ys) := xorR_bits (longer_bits h _) (longer_bits k _)
theorem addR_at {xs ys : List Int} (hx : Bits xs) (hy : Bits ys) {p : Nat} (hp : p < max xs.length ys.length) : (addR xs ys)[max xs.length ys.length - 1 - p]? = some ((atP xs p + atP ys p) % 2) := by
  unfold addR xorR
  rw [List.getElem?_zipWith, longer_at (by omega) hp, longer_at (by omega) hp]
  exact congrArg some (xor_bit (atP_bit hx p) (atP_bit hy p))
def sp_law (K : PySem.W.Frag) : Sp := fun vs H Q _ => ∃ (a : Addr) (ns : List Int), vs = [.ref a] ∧ SqL K H a (iv ns) ∧ ns.length ≤ 63 ∧ ∀ H', Q (.bl true) H'
theorem ok_law {f : Addr} {fd : FuncData} (F : Fun K "law" "law" s_law f fd) (T : Txt K mg cs) : FnOk P w K mg base (L2.CX P w) 4 f fd ["_law_script"] (sp_law K) := by
  refine F.okX sc_law (fun vs H Q E h => ?_) (fun cdv A outer s H vs Q E hr h => ?_)
  · obtain ⟨a, ns, rfl, _⟩ := h
    rfl
  · obtain ⟨a, ns, rfl, hS, hlen, q⟩ := h
    refine ⟨_, (pss_cons (ps_set (i := 1) sc_law.nd rfl (Or.inl rfl) (pe_op op_mod (pe_callH (has__law_cell_at T) (hr.mono (by decide)) passL (pa_cons (pv 0) (pa_cons pe_int pa_nil))) pe_int))
      (pss_cons (ps_set (i := 2) sc_law.nd rfl (Or.inl rfl) (pe_op op_mod (pe_callH (has__law_cell_at T) (hr.mono (by decide)) passL (pa_cons (pv 0) (pa_cons pe_int pa_nil))) pe_int))
      (pss_cons (ps_set (i := 3) sc_law.nd rfl (Or.inl rfl) (pe_op op_mod (pe_op op_fdiv (pe_callH (has__law_cell_at T) (hr.mono (by decide)) passL (pa_cons (pv 0) (pa_cons pe_int pa_nil))) pe_int) pe_int))
      (pss_cut (ps_if (pt_cmpR op_lt (pv 3) pe_int (nomark _)) (pss_cons (ps_set (i := 1) sc_law.nd rfl (Or.inl rfl) (pe_op op_mod (pe_op op_fdiv (pe_callH (has__law_cell_at T) (hr.mono (by decide)) passL (pa_cons (pv 0) (pa_cons pe_int pa_nil))) pe_int) pe_int))
      (pss_one (ps_set (i := 2) sc_law.nd rfl (Or.inl rfl) (pe_op op_mod (pe_op op_fdiv (pe_callH (has__law_cell_at T) (hr.mono (by decide)) passL (pa_cons (pv 0) (pa_cons pe_int pa_nil))) pe_int) pe_int)))) pss_nil)
      (pss_cut (ps_if (pt_cmpR op_eqII (pv 3) pe_int (nomark _)) (pss_cons (ps_set (i := 1) sc_law.nd rfl (Or.inl rfl) (pe_op op_mod (pe_op op_mul (pe_op op_fdiv (pe_callH (has__law_cell_at T) (hr.mono (by decide)) passL (pa_cons (pv 0) (pa_cons pe_int pa_nil))) pe_int) pe_int) pe_int))
      (pss_one (ps_set (i := 2) sc_law.nd rfl (Or.inl rfl) (pe_op op_mod (pe_op op_mul (pe_op op_fdiv (pe_callH (has__law_cell_at T) (hr.mono (by decide)) passL (pa_cons (pv 0) (pa_cons pe_int pa_nil))) pe_int) pe_int) pe_int)))) pss_nil)
      (pss_cons (ps_set (i := 4) sc_law.nd rfl (Or.inl rfl) (pe_callH (has__law_row_by T) (hr.mono (by decide)) passL (pa_cons (pe_callH (has__law_cell_at T) (hr.mono (by decide)) passL (pa_cons (pv 0) (pa_cons pe_int pa_nil))) (pa_cons (pv 1) pa_nil))))
      (pss_cons (ps_set (i := 5) sc_law.nd rfl (Or.inl rfl) (pe_callH (has__law_row_by T) (hr.mono (by decide)) passL (pa_cons (pe_callH (has__law_cell_at T) (hr.mono (by decide)) passL (pa_cons (pv 0) (pa_cons pe_int pa_nil))) (pa_cons (pv 2) pa_nil))))
      (pss_cons (ps_set (i := 6) sc_law.nd rfl (Or.inl rfl) (pe_callB (kk_max rfl) (by rfl) T.z_max b_max (pa_cons (pv 1) (pa_cons (pv 2) pa_nil))))
      (pss_cons (ps_set (i := 7) sc_law.nd rfl (Or.inl rfl) (pe_callTy (kk_list K) (by rfl) T.z_list b_list (pa_cons (pv 4) pa_nil)))
      (pss_cons (ps_set (i := 8) sc_law.nd rfl (Or.inl rfl) (pe_callTy (kk_list K) (by rfl) T.z_list b_list (pa_cons (pv 5) pa_nil)))
      (pss_cons (ps_set (i := 9) sc_law.nd rfl (Or.inl rfl) (pe_callH (has_added T) (hr.mono (by decide)) passL (pa_cons (pv 7) (pa_cons (pv 8) pa_nil))))
      (pss_cons (ps_if (pt_not (pt_val (pe_callH (has__law_is_row T) (hr.mono (by decide)) passL (pa_cons (pv 9) (pa_cons (pv 6) pa_nil))))) (pss_one (ps_ret pe_bl)) pss_nil)
      (pss_cons (ps_for (passes_of rfl) rfl (pi_range1 (by rfl) T.z_range (pa_cons (pv 6) pa_nil)) (pg_name (i := 10) sc_law.nd rfl (Or.inl rfl)) (pss_one (ps_if (pt_cmpR op_neII (pe_ix (kk_ixl K) (pv 9) (pe_op op_sub (pe_op op_sub (pv 6) pe_int) (pv 10)) (fun _ _ => rfl)) (pe_op op_mod (pe_op op_add (pe_callH (has__law_at T) (hr.mono (by decide)) passL (pa_cons (pv 4) (pa_cons (pv 10) pa_nil))) (pe_callH (has__law_at T) (hr.mono (by decide)) passL (pa_cons (pv 5) (pa_cons (pv 10) pa_nil)))) pe_int) (nomark _)) (pss_one (ps_ret pe_bl)) pss_nil)))
      (pss_cons (ps_expr (pe_bm PySem.F.plainAttrs_list PySem.F.slot_list_append PySem.F.type_list_append mt_append (pv 9) (pa_cons pe_int pa_nil)))
      (pss_one (ps_ret (pe_and (pe_cmpR (kk_eqD K hr.units) (pv 7) (pv 4) (nomark _)) (pe_one (pe_cmpR (kk_eqD K hr.units) (pv 8) (pv 5) (nomark _)))))))))))))))))))), ?_⟩
    refine q_asg (by walk_at "cg ev") fun H1 e1 => ?_
    refine q_asg (by walk_at "cg ev") fun H2 e2 => ?_
    refine q_asg (by walk_at "cg ev") fun H3 e3 => ?_
    generalize hsz : cellV ns 0 % 9 = sz
    generalize hmo : cellV ns 1 % 9 = mo
    generalize cellV ns 0 / 9 % 16 = way
    have e : Ex H H3 := (e1.trans e2).trans e3
    have hs1 : 0 ≤ sz ∧ sz ≤ 4200 := by omega
    have hm1 : 0 ≤ mo ∧ mo ≤ 4200 := by omega
    clear hsz hmo e1 e2 e3
    refine q_cut (M := fun σ' H' => ∃ (sz mo : Int), σ' = [some (.ref a), some (.int sz), some (.int mo), some (.int way), none, none, none, none, none, none, none] ∧ (0 ≤ sz ∧ sz ≤ 4200) ∧ (0 ≤ mo ∧ mo ≤ 4200) ∧ Ex H H') ?_ ?_
    · refine s_when (by walk_at "cg et") (fun _ H4 e4 => ?_) (fun _ H4 e4 => ⟨sz, mo, rfl, hs1, hm1, e.trans e4⟩)
      exact q_asg (by walk_at "cg ev") fun H5 e5 => s_asg (by walk_at "cg ev") fun H6 e6 => ⟨_, _, rfl, by omega, by omega, ((e.trans e4).trans e5).trans e6⟩
    clear e
    rintro σ' H4 ⟨sz, mo, rfl, hs1, hm1, e⟩
    refine q_cut (M := fun σ' H' => ∃ (sz mo : Nat), σ' = [some (.ref a), some (.int (sz : Int)), some (.int (mo : Int)), some (.int way), none, none, none, none, none, none, none] ∧ sz ≤ 4200 ∧ mo ≤ 4200 ∧ Ex H H') ?_ ?_
    · refine s_when (by walk_at "cg et") (fun _ H5 e5 => ?_) (fun _ H5 e5 => ⟨sz.toNat, mo.toNat, by rw [Int.toNat_of_nonneg hs1.1, Int.toNat_of_nonneg hm1.1], by omega, by omega, e.trans e5⟩)
      refine q_asg (by walk_at "cg ev") fun H6 e6 => s_asg (by walk_at "cg ev") fun H7 e7 => ⟨(cellV ns 0 / 144 * 48271 % 4201).toNat, (cellV ns 1 / 9 * 48271 % 4201).toNat, ?_, by omega, by omega, ((e.trans e5).trans e6).trans e7⟩
      rw [Int.toNat_of_nonneg (Int.emod_nonneg _ (by decide)), Int.toNat_of_nonneg (Int.emod_nonneg _ (by decide))]
      rfl
    clear e hs1 hm1
    rintro σ' H5 ⟨n, m, rfl, hn, hm, e⟩
    refine q_asgC (by walk_at "cg ea") fun H6 e6 => ⟨_, _, rfl, by omega, by omega, fun xs bx lx p1 H7 n7 e7 h7 => ?_⟩
    refine q_asgC (by walk_at "cg ea") fun H8 e8 => ⟨_, _, rfl, by omega, by omega, fun ys bY ly p2 H9 n9 e9 h9 => ?_⟩
    have lx' : xs.length = n := by omega
    have ly' : ys.length = m := by omega
    subst lx' ly'
    refine q_asg (ev_is (ev_max2 (ev_var rfl) (ev_var rfl)) (congrArg V.int (max_cast _ _))) fun H10 e10 => ?_
    refine q_asgL (by walk_at "cg el") fun p3 H11 n11 e11 h11 => ?_
    refine q_asgL (by walk_at "cg el") fun p4 H12 n12 e12 h12 => ?_
    refine q_asgC (by walk_at "cg ea") fun H13 e13 => ⟨p3, p4, xs, ys, rfl, by walk_at "cg hp", by walk_at "cg hp", bx, bY, by omega, by omega, fun p5 H14 n14 e14 h14 => ?_⟩
    refine q_when (et_not (et_B (et_is_row (ns := addR xs ys) (by walk_at "cg er") (by rw [addR_len]; walk_at "cg ev") (addR_bits bx bY) (by rw [addR_len]; omega)))) (fun hb _ _ => by simp at hb) (fun _ H15 e15 => ?_)
    have c1 : H13 p1 = some (.lst (iv xs)) := by walk_at "cg hp"
    have c2 : H13 p2 = some (.lst (iv ys)) := by walk_at "cg hp"
    have c3 : H13 p3 = some (.lst (iv xs)) := by walk_at "cg hp"
    have c4 : H13 p4 = some (.lst (iv ys)) := by walk_at "cg hp"
    have eB : Ex H13 H15 := e14.trans e15
    have c5 : H15 p5 = some (.lst (iv (addR xs ys))) := e15 _ _ h14
    clear e6 e7 e8 e9 e10 e11 e12 h7 h9 h11 h12 e14 e15 h14 e13
    refine q_forR1 (by walk_at "cg ea") (by omega) (fun i σ' H' => Ex H15 H' ∧ ∃ v, σ' = [some (.ref a), some (.int (xs.length : Int)), some (.int (ys.length : Int)), some (.int way), some (.ref p1), some (.ref p2), some (.int (max xs.length ys.length : Nat)), some (.ref p3), some (.ref p4), some (.ref p5), v]) ?_ ?_ ?_
    · exact fun H16 e16 => ⟨e16, none, rfl⟩
    · rintro i σ' H' hi ⟨e', v, rfl⟩
      have hi' : i < max xs.length ys.length := by omega
      have d5 := addR_at bx bY hi'
      refine s_when (et_test (ev_op (ev_ixI (by walk_at "cg er") (by walk_at "cg ev") (at_nat (j := max xs.length ys.length - 1 - i) (by omega) d5)) (ev_mod (ev_i0 (ev_call (by walk_at "cg ea") fun H1 e Q q _ => ⟨p1, xs, i, rfl, by walk_at "cg hp", q⟩) (ev_call (by walk_at "cg ea") fun H1 e Q q _ => ⟨p2, ys, i, rfl, by walk_at "cg hp", q⟩)) ev_c (by walk_at "cg ar")) rv_I0)) (fun hb _ _ => by simp at hb) (fun _ H16 e16 => ⟨e'.trans e16, _, rfl⟩)
    · rintro σ' H' ⟨e', v, rfl⟩
      refine q_appI n14 (eB.trans e') (e' _ _ c5) (ev_var rfl) ev_c (by rw [addR_len]; omega) fun H16 e16 _ h16 => ?_
      refine s_ret (ev_is (ev_andV (by walk_at "cg ev") (fun _ => ev_one (by walk_at "cg ev"))) ?_) fun H17 e17 => q H17
      simp

end
theorem all_mk {l : PySem.W.OpenLaw} {w : World} {K : PySem.W.Frag} {h : Heap} {mg : Str → Option Value} {fa f0 f1 f2 f3 f4 f5 f6 f7 f8 x0 x1 : Addr} (X : K.In h) (G : h.Ns mainGlobals mg) (hfa : mg "law" = some (.ref fa))
    {od0 an0 od1 an1 od2 an2 od3 an3 od4 an4 od5 an5 od6 an6 od7 an7 od8 an8 : Option Addr} {sl0 sl1 sl2 sl3 sl4 sl5 sl6 sl7 sl8 : Array (Option Value)} {oc0 kV0 dc0 pm0 cd0 ct0 oc1 kV1 dc1 pm1 cd1 ct1 oc2 kV2 dc2 pm2 cd2 ct2 oc3 kV3 dc3 pm3 cd3 ct3 oc4 kV4 dc4 pm4 cd4 ct4 oc5 kV5 dc5 pm5 cd5 ct5 oc6 kV6 dc6 pm6 cd6 ct6 oc7 kV7 dc7 pm7 cd7 ct7 oc8 kV8 dc8 pm8 cd8 ct8 : Value}
    (a0 : PySem.W.nsIn K mainGlobals "is_sign" = some (some (.ref f0))) (l0 : K.lookup f0 = some ⟨oc0, od0, .func (PySem.W.fnOf "is_sign" "is_sign" (defArgs s_is_sign) (defBody s_is_sign) (defScope s_is_sign) .none kV0 dc0 pm0 an0 cd0 ct0), sl0⟩) (c0 : PySem.W.codeIn K cd0 "is_sign" = true) (k0 : PySem.W.keepIn K (.ref f0) = true)
    (a1 : PySem.W.nsIn K mainGlobals "need_row" = some (some (.ref f1))) (l1 : K.lookup f1 = some ⟨oc1, od1, .func (PySem.W.fnOf "need_row" "need_row" (defArgs s_need_row) (defBody s_need_row) (defScope s_need_row) .none kV1 dc1 pm1 an1 cd1 ct1), sl1⟩) (c1 : PySem.W.codeIn K cd1 "need_row" = true) (k1 : PySem.W.keepIn K (.ref f1) = true)
    (a2 : PySem.W.nsIn K mainGlobals "lengthened" = some (some (.ref f2))) (l2 : K.lookup f2 = some ⟨oc2, od2, .func (PySem.W.fnOf "lengthened" "lengthened" (defArgs s_lengthened) (defBody s_lengthened) (defScope s_lengthened) .none kV2 dc2 pm2 an2 cd2 ct2), sl2⟩) (c2 : PySem.W.codeIn K cd2 "lengthened" = true) (k2 : PySem.W.keepIn K (.ref f2) = true)
    (a3 : PySem.W.nsIn K mainGlobals "added" = some (some (.ref f3))) (l3 : K.lookup f3 = some ⟨oc3, od3, .func (PySem.W.fnOf "added" "added" (defArgs s_added) (defBody s_added) (defScope s_added) .none kV3 dc3 pm3 an3 cd3 ct3), sl3⟩) (c3 : PySem.W.codeIn K cd3 "added" = true) (k3 : PySem.W.keepIn K (.ref f3) = true)
    (a4 : PySem.W.nsIn K mainGlobals "_law_cell_at" = some (some (.ref f4))) (l4 : K.lookup f4 = some ⟨oc4, od4, .func (PySem.W.fnOf "_law_cell_at" "_law_cell_at" (defArgs s__law_cell_at) (defBody s__law_cell_at) (defScope s__law_cell_at) .none kV4 dc4 pm4 an4 cd4 ct4), sl4⟩) (c4 : PySem.W.codeIn K cd4 "_law_cell_at" = true) (k4 : PySem.W.keepIn K (.ref f4) = true)
    (a5 : PySem.W.nsIn K mainGlobals "_law_row_by" = some (some (.ref f5))) (l5 : K.lookup f5 = some ⟨oc5, od5, .func (PySem.W.fnOf "_law_row_by" "_law_row_by" (defArgs s__law_row_by) (defBody s__law_row_by) (defScope s__law_row_by) .none kV5 dc5 pm5 an5 cd5 ct5), sl5⟩) (c5 : PySem.W.codeIn K cd5 "_law_row_by" = true) (k5 : PySem.W.keepIn K (.ref f5) = true)
    (a6 : PySem.W.nsIn K mainGlobals "_law_is_row" = some (some (.ref f6))) (l6 : K.lookup f6 = some ⟨oc6, od6, .func (PySem.W.fnOf "_law_is_row" "_law_is_row" (defArgs s__law_is_row) (defBody s__law_is_row) (defScope s__law_is_row) .none kV6 dc6 pm6 an6 cd6 ct6), sl6⟩) (c6 : PySem.W.codeIn K cd6 "_law_is_row" = true) (k6 : PySem.W.keepIn K (.ref f6) = true)
    (a7 : PySem.W.nsIn K mainGlobals "_law_at" = some (some (.ref f7))) (l7 : K.lookup f7 = some ⟨oc7, od7, .func (PySem.W.fnOf "_law_at" "_law_at" (defArgs s__law_at) (defBody s__law_at) (defScope s__law_at) .none kV7 dc7 pm7 an7 cd7 ct7), sl7⟩) (c7 : PySem.W.codeIn K cd7 "_law_at" = true) (k7 : PySem.W.keepIn K (.ref f7) = true)
    (a8 : PySem.W.nsIn K mainGlobals "law" = some (some (.ref f8))) (l8 : K.lookup f8 = some ⟨oc8, od8, .func (PySem.W.fnOf "law" "law" (defArgs s_law) (defBody s_law) (defScope s_law) .none kV8 dc8 pm8 an8 cd8 ct8), sl8⟩) (c8 : PySem.W.codeIn K cd8 "law" = true) (k8 : PySem.W.keepIn K (.ref f8) = true)
    (u0_1 : PySem.W.nsIn K mainGlobals "GateError" = some (some (.ref x0))) (u0_2 : PySem.W.excIn K x0 veBase "ValueError.__new__" = true) (u0_3 : PySem.W.keepIn K (.ref x0) = true) (u0_4 : PySem.W.subIn K (.ref x0) (.type "BaseException") = some true) (u0_5 : PySem.W.typeIn K (.ref x0) = some (.type "type")) (u0_6 : PySem.W.isClsIn K x0 = true) (u0_7 : PySem.W.subIn K (.ref x0) (.type "ValueError") = some true)
    (u0_8 : PySem.W.findIn K (.ref x0) "__getattribute__" = some (some (.builtin "BaseException.__getattribute__"))) (u0_9 : PySem.W.findIn K (.ref x0) "__getattr__" = some none) (u0_10 : PySem.W.hasDictIn K x0 = true) (u0_11 : PySem.W.findIn K (.ref x0) "__class__" = some (some (.builtin "object.__class__"))) (u0_12 : PySem.W.mroIn K x0 (.type "object") = some true)
    (u1_1 : PySem.W.nsIn K mainGlobals "NoRow" = some (some (.ref x1))) (u1_2 : PySem.W.excIn K x1 veBase "ValueError.__new__" = true) (u1_3 : PySem.W.keepIn K (.ref x1) = true) (u1_4 : PySem.W.subIn K (.ref x1) (.type "BaseException") = some true) (u1_5 : PySem.W.typeIn K (.ref x1) = some (.type "type")) (u1_6 : PySem.W.isClsIn K x1 = true) (u1_7 : PySem.W.subIn K (.ref x1) (.type "ValueError") = some true)
    (u1_8 : PySem.W.findIn K (.ref x1) "__getattribute__" = some (some (.builtin "BaseException.__getattribute__"))) (u1_9 : PySem.W.findIn K (.ref x1) "__getattr__" = some none) (u1_10 : PySem.W.hasDictIn K x1 = true) (u1_11 : PySem.W.findIn K (.ref x1) "__class__" = some (some (.builtin "object.__class__"))) (u1_12 : PySem.W.mroIn K x1 (.type "object") = some true)
    (q1 : PySem.W.specialIn K (.builtin "object.__class__") "__get__" = some (some (.builtin "getset_descriptor.__get__"))) (q2 : PySem.W.takesIn K (.builtin "object.__class__") = some true)
    (z_ValueError : PySem.W.nsIn K mainGlobals "ValueError" = some none)
    (z_all : PySem.W.nsIn K mainGlobals "all" = some none)
    (z_bool : PySem.W.nsIn K mainGlobals "bool" = some none)
    (z_int : PySem.W.nsIn K mainGlobals "int" = some none)
    (z_isinstance : PySem.W.nsIn K mainGlobals "isinstance" = some none)
    (z_len : PySem.W.nsIn K mainGlobals "len" = some none)
    (z_list : PySem.W.nsIn K mainGlobals "list" = some none)
    (z_max : PySem.W.nsIn K mainGlobals "max" = some none)
    (z_range : PySem.W.nsIn K mainGlobals "range" = some none)
    (z_zip : PySem.W.nsIn K mainGlobals "zip" = some none) :
    ∃ fd : FuncData, (∀ (s : Shared) (v : Value), BindsTo s fd ⟨[v], []⟩ [("_law_script", v)]) ∧ ∀ base : Heap, K.In base → base.Ns mainGlobals mg → FnOk l.prog w K mg base (L2.CX l.prog w) 4 fa fd ["_law_script"] (sp_law K) := by
  have e := hfa.symm.trans (PySem.W.mg_of X G a8)
  cases e
  have R0 : Raw K mg "is_sign" "is_sign" s_is_sign ["value"] := ⟨f0, _, fun_mk (st := s_is_sign) l0 c0 k0, (fun_mk (st := s_is_sign) l0 c0 k0).binds fun _ _ _ _ _ _ us hl => match us, hl with | [_], _ => rfl, PySem.W.mg_of X G a0⟩
  have R1 : Raw K mg "need_row" "need_row" s_need_row ["row"] := ⟨f1, _, fun_mk (st := s_need_row) l1 c1 k1, (fun_mk (st := s_need_row) l1 c1 k1).binds fun _ _ _ _ _ _ us hl => match us, hl with | [_], _ => rfl, PySem.W.mg_of X G a1⟩
  have R2 : Raw K mg "lengthened" "lengthened" s_lengthened ["row", "length"] := ⟨f2, _, fun_mk (st := s_lengthened) l2 c2 k2, (fun_mk (st := s_lengthened) l2 c2 k2).binds fun _ _ _ _ _ _ us hl => match us, hl with | [_, _], _ => rfl, PySem.W.mg_of X G a2⟩
  have R3 : Raw K mg "added" "added" s_added ["one", "other"] := ⟨f3, _, fun_mk (st := s_added) l3 c3 k3, (fun_mk (st := s_added) l3 c3 k3).binds fun _ _ _ _ _ _ us hl => match us, hl with | [_, _], _ => rfl, PySem.W.mg_of X G a3⟩
  have R4 : Raw K mg "_law_cell_at" "_law_cell_at" s__law_cell_at ["_law_script", "_law_k"] := ⟨f4, _, fun_mk (st := s__law_cell_at) l4 c4 k4, (fun_mk (st := s__law_cell_at) l4 c4 k4).binds fun _ _ _ _ _ _ us hl => match us, hl with | [_, _], _ => rfl, PySem.W.mg_of X G a4⟩
  have R5 : Raw K mg "_law_row_by" "_law_row_by" s__law_row_by ["_law_cell", "_law_size"] := ⟨f5, _, fun_mk (st := s__law_row_by) l5 c5 k5, (fun_mk (st := s__law_row_by) l5 c5 k5).binds fun _ _ _ _ _ _ us hl => match us, hl with | [_, _], _ => rfl, PySem.W.mg_of X G a5⟩
  have R6 : Raw K mg "_law_is_row" "_law_is_row" s__law_is_row ["_law_found", "_law_size"] := ⟨f6, _, fun_mk (st := s__law_is_row) l6 c6 k6, (fun_mk (st := s__law_is_row) l6 c6 k6).binds fun _ _ _ _ _ _ us hl => match us, hl with | [_, _], _ => rfl, PySem.W.mg_of X G a6⟩
  have R7 : Raw K mg "_law_at" "_law_at" s__law_at ["_law_row", "_law_power"] := ⟨f7, _, fun_mk (st := s__law_at) l7 c7 k7, (fun_mk (st := s__law_at) l7 c7 k7).binds fun _ _ _ _ _ _ us hl => match us, hl with | [_, _], _ => rfl, PySem.W.mg_of X G a7⟩
  have T : Txt K mg ⟨0, x0, x1⟩ := ⟨⟨PySem.W.mg_of X G u0_1, u0_2, u0_3, u0_4, u0_5, u0_6, ⟨u0_8, u0_9, u0_4, u0_10, u0_11, q1, q2, u0_12⟩, u0_7⟩, ⟨PySem.W.mg_of X G u1_1, u1_2, u1_3, u1_4, u1_5, u1_6, ⟨u1_8, u1_9, u1_4, u1_10, u1_11, q1, q2, u1_12⟩, u1_7⟩, PySem.W.mg_none_of X G z_ValueError, PySem.W.mg_none_of X G z_all, PySem.W.mg_none_of X G z_bool, PySem.W.mg_none_of X G z_int, PySem.W.mg_none_of X G z_isinstance, PySem.W.mg_none_of X G z_len, PySem.W.mg_none_of X G z_list, PySem.W.mg_none_of X G z_max, PySem.W.mg_none_of X G z_range, PySem.W.mg_none_of X G z_zip, R0, R1, R2, R3, R4, R5, R6, R7⟩
  refine ⟨_, fun s v => .of_eq rfl, fun base _ _ => ok_law (fun_mk (st := s_law) l8 c8 k8) T⟩

end Cg
open PySem PySem.W PyProof.Rows in
set_option maxRecDepth 100000 in
set_option maxHeartbeats 0 in
theorem PySem.Challenge.cw_crcgate_k01_a_sum_holds : PySem.Challenge.rw_crcgate_k01_a_sum.Holds := by
  w_on; o_law; k_head; (case hw => w_witness2)
  k_fill
  refine L2.walk_of (l := PySem.Challenge.rw_crcgate_k01_a_sum) (n := 63) (k := 4) (x := "_law_script") (CX := fun w => L2.CX PySem.Challenge.rw_crcgate_k01_a_sum.prog w) (sp := fun w => Cg.sp_law _) rfl (by decide) rfl ⟨rfl, by decide, by decide⟩ (fun w h Y => PySem.W.kIn_of Y) ?F (fun _ _ a ns hl _ hS => ⟨a, ns, rfl, hS, hl, fun _ => rfl⟩) (fun _ _ _ _ _ z => Cg.cx_none z)
  case F =>
    intro w mg fa h KX G hmg
    refine' Cg.all_mk KX G hmg ?a0 ?l0 ?c0 ?k0 ?a1 ?l1 ?c1 ?k1 ?a2 ?l2 ?c2 ?k2 ?a3 ?l3 ?c3 ?k3 ?a4 ?l4 ?c4 ?k4 ?a5 ?l5 ?c5 ?k5 ?a6 ?l6 ?c6 ?k6 ?a7 ?l7 ?c7 ?k7 ?a8 ?l8 ?c8 ?k8 ?u0_1 ?u0_2 ?u0_3 ?u0_4 ?u0_5 ?u0_6 ?u0_7 ?u0_8 ?u0_9 ?u0_10 ?u0_11 ?u0_12 ?u1_1 ?u1_2 ?u1_3 ?u1_4 ?u1_5 ?u1_6 ?u1_7 ?u1_8 ?u1_9 ?u1_10 ?u1_11 ?u1_12 ?q1 ?q2 ?z_ValueError ?z_all ?z_bool ?z_int ?z_isinstance ?z_len ?z_list ?z_max ?z_range ?z_zip
    (case a0 => k_is)
    (case l0 => k_is)
    (case c0 => k_is)
    (case k0 => k_is)
    (case a1 => k_is)
    (case l1 => k_is)
    (case c1 => k_is)
    (case k1 => k_is)
    (case a2 => k_is)
    (case l2 => k_is)
    (case c2 => k_is)
    (case k2 => k_is)
    (case a3 => k_is)
    (case l3 => k_is)
    (case c3 => k_is)
    (case k3 => k_is)
    (case a4 => k_is)
    (case l4 => k_is)
    (case c4 => k_is)
    (case k4 => k_is)
    (case a5 => k_is)
    (case l5 => k_is)
    (case c5 => k_is)
    (case k5 => k_is)
    (case a6 => k_is)
    (case l6 => k_is)
    (case c6 => k_is)
    (case k6 => k_is)
    (case a7 => k_is)
    (case l7 => k_is)
    (case c7 => k_is)
    (case k7 => k_is)
    (case a8 => k_is)
    (case l8 => k_is)
    (case c8 => k_is)
    (case k8 => k_is)
    (case u0_1 => k_is)
    (case u0_2 => k_exc)
    (case u0_3 => k_is)
    (case u0_4 => k_is)
    (case u0_5 => k_is)
    (case u0_6 => k_is)
    (case u0_7 => k_is)
    (case u0_8 => k_is)
    (case u0_9 => k_is)
    (case u0_10 => k_is)
    (case u0_11 => k_is)
    (case u0_12 => k_is)
    (case u1_1 => k_is)
    (case u1_2 => k_exc)
    (case u1_3 => k_is)
    (case u1_4 => k_is)
    (case u1_5 => k_is)
    (case u1_6 => k_is)
    (case u1_7 => k_is)
    (case u1_8 => k_is)
    (case u1_9 => k_is)
    (case u1_10 => k_is)
    (case u1_11 => k_is)
    (case u1_12 => k_is)
    (case q1 => k_is)
    (case q2 => k_is)
    (case z_ValueError => k_is)
    (case z_all => k_is)
    (case z_bool => k_is)
    (case z_int => k_is)
    (case z_isinstance => k_is)
    (case z_len => k_is)
    (case z_list => k_is)
    (case z_max => k_is)
    (case z_range => k_is)
    (case z_zip => k_is)
