import PyProof.Rows.All
import Wide.All
import OpenK.AllK
import Wide.FinOn
import HandS.ForMost
import HandS.ForExc
import HandS.IsInst
import HandS.Zip
import HandS.Evl
import HandS.ExcIs
import HandS.SetFor
import HandS.DictComp
import PySem.Challenge.RW_crcgate_k04_letters
set_option Elab.async false
set_option linter.all false
set_option maxRecDepth 100000
set_option maxHeartbeats 4000000
/-! ## Pre: our own words over the hand layer: rows of iv, defs of the top -/
namespace Cg
open PySem PySem.Spec PyProof.Rows L2 Evl

abbrev iv (ns : List Int) : List V := ns.map V.int
theorem iv_len (ns : List Int) : (iv ns).length = ns.length := List.length_map ..
theorem iv_at {ns : List Int} {i : Nat} {x : V} (h : (iv ns)[i]? = some x) : ∃ n, ns[i]? = some n ∧ x = V.int n := by
  rw [List.getElem?_map] at h
  cases e : ns[i]? with
  | none => rw [e] at h; cases h
  | some n => rw [e] at h; exact ⟨n, rfl, (Option.some.inj h).symm⟩
theorem iv_get {ns : List Int} {i : Nat} {n : Int} (h : ns[i]? = some n) : (iv ns)[i]? = some (V.int n) := by
  rw [List.getElem?_map, h]; rfl
theorem iv_inj {xs ys : List Int} (h : iv xs = iv ys) : xs = ys := by
  induction xs generalizing ys with
  | nil => cases ys with
    | nil => rfl
    | cons y r => cases h
  | cons x r ih => cases ys with
    | nil => cases h
    | cons y s =>
      have e1 : V.int x = V.int y := (List.cons.inj h).1
      have e2 : iv r = iv s := (List.cons.inj h).2
      rw [V.int.inj e1, ih e2]

theorem b_list : bootBuiltins "list" = some (.type "list") := by decide +kernel
theorem b_int : bootBuiltins "int" = some (.type "int") := by decide +kernel
theorem b_bool : bootBuiltins "bool" = some (.type "bool") := by decide +kernel
theorem b_str : bootBuiltins "str" = some (.type "str") := by decide +kernel
theorem b_tuple : bootBuiltins "tuple" = some (.type "tuple") := by decide +kernel
theorem b_ValueError : bootBuiltins "ValueError" = some (.type "ValueError") := by decide +kernel
theorem b_len : bootBuiltins "len" = some (.builtin "len") := PySem.boot_len
theorem b_isinstance : bootBuiltins "isinstance" = some (.builtin "isinstance") := by decide +kernel
theorem b_max : bootBuiltins "max" = some (.builtin "max") := by decide +kernel
theorem b_min : bootBuiltins "min" = some (.builtin "min") := by decide +kernel
theorem b_all : bootBuiltins "all" = some (.builtin "all") := by decide +kernel
theorem b_sum : bootBuiltins "sum" = some (.builtin "sum") := by decide +kernel
theorem b_ord : bootBuiltins "ord" = some (.builtin "ord") := by decide +kernel
theorem b_chr : bootBuiltins "chr" = some (.builtin "chr") := by decide +kernel
def rInt1 : List V → Hp → VK → Prop := fun xs H Q => (∃ i, xs = [.int i] ∧ Q (.int i) H) ∨ ∃ k, xs = [.bl k] ∧ Q (.int (if k then 1 else 0)) H
def rMin2 : List V → Hp → VK → Prop := fun xs H Q => ∃ i j, xs = [.int i, .int j] ∧ Q (.int (if j < i then j else i)) H
/-! ### defs of the top -/
def Raw (K : PySem.W.Frag) (mg : Str → Option Value) (name qual : Str) (st : Stmt) (ps : List Str) : Prop := ∃ f fd, Fun K name qual st f fd ∧ Binds K fd ps [] ∧ mg name = some (.ref f)
def Has (P : Program) (w : World) (K : PySem.W.Frag) (mg : Str → Option Value) (base : Heap) (k : Nat) (name : Str) (ps : List Str) (sp : Sp) : Prop :=
  ∃ f fd, FnOk P w K mg base (L2.CX P w) k f fd ps sp ∧ mg name = some (.ref f) ∧ PySem.W.keepIn K (.ref f) = true ∧ Binds K fd ps []
section
variable {P : Program} {w : World} {K : PySem.W.Frag} {mg : Str → Option Value} {base : Heap}
theorem Raw.ok {x qual : Str} {st : Stmt} {N ps : List Str} {k : Nat} {sp : Sp} (R : Raw K mg x qual st ps) (S : FnScope N ps (defScope st)) (len : ∀ vs H Q E, sp vs H Q E → vs.length = ps.length)
    (hbody : ∀ (f : Addr) (cdv : Value) (A : Around) (outer : List Env) (s : Shared) (H : Hp) (vs : List V) (Q : VK) (E : XK), Room k (A.deeper (envOfC qual (defScope st) s.heap.objs.size f cdv)) → sp vs H Q E →
      ∃ t, PSs (cxOf (L2.CX P w) P w K mg base N qual (defScope st) f cdv A outer s H E) (defBody st) t ∧ t { nx := fun _ H' => Q .non H', rt := Q } (start N vs) H) : Has P w K mg base (k + 1) x ps sp := by
  obtain ⟨f, fd, F, b, g⟩ := R
  exact ⟨f, fd, F.okX S len fun cdv A outer s H vs Q E hr h => hbody f cdv A outer s H vs Q E hr h, g, F.kp, b⟩
end
section
variable {X : Cx} {k : Nat} {ps : List Str} {sp : Sp} {E : XK} {x : Str} {p pos : Pos} {e : Expr} {es : List Expr} {t : TA}
theorem pe_callH (F : Has X.prog X.w X.K X.mg X.base k x ps sp) (hr : Room k X.A) (hx : Passes (L2.CX X.prog X.w) X E) (ha : PA X (e :: es) t) (hg : Gl X x := by rfl) (hdb : (x == ("__debug__" : Str)) = false := by decide)
    (he : starEach (e :: es) X.env = (false, eval e X.env) :: starEach es X.env := by rfl) (hpl : (backTo pos (starEach es X.env)).any (·.1) = false := by rfl) : PE X (.Call (.Name x p) (e :: es) [] pos) (tCall sp [] E t) := by
  obtain ⟨f, fd, F, g, kp, b⟩ := F
  exact pe_call F hr hg g kp b .nil hx ha hdb he hpl
end

theorem op_eqII : OpR X (compareOp .Eq) (rI0 fun i j => .bl (decide (i = j))) := opB0 fun _ _ _ _ _ _ _ q => eq_int (by rw [Bool.beq_eq_decide_eq]; exact q)
theorem op_neII : OpR X (compareOp .NotEq) (rI0 fun i j => .bl (!decide (i = j))) := opB0 fun _ _ _ _ _ _ _ q => ne_int (by rw [bne, Bool.beq_eq_decide_eq]; exact q)

theorem kk_isi (K) (h : X.K = K := by rfl) : CallR X (.builtin "isinstance") (rIsi K) := h ▸ call_isi
theorem kk_len (K) (h : X.K = K := by rfl) : CallR X (.builtin "len") (rLenS K) := h ▸ call_len_seq
theorem kk_list (K) (h : X.K = K := by rfl) : CallR X (.type "list") (rListS K) := h ▸ call_list_of
theorem kk_all (K) (hc : X.calm = true) (h : X.K = K := by rfl) : CallR X (.builtin "all") (rAll K) := h ▸ cr_all hc
theorem kk_sum (K) (hc : X.calm = true) (h : X.K = K := by rfl) : CallR X (.builtin "sum") (rSum K) := h ▸ cr_sum hc
theorem kk_int : CallR X (.type "int") rInt1 := call_int1
theorem kk_max (hc : X.calm = true) : CallR X (.builtin "max") rMax2 := call_max2 hc
theorem kk_min (hc : X.calm = true) : CallR X (.builtin "min") rMin2 := call_min2 hc
theorem kk_ixl (K) (h : X.K = K := by rfl) : IxR X (rIxL K) := h ▸ ix_list
theorem kk_ixt (K) (h : X.K = K := by rfl) : IxR X (rIxT K) := h ▸ ix_tup
theorem kk_sl (K) (h : X.K = K := by rfl) : SlR X (rSlL K) := h ▸ sl_list
theorem kk_in (K) (h : X.K = K := by rfl) : OpR X (compareOp .In) (rIn K false) := h ▸ op_in_seq
theorem kk_ni (K) (h : X.K = K := by rfl) : OpR X (compareOp .NotIn) (rIn K true) := h ▸ op_notIn_seq
theorem kk_eqD (K) (hu : X.A.units + 64 < cLine) (h : X.K = K := by rfl) : OpR X (compareOp .Eq) (rEqD K) := h ▸ op_eqD hu
theorem kk_neD (K) (hu : X.A.units + 64 < cLine) (h : X.K = K := by rfl) : OpR X (compareOp .NotEq) (rNeD K) := h ▸ op_neD hu

theorem cx_none {P : Program} {w : World} {H : Hp} {s : Shared} {e : Value} {s' : Shared} (z : L2.CX P w [] H s (fun _ _ _ => False) e s') : False := by
  obtain ⟨_, _, _, _, _, _, _, _, _, _, _, _, q⟩ := z
  exact q.elim
theorem pe_globI {X : Cx} {x : Str} {n : Int} {pos : Pos} (h : ∃ t, X.mg x = some (.int n t)) (hg : Gl X x := by rfl) (hd : (x == ("__debug__" : Str)) = false := by decide) : PE X (.Name x pos) (tC (.int n)) := by
  obtain ⟨t, h⟩ := h
  exact pe_glob hg h ⟨t, rfl⟩ hd
/-! ### errors of the program -/
abbrev veBase : List Value := [.type "ValueError", .type "Exception", .type "BaseException", .type "object"]
structure ExcT (K : PySem.W.Frag) (mg : Str → Option Value) (x : Str) (C : Addr) : Prop where
  g : mg x = some (.ref C)
  x : PySem.W.excIn K C veBase "ValueError.__new__" = true
  k : PySem.W.keepIn K (.ref C) = true
  b : PySem.W.subIn K (.ref C) (.type "BaseException") = some true
  t : PySem.W.typeIn K (.ref C) = some (.type "type")
  i : PySem.W.isClsIn K C = true
  c : ExcC K C
  v : PySem.W.subIn K (.ref C) (.type "ValueError") = some true
theorem ExcT.r {X : Cx} {x : Str} {C : Addr} (E : ExcT X.K X.mg x C) : Raises X (.ref C) := raises_own E.b E.t
theorem ExcT.exm {K : PySem.W.Frag} {mg : Str → Option Value} {x : Str} {C : Addr} {cls : Value} {b : Bool} (E : ExcT K mg x C) (h : PySem.W.subIn K cls (.ref C) = some b) : PySem.W.exmOne K cls (.ref C) = some b := PySem.W.exm_ref E.b E.c.hd E.t h
theorem ExcT.kitV {K : PySem.W.Frag} {mg : Str → Option Value} {x : Str} {C : Addr} (E : ExcT K mg x C) : PySem.W.kitOne K (.ref C) (.type "ValueError") = some true := by
  have m : PySem.W.kitMeta "ValueError" = true := by decide +kernel
  have n : ((Value.ref C : Value) == .type "ValueError") = false := rfl
  unfold PySem.W.kitOne
  rw [n]
  unfold PySem.W.kitCls
  rw [if_neg Bool.false_ne_true]
  show (if PySem.W.kitMeta "ValueError" = true then PySem.W.subIn K (.ref C) (.type "ValueError") else none) = some true
  rw [if_pos m]
  exact E.v
theorem ExcT.kit {K : PySem.W.Frag} {mg : Str → Option Value} {x : Str} {C D : Addr} {b : Bool} (E : ExcT K mg x C) (h : PySem.W.subIn K (.ref D) (.ref C) = some b) (ne : b = false → C ≠ D) : PySem.W.kitOne K (.ref D) (.ref C) = some b := by
  unfold PySem.W.kitOne
  by_cases e : D = C
  · subst e
    have z : ((Value.ref D : Value) == .ref D) = true := by simp
    rw [z, if_pos rfl]
    cases b with
    | true => rfl
    | false => exact absurd rfl (ne rfl)
  · have z : ((Value.ref D : Value) == .ref C) = false := by simpa using e
    rw [z, if_neg Bool.false_ne_true]
    unfold PySem.W.kitCls
    have e2 : ((PySem.W.clsIn K C).isSome && PySem.W.typeIn K (.ref C) == some (.type "type")) = true := by
      have h2' : (PySem.W.clsIn K C).isSome = true := E.i
      rw [h2', E.t] <;> rfl
    show (if ((PySem.W.clsIn K C).isSome && PySem.W.typeIn K (.ref C) == some (.type "type")) = true then PySem.W.subIn K (.ref D) (.ref C) else none) = some b
    rw [if_pos e2]
    exact h
/-- isinstance(e, c) in an except suite -/
def rIsX (K : PySem.W.Frag) (a : Addr) (cls : Value) (d : Option Addr) : List V → Hp → VK → Prop := fun xs H Q => ∃ D, cls = .ref D ∧ d = none ∧ ExcC K D ∧ rIsE K D a xs H Q
theorem call_isX {X : Cx} {a : Addr} {cls : Value} {d : Option Addr} {oe : Obj} {pn : List (Addr × Obj)} (hz : Zc cls d oe) (hf : ∃ vs, oe.data = .fields vs) : CallR (X.suite a ((a, oe) :: pn)) (.builtin "isinstance") (rIsX X.K a cls d) := by
  intro pins s σ H xs us Q I r h
  obtain ⟨D, rfl, rfl, C, h⟩ := h
  exact call_isE C hz hf pins s σ H xs us Q I r h
section
variable {X : Cx} {k : Nat} {ps : List Str} {sp : Sp} {E : L2.St → XK} {x : Str} {p pos : Pos} {e : Expr} {es : List Expr} {t : TA}
theorem pe_callHS (F : Has X.prog X.w X.K X.mg X.base k x ps sp) (hr : Room k X.A) (hx : ∀ σ, PassesAt (L2.CX X.prog X.w) X σ (E σ)) (ha : PA X (e :: es) t) (hg : Gl X x := by rfl) (hdb : (x == ("__debug__" : Str)) = false := by decide)
    (he : starEach (e :: es) X.env = (false, eval e X.env) :: starEach es X.env := by rfl) (hpl : (backTo pos (starEach es X.env)).any (·.1) = false := by rfl) : PE X (.Call (.Name x p) (e :: es) [] pos) (tCallS sp E t) := by
  obtain ⟨f, fd, F, g, kp, b⟩ := F
  exact pe_callS F hr hg g kp b hx ha hdb he hpl
end
/-! ### what evaluates to what: a list, new or old -/
def EvR (te : TE) (σ : L2.St) (H : Hp) (xs : List V) : Prop := ∀ H1, Ex H H1 → ∀ Q : VK, (∀ p H2, Ex H1 H2 → H2 p = some (.lst xs) → Q (.ref p) H2) → te σ H1 Q
section
variable {K : PySem.W.Frag} {σ : L2.St} {H H' : Hp} {ta tb te tx : TE} {t u : TT} {x y z v : V} {r : R2} {xs ys : List V}
theorem Ex.at {a : Addr} {o : HO} (e : Ex H H') (h : H a = some o) : H' a = some o := e a o h
theorem er_var {i : Nat} {a : Addr} (h : σ[i]? = some (some (.ref a))) (hl : H a = some (.lst xs)) : EvR (tVar i) σ H xs := fun H1 e _ q => ⟨_, h, q a H1 (Ex.refl H1) (e _ _ hl)⟩
theorem er_ev {a : Addr} (h : Ev te σ H (.ref a)) (hl : H a = some (.lst xs)) : EvR te σ H xs := fun H1 e Q q => h H1 e Q fun H2 e2 => q a H2 e2 (e2 _ _ (e _ _ hl))
theorem er_L (h : EvL te σ H xs) : EvR te σ H xs := fun H1 e Q q => h H1 e Q fun p H2 _ e2 h2 => q p H2 e2 h2
theorem EvR.is (h : EvR te σ H xs) (e : xs = ys) : EvR te σ H ys := e ▸ h
theorem el_is (h : EvL te σ H xs) (e : xs = ys) : EvL te σ H ys := e ▸ h
theorem el_cat (ha : EvR ta σ H xs) (hb : EvR tb σ H ys) (hz : xs.length + ys.length ≤ 10000000) : EvL (tOp rCat ta tb) σ H (xs ++ ys) := fun H1 e Q q =>
  ha H1 e _ fun a H2 e2 h2 => hb H2 (e.trans e2) _ fun b H3 e3 h3 => ⟨a, b, xs, ys, rfl, rfl, e3 _ _ h2, h3, Nat.le_trans hz (by decide), fun p hp => q p _ (fresh_back (e2.trans e3) hp) ((e2.trans e3).trans (Ex.new hp)) upd_same⟩
theorem el_rep {k : Int} {x : V} (ha : EvR ta σ H [x]) (hb : Ev tb σ H (.int k)) (hk : k ≤ 10000000 ∧ -10000000 ≤ k) : EvL (tOp rRep ta tb) σ H (List.replicate k.toNat x) := fun H1 e Q q =>
  ha H1 e _ fun a H2 e2 h2 => hb H2 (e.trans e2) _ fun H3 e3 => ⟨a, k, [x], rfl, rfl, e3 _ _ h2, by omega, by omega, by
    show [x].length * k.toNat ≤ 2 ^ 24
    rw [List.length_singleton]; omega, fun p hp => by
    have z : (List.replicate k.toNat [x]).flatten = List.replicate k.toNat x := by
      generalize k.toNat = n
      induction n with
      | zero => rfl
      | succ n ih => rw [List.replicate_succ, List.replicate_succ, List.flatten_cons, ih]; rfl
    refine q p _ (fresh_back (e2.trans e3) hp) ((e2.trans e3).trans (Ex.new hp)) ?_
    rw [z]
    exact upd_same⟩
theorem ev_lenR (ha : EvR ta σ H xs) : Ev (tCB (rLenS K) (tCons ta tNil)) σ H (.int (xs.length : Int)) := fun H1 e Q q =>
  ha H1 e _ fun p H2 e2 h2 => ⟨p, xs, rfl, Or.inl (sq_of h2), q H2 e2⟩
theorem el_listR (ha : EvR ta σ H xs) : EvL (tCB (rListS K) (tCons ta tNil)) σ H xs := fun H1 e Q q =>
  ha H1 e _ fun p H2 e2 h2 => ⟨p, xs, rfl, Or.inl (sq_of h2), fun l hl => q l _ (fresh_back e2 hl) (e2.trans (Ex.new hl)) upd_same⟩
theorem ev_ixR {i : Int} (ha : EvR ta σ H xs) (hb : Ev tb σ H (.int i)) (hv : atI xs i = some v) : Ev (tOp (rIxL K) ta tb) σ H v := fun H1 e Q q =>
  ha H1 e _ fun p H2 e2 h2 => hb H2 (e.trans e2) _ fun H3 e3 => ⟨p, xs, i, v, rfl, rfl, sq_of (e3 _ _ h2), hv, q H3 (e2.trans e3)⟩
theorem el_slR {tl th : TO} {lo hi : Option Int} (h : EvR te σ H xs) (h1 : EvO tl σ H lo) (h2 : EvO th σ H hi) : EvL (tSl (rSlL K) te tl th) σ H (cutV xs lo hi) := fun H1 e _ q =>
  h H1 e _ fun a H2 e2 hs => h1 H2 (e.trans e2) _ fun H3 e3 => h2 H3 ((e.trans e2).trans e3) _ fun H4 e4 =>
    ⟨a, xs, rfl, sq_of ((e3.trans e4) _ _ hs), fun p hp => q p _ (fresh_back ((e2.trans e3).trans e4) hp) (((e2.trans e3).trans e4).trans (Ex.new hp)) upd_same⟩
theorem ev_sumR {ns : List Int} (ha : EvR ta σ H (iv ns)) : Ev (tCB (rSum K) (tCons ta tNil)) σ H (.int ns.sum) := fun H1 e Q q =>
  ha H1 e _ fun p H2 e2 h2 => ⟨p, ns, rfl, sq_of h2, q H2 e2⟩
theorem ev_allR {bs : List Bool} (ha : EvR ta σ H (bs.map V.bl)) : Ev (tCB (rAll K) (tCons ta tNil)) σ H (.bl (bs.all id)) := fun H1 e Q q =>
  ha H1 e _ fun p H2 e2 h2 => ⟨p, bs, rfl, sq_of h2, q H2 e2⟩
theorem dpAll_iv : ∀ (ns : List Int), DpAll K H (iv ns) (ns.map PyData.int)
  | [] => .nil
  | n :: r => .cons (.int n) (dpAll_iv r)
theorem dp_row {a : Addr} {ns : List Int} (h : H a = some (.lst (iv ns))) : Dp K H (.ref a) (.list (ns.map PyData.int)) := .lst (sq_of h) (dpAll_iv ns)
theorem shaped_row (ns : List Int) : SeqAt.shaped (.list (ns.map PyData.int)) = true := by
  induction ns with
  | nil => rfl
  | cons n r ih => exact ih
theorem eqv_rows (xs ys : List Int) : PyData.eqv (.list (xs.map PyData.int)) (.list (ys.map PyData.int)) = decide (xs = ys) := by
  rw [PyData.eqv]
  induction xs generalizing ys with
  | nil => cases ys with
    | nil => rfl
    | cons y r => rfl
  | cons x r ih => cases ys with
    | nil => rfl
    | cons y t =>
      rw [List.map_cons, List.map_cons, PyData.eqvAll, ih, PyData.eqv]
      by_cases h1 : x = y
      · subst h1
        by_cases h2 : r = t
        · subst h2; simp
        · simp [h2]
      · simp [h1]
theorem ev_eqR {xs ys : List Int} (ha : EvR ta σ H (iv xs)) (hb : EvR tb σ H (iv ys)) : Ev (tOp (rEqD K) ta tb) σ H (.bl (decide (xs = ys))) := fun H1 e Q q =>
  ha H1 e _ fun p H2 e2 h2 => hb H2 (e.trans e2) _ fun p' H3 e3 h3 => ⟨_, _, dp_row (e3 _ _ h2), dp_row h3, shaped_row _, shaped_row _, by
    rw [eqv_rows]
    exact q H3 (e2.trans e3)⟩
theorem ev_neR {xs ys : List Int} (ha : EvR ta σ H (iv xs)) (hb : EvR tb σ H (iv ys)) : Ev (tOp (rNeD K) ta tb) σ H (.bl (!decide (xs = ys))) := fun H1 e Q q =>
  ha H1 e _ fun p H2 e2 h2 => hb H2 (e.trans e2) _ fun p' H3 e3 h3 => ⟨_, _, dp_row (e3 _ _ h2), dp_row h3, shaped_row _, shaped_row _, by
    rw [eqv_rows]
    exact q H3 (e2.trans e3)⟩
theorem inV_iv (x : Int) (ns : List Int) : inV (.int x) (iv ns) = decide (x ∈ ns) := by
  induction ns with
  | nil => rfl
  | cons n r ih =>
    show (eqV (V.int n) (V.int x) || inV (.int x) (iv r)) = _
    rw [ih]
    show (n == x || decide (x ∈ r)) = _
    by_cases h : n = x
    · subst h; simp
    · have h' : ¬ x = n := fun e => h e.symm
      simp [h, h']
theorem flat_iv (ns : List Int) : (iv ns).all flatV = true := by
  induction ns with
  | nil => rfl
  | cons n r ih => exact ih
theorem ev_inR {i : Int} {ns : List Int} (ha : Ev ta σ H (.int i)) (hb : EvR tb σ H (iv ns)) : Ev (tOp (rIn K false) ta tb) σ H (.bl (decide (i ∈ ns))) := fun H1 e Q q =>
  ha H1 e _ fun H2 e2 => hb H2 (e.trans e2) _ fun p H3 e3 h3 => ⟨p, _, rfl, Or.inl (sq_of h3), rfl, flat_iv ns, by
    rw [if_neg (by decide), inV_iv]
    exact q H3 (e2.trans e3)⟩
theorem ev_niR {i : Int} {ns : List Int} (ha : Ev ta σ H (.int i)) (hb : EvR tb σ H (iv ns)) : Ev (tOp (rIn K true) ta tb) σ H (.bl (!decide (i ∈ ns))) := fun H1 e Q q =>
  ha H1 e _ fun H2 e2 => hb H2 (e.trans e2) _ fun p H3 e3 h3 => ⟨p, _, rfl, Or.inl (sq_of h3), rfl, flat_iv ns, by
    rw [if_pos rfl, inV_iv]
    exact q H3 (e2.trans e3)⟩
theorem ev_isi {n : String} {tv : Value} {b : Bool} (ha : Ev ta σ H x) (ht : TyX K H x tv) (hm : ∀ H1, Ex H H1 → TyX K H1 x tv) (hb : PySem.W.kitOne K tv (.type n) = some b) : Ev (tCB (rIsi K) (tCons ta (tCons (tC (.ty n)) tNil))) σ H (.bl b) := fun H1 e Q q =>
  ha H1 e _ fun H2 e2 => ⟨x, .ty n, tv, .type n, b, rfl, .ty n, hm H2 (e.trans e2), hb, q H2 e2⟩
def tyName : V → Option String
  | .non => some "NoneType" | .bl _ => some "bool" | .int _ => some "int" | .str _ => some "str" | _ => none
theorem tyx_flat {s : String} (h : tyName x = some s) : TyX K H x (.type s) := by
  cases x with
  | non => cases h; exact .base .non
  | bl b => cases h; exact .base (.bl b)
  | int i => cases h; exact .base (.int i)
  | str z => cases h; exact .base (.str z)
  | byt _ => cases h
  | flt _ => cases h
  | ref _ => cases h
  | ty _ => cases h
theorem kit_list_list : kitB "list" "list" = some true := by decide +kernel
theorem kit_int_int : kitB "int" "int" = some true := by decide +kernel
theorem kit_int_bool : kitB "int" "bool" = some false := by decide +kernel
theorem kit_bool_int : kitB "bool" "int" = some true := by decide +kernel
theorem kit_bool_bool : kitB "bool" "bool" = some true := by decide +kernel
theorem kit_str_str : kitB "str" "str" = some true := by decide +kernel
theorem kit_list_int : kitB "list" "int" = some false := by decide +kernel
theorem kit_list_bool : kitB "list" "bool" = some false := by decide +kernel
theorem kit_list_str : kitB "list" "str" = some false := by decide +kernel
theorem kit_tuple_tuple : kitB "tuple" "tuple" = some true := by decide +kernel
theorem kit_tuple_list : kitB "tuple" "list" = some false := by decide +kernel
theorem kit_int_list : kitB "int" "list" = some false := by decide +kernel
theorem kit_str_list : kitB "str" "list" = some false := by decide +kernel
theorem kit_NoneType_list : kitB "NoneType" "list" = some false := by decide +kernel
theorem kit_bool_list : kitB "bool" "list" = some false := by decide +kernel
theorem kit_dict_list : kitB "dict" "list" = some false := by decide +kernel
theorem kit_NoneType_int : kitB "NoneType" "int" = some false := by decide +kernel
theorem kit_str_int : kitB "str" "int" = some false := by decide +kernel
theorem kit_tuple_int : kitB "tuple" "int" = some false := by decide +kernel
theorem kit_dict_int : kitB "dict" "int" = some false := by decide +kernel
theorem kit_int_str : kitB "int" "str" = some false := by decide +kernel
theorem kit_bool_str : kitB "bool" "str" = some false := by decide +kernel
theorem kit_NoneType_str : kitB "NoneType" "str" = some false := by decide +kernel
theorem kit_tuple_str : kitB "tuple" "str" = some false := by decide +kernel
theorem ev_isiF {n s : String} {b : Bool} (ha : Ev ta σ H x) (ht : tyName x = some s) (hb : kitB s n = some b) : Ev (tCB (rIsi K) (tCons ta (tCons (tC (.ty n)) tNil))) σ H (.bl b) :=
  ev_isi ha (tyx_flat ht) (fun _ _ => tyx_flat ht) (kit_ty hb)
theorem ev_isiR {n : String} {b : Bool} (ha : EvR ta σ H xs) (hb : kitB "list" n = some b) : Ev (tCB (rIsi K) (tCons ta (tCons (tC (.ty n)) tNil))) σ H (.bl b) := fun H1 e Q q =>
  ha H1 e _ fun p H2 e2 h2 => ⟨.ref p, .ty n, .type "list", .type n, b, rfl, .ty n, .base (.lst h2), kit_ty hb, q H2 e2⟩
theorem ev_intB {b : Bool} (ha : Ev ta σ H (.bl b)) : Ev (tCB rInt1 (tCons ta tNil)) σ H (.int (if b then 1 else 0)) := fun H1 e Q q =>
  ha H1 e _ fun H2 e2 => Or.inr ⟨b, rfl, q H2 e2⟩
theorem ev_min2 {i j : Int} (ha : Ev ta σ H (.int i)) (hb : Ev tb σ H (.int j)) : Ev (tCB rMin2 (tCons ta (tCons tb tNil))) σ H (.int (if j < i then j else i)) := fun H1 e Q q =>
  ha H1 e _ fun H2 e2 => hb H2 (e.trans e2) _ fun H3 e3 => ⟨i, j, rfl, q H3 (e2.trans e3)⟩
theorem ev_cmp {p : Int → Int → Bool} {i j : Int} (ha : Ev ta σ H (.int i)) (hb : Ev tb σ H (.int j)) : Ev (tCmp p ta tb) σ H (.bl (p i j)) := fun H1 e Q q =>
  ha H1 e _ fun H2 e2 => hb H2 (e.trans e2) _ fun H3 e3 => ⟨i, j, rfl, rfl, q H3 (e2.trans e3)⟩
/-! rows of ints -/
theorem el_catI {xs ys : List Int} (ha : EvR ta σ H (iv xs)) (hb : EvR tb σ H (iv ys)) (hz : xs.length + ys.length ≤ 10000000) : EvL (tOp rCat ta tb) σ H (iv (xs ++ ys)) :=
  el_is (el_cat ha hb (by rw [iv_len, iv_len]; exact hz)) (List.map_append ..).symm
theorem el_oneI {n : Int} (h : Ev te σ H (.int n)) : EvL (tLst (tCons te tNil)) σ H (iv [n]) := el_lst (ea_cons h ea_nil) (by show 1 ≤ _; decide)
theorem el_nilI : EvL (tLst tNil) σ H (iv []) := el_lst ea_nil (Nat.zero_le _)
theorem el_repI {k n : Int} (ha : Ev ta σ H (.int n)) (hb : Ev tb σ H (.int k)) (hk : k ≤ 10000000 ∧ -10000000 ≤ k) : EvL (tOp rRep (tLst (tCons ta tNil)) tb) σ H (iv (List.replicate k.toNat n)) :=
  el_is (el_rep (x := .int n) (er_L (el_oneI ha)) hb hk) (List.map_replicate ..).symm
theorem el_repN {k : Nat} {n : Int} (ha : Ev ta σ H (.int n)) (hb : Ev tb σ H (.int (k : Int))) (hk : k ≤ 10000000) : EvL (tOp rRep (tLst (tCons ta tNil)) tb) σ H (iv (List.replicate k n)) :=
  el_is (el_repI ha hb (by omega)) (by rw [Int.toNat_natCast])
theorem cutV_iv (xs : List Int) (lo hi : Option Int) : cutV (iv xs) lo hi = iv ((xs.drop (HT.sIx xs.length 0 lo)).take (HT.sIx xs.length xs.length hi - HT.sIx xs.length 0 lo)) := by
  unfold cutV
  rw [iv_len]
  unfold iv
  rw [List.map_take, List.map_drop]
theorem el_slFromI {xs : List Int} {n : Int} (h : EvR te σ H (iv xs)) (h1 : Ev tx σ H (.int n)) (h0 : 0 ≤ n) : EvL (tSl (rSlL K) te (tPart tx) tNoPart) σ H (iv (xs.drop n.toNat)) :=
  el_is (el_slR h (eo_some h1) eo_none) (by
    rw [cutV_iv, show n = ((n.toNat : Nat) : Int) by omega, HT.sIx_nat, HT.sIx_none, Int.toNat_natCast]
    congr 1
    rw [List.take_of_length_le (by rw [List.length_drop]; omega)]
    by_cases hc : n.toNat ≤ xs.length
    · rw [Nat.min_eq_left hc]
    · rw [Nat.min_eq_right (by omega), List.drop_of_length_le (Nat.le_refl _), List.drop_of_length_le (by omega)])
theorem el_slToI {xs : List Int} {n : Int} (h : EvR te σ H (iv xs)) (h1 : Ev tx σ H (.int n)) (h0 : 0 ≤ n) : EvL (tSl (rSlL K) te tNoPart (tPart tx)) σ H (iv (xs.take n.toNat)) :=
  el_is (el_slR h eo_none (eo_some h1)) (by
    rw [cutV_iv, show n = ((n.toNat : Nat) : Int) by omega, HT.sIx_nat, HT.sIx_none, Int.toNat_natCast, List.drop_zero, Nat.sub_zero]
    congr 1
    by_cases hc : n.toNat ≤ xs.length
    · rw [Nat.min_eq_left hc]
    · rw [Nat.min_eq_right (by omega), List.take_of_length_le (Nat.le_refl _), List.take_of_length_le (by omega)])
theorem ev_lenI {xs : List Int} (ha : EvR ta σ H (iv xs)) : Ev (tCB (rLenS K) (tCons ta tNil)) σ H (.int (xs.length : Int)) := ev_is (ev_lenR ha) (by rw [iv_len])
theorem at_iv {xs : List Int} {i n : Int} (h : atI xs i = some n) : atI (iv xs) i = some (.int n) := by
  unfold atI at h ⊢
  rw [iv_len]
  cases e : ixN xs.length i with
  | none => rw [e] at h; cases h
  | some j =>
    rw [e] at h
    exact iv_get h
theorem ev_ixI {xs : List Int} {i n : Int} (ha : EvR ta σ H (iv xs)) (hb : Ev tb σ H (.int i)) (hv : atI xs i = some n) : Ev (tOp (rIxL K) ta tb) σ H (.int n) := ev_ixR ha hb (at_iv hv)
theorem ev_mod {g : Int → Int → V} {C : Int → Int → Prop} {i j : Int} (ha : Ev ta σ H (.int i)) (hb : Ev tb σ H (.int j)) (hc : C i j) : Ev (tOp (rI C g) ta tb) σ H (g i j) := ev_op ha hb (rv_I hc)
theorem ev_i0 {g : Int → Int → V} {i j : Int} (ha : Ev ta σ H (.int i)) (hb : Ev tb σ H (.int j)) : Ev (tOp (rI0 g) ta tb) σ H (g i j) := ev_op ha hb rv_I0
theorem ev_eqS (ha : Ev ta σ H x) (hb : Ev tb σ H y) (h : scal x y = true) : Ev (tOp rEq ta tb) σ H (.bl (decide (x = y))) := ev_op ha hb (rv_eq h)
theorem ev_neS (ha : Ev ta σ H x) (hb : Ev tb σ H y) (h : scal x y = true) : Ev (tOp rNe ta tb) σ H (.bl (!decide (x = y))) := ev_op ha hb (rv_ne h)
theorem ev_one (h : Ev te σ H x) : Ev te σ H x := h
theorem ev_chain {g g' : Int → Int → Bool} {tc : TE} {i j k : Int} (ha : Ev ta σ H (.int i)) (hb : Ev tb σ H (.int j)) (hc : Ev tc σ H (.int k)) :
    Ev (tChain (rI0 fun i j => .bl (g i j)) (rI0 fun i j => .bl (g' i j)) ta tb tc) σ H (.bl (g i j && g' j k)) := fun H1 e Q q =>
  ha H1 e _ fun H2 e2 => hb H2 (e.trans e2) _ fun H3 e3 => ⟨i, j, rfl, rfl, g i j, rfl, by
    cases hg : g i j with
    | true =>
      rw [hg] at q
      refine iteT ?_
      exact hc H3 ((e.trans e2).trans e3) _ fun H4 e4 => ⟨j, k, rfl, rfl, q H4 ((e2.trans e3).trans e4)⟩
    | false =>
      rw [hg] at q
      refine iteF ?_
      exact q H3 (e2.trans e3)⟩
/-! arguments of which some are lists -/
def EvAP (t : TA) (σ : L2.St) (H : Hp) (P : List V → Hp → Prop) : Prop := ∀ H1, Ex H H1 → ∀ Q : List V → Hp → Prop, (∀ vs H2, Ex H1 H2 → P vs H2 → Q vs H2) → t σ H1 Q
theorem eap_nil : EvAP tNil σ H (fun vs _ => vs = []) := fun H1 _ _ q => q [] H1 (Ex.refl H1) rfl
theorem eap_ev {tr : TA} {P : List V → Hp → Prop} (h : Ev te σ H v) (hr : EvAP tr σ H P) : EvAP (tCons te tr) σ H (fun vs H' => ∃ r, vs = v :: r ∧ P r H') := fun H1 e Q q =>
  h H1 e _ fun H2 e2 => hr H2 (e.trans e2) _ fun vs H3 e3 h3 => q _ H3 (e2.trans e3) ⟨vs, rfl, h3⟩
theorem eap_er {tr : TA} {P : List V → Hp → Prop} (h : EvR te σ H xs) (hr : EvAP tr σ H P) : EvAP (tCons te tr) σ H (fun vs H' => ∃ p r, vs = .ref p :: r ∧ H' p = some (.lst xs) ∧ P r H') := fun H1 e Q q =>
  h H1 e _ fun p H2 e2 h2 => hr H2 (e.trans e2) _ fun vs H3 e3 h3 => q _ H3 (e2.trans e3) ⟨p, vs, rfl, e3 _ _ h2, h3⟩
/-- a written list of lists, and one of them -/
def EvLs (t : TA) (σ : L2.St) (H : Hp) (xss : List (List V)) : Prop := EvAP t σ H (fun vs H' => ∃ ps : List Addr, vs = ps.map V.ref ∧ ps.length = xss.length ∧ ∀ (i : Nat) (p : Addr) (xs : List V), ps[i]? = some p → xss[i]? = some xs → H' p = some (.lst xs))
theorem els_nil : EvLs tNil σ H [] := fun H1 _ _ q => q [] H1 (Ex.refl H1) ⟨[], rfl, rfl, fun i p xs h => by simp at h⟩
theorem els_cons {tr : TA} {xss : List (List V)} (h : EvR te σ H xs) (hr : EvLs tr σ H xss) : EvLs (tCons te tr) σ H (xs :: xss) := fun H1 e Q q =>
  h H1 e _ fun p H2 e2 h2 => hr H2 (e.trans e2) _ fun vs H3 e3 ⟨ps, ev, el, hp⟩ => q _ H3 (e2.trans e3) ⟨p :: ps, by rw [ev]; rfl, by rw [List.length_cons, el]; rfl, fun i p' xs' h1 h3 => by
    cases i with
    | zero =>
      have a1 : p = p' := Option.some.inj h1
      have a2 : xs = xs' := Option.some.inj h3
      subst a1 a2
      exact e3 _ _ h2
    | succ i => exact hp i p' xs' h1 h3⟩
theorem er_pick {t : TA} {xss : List (List V)} {i : Int} {j : Nat} (h : EvLs t σ H xss) (hb : Ev tb σ H (.int i)) (ei : i = (j : Int)) (hj : xss[j]? = some xs) (hz : xss.length ≤ 1000) : EvR (tOp (rIxL K) (tLst t) tb) σ H xs := fun H1 e Q q =>
  h H1 e _ fun vs H2 e2 ⟨ps, ev, el, hp⟩ => by
    subst ev
    have hjl : j < xss.length := (List.getElem?_eq_some_iff.mp hj).1
    have hjp : j < ps.length := by omega
    refine ⟨by rw [List.length_map, el]; exact Nat.le_trans hz (by decide), fun p hpn => hb _ ((e.trans e2).trans (Ex.new hpn)) _ fun H3 e3 => ⟨p, ps.map V.ref, i, .ref ps[j], rfl, rfl, sq_of (e3 _ _ upd_same), ?_, ?_⟩⟩
    · rw [ei]
      exact atI_nat (by rw [List.getElem?_map, List.getElem?_eq_getElem hjp]; rfl)
    · exact q ps[j] H3 ((e2.trans (Ex.new hpn)).trans e3) (e3 _ _ (Ex.new hpn _ _ (hp j ps[j] xs (List.getElem?_eq_getElem hjp) hj)))
/-- a call that gives a new list -/
theorem el_callP {sp : Sp} {dvs : List V} {E : XK} {targs : TA} {P : List V → Hp → Prop} (h : EvAP targs σ H P) (k : ∀ vs H1, Ex H H1 → P vs H1 → ∀ Q : VK, RetL xs H1 Q → sp (vs ++ dvs) H1 Q E) : EvL (tCall sp dvs E targs) σ H xs := fun H1 e Q q =>
  h H1 e _ fun vs H2 e2 p => k vs H2 (e.trans e2) p Q fun a H3 n3 e3 h3 => q a H3 (fresh_back e2 n3) (e2.trans e3) h3
theorem ev_isiTup {n : String} {b : Bool} {a : Addr} (ha : Ev ta σ H (.ref a)) (h : H a = some (.tup xs)) (hb : kitB "tuple" n = some b) : Ev (tCB (rIsi K) (tCons ta (tCons (tC (.ty n)) tNil))) σ H (.bl b) := fun H1 e Q q =>
  ha H1 e _ fun H2 e2 => ⟨.ref a, .ty n, .type "tuple", .type n, b, rfl, .ty n, .base (.tup (e2 _ _ (e _ _ h))), kit_ty hb, q H2 e2⟩
theorem ev_lenTup {a : Addr} (ha : Ev ta σ H (.ref a)) (h : H a = some (.tup xs)) : Ev (tCB (rLenS K) (tCons ta tNil)) σ H (.int (xs.length : Int)) := fun H1 e Q q =>
  ha H1 e _ fun H2 e2 => ⟨a, xs, rfl, Or.inr (st_of (e2 _ _ (e _ _ h))), q H2 e2⟩
theorem ev_ixTup {a : Addr} {i : Int} {j : Nat} (ha : Ev ta σ H (.ref a)) (h : H a = some (.tup xs)) (hb : Ev tb σ H (.int i)) (ei : i = (j : Int)) (hv : xs[j]? = some v) : Ev (tOp (rIxT K) ta tb) σ H v := fun H1 e Q q =>
  ha H1 e _ fun H2 e2 => hb H2 (e.trans e2) _ fun H3 e3 => ⟨a, xs, i, v, rfl, rfl, st_of (e3 _ _ (e2 _ _ (e _ _ h))), by rw [ei]; exact atI_nat hv, q H3 (e2.trans e3)⟩
/-! a call with arguments of which some are lists -/
theorem q_asgP {i : Nat} {sp : Sp} {dvs : List V} {E : XK} {targs : TA} {tz : TS} {D : Ends} {P : List V → Hp → Prop} (h : EvAP targs σ H P) (k : ∀ vs H1, Ex H H1 → P vs H1 → sp (vs ++ dvs) H1 (fun v H2 => tz D (σ.set i (some v)) H2) E) : tSeq (tAsg (tCall sp dvs E targs) (gName i)) tz D σ H :=
  h H (Ex.refl H) _ fun vs H1 e p => k vs H1 e p
theorem s_retP {sp : Sp} {dvs : List V} {E : XK} {targs : TA} {D : Ends} {P : List V → Hp → Prop} (h : EvAP targs σ H P) (k : ∀ vs H1, Ex H H1 → P vs H1 → sp (vs ++ dvs) H1 (fun v H2 => D.rt v H2) E) : tRet (tCall sp dvs E targs) D σ H :=
  h H (Ex.refl H) _ fun vs H1 e p => k vs H1 e p
/-! a call within a try -/
theorem s_dropS {sp : Sp} {vs : List V} {E : L2.St → XK} {targs : TA} {D : Ends} (h : EvA targs σ H vs) (k : ∀ H1, Ex H H1 → sp vs H1 (fun _ H2 => D.nx σ H2) (E σ)) : tDrop (tCallS sp E targs) D σ H :=
  h H (Ex.refl H) _ fun H1 e => k H1 e
/-! a call: the callee's promise in the reader's hand -/
theorem q_asgC {i : Nat} {sp : Sp} {dvs vs : List V} {E : XK} {targs : TA} {tz : TS} {D : Ends} (h : EvA targs σ H vs) (k : ∀ H1, Ex H H1 → sp (vs ++ dvs) H1 (fun v H2 => tz D (σ.set i (some v)) H2) E) : tSeq (tAsg (tCall sp dvs E targs) (gName i)) tz D σ H :=
  h H (Ex.refl H) _ fun H1 e => k H1 e
/-! the reading itself, step by step -/
theorem q_asgW {i : Nat} {tz : TS} {D : Ends} (h : te σ H (fun v H2 => tz D (σ.set i (some v)) H2)) : tSeq (tAsg te (gName i)) tz D σ H := h
theorem s_asgW {i : Nat} {D : Ends} (h : te σ H (fun v H2 => D.nx (σ.set i (some v)) H2)) : tAsg te (gName i) D σ H := h
theorem tup2_go {i j : Nat} {a : Addr} {x y : V} {D : L2.St → Hp → Prop} (hs : SqT K H a [x, y]) (k : D ((σ.set i (some x)).set j (some y)) H) : gTup K 2 (gCons (gName i) (gCons (gName j) gNil)) (.ref a) σ H D :=
  ⟨a, [x, y], rfl, hs, rfl, x, [y], rfl, y, [], rfl, rfl, k⟩
theorem q_asgG {g : TG} {tz : TS} {D : Ends} (h : te σ H (fun v H1 => g v σ H1 (tz D))) : tSeq (tAsg te g) tz D σ H := h
theorem op_go {Q : VK} (h : ta σ H (fun x H1 => tb σ H1 fun y H2 => r x y H2 Q)) : tOp r ta tb σ H Q := h
theorem call_go {sp : Sp} {dvs : List V} {E : XK} {t : TA} {Q : VK} (h : t σ H (fun vs H1 => sp (vs ++ dvs) H1 Q E)) : tCall sp dvs E t σ H Q := h
theorem ev_go {Q : VK} (h : Ev te σ H v) (k : ∀ H2, Ex H H2 → Q v H2) : te σ H Q := h H (Ex.refl H) Q k
theorem er_go {Q : VK} (h : EvR te σ H xs) (k : ∀ p H2, Ex H H2 → H2 p = some (.lst xs) → Q (.ref p) H2) : te σ H Q := h H (Ex.refl H) Q k
theorem el_go {Q : VK} (h : EvL te σ H xs) (k : ∀ p H2, H p = none → Ex H H2 → H2 p = some (.lst xs) → Q (.ref p) H2) : te σ H Q := h H (Ex.refl H) Q k
theorem ea_go {t : TA} {vs : List V} {Q : List V → Hp → Prop} (h : EvA t σ H vs) (k : ∀ H2, Ex H H2 → Q vs H2) : t σ H Q := h H (Ex.refl H) Q k
theorem s_asgC {i : Nat} {sp : Sp} {dvs vs : List V} {E : XK} {targs : TA} {D : Ends} (h : EvA targs σ H vs) (k : ∀ H1, Ex H H1 → sp (vs ++ dvs) H1 (fun v H2 => D.nx (σ.set i (some v)) H2) E) : tAsg (tCall sp dvs E targs) (gName i) D σ H :=
  h H (Ex.refl H) _ fun H1 e => k H1 e
theorem q_dropC {sp : Sp} {dvs vs : List V} {E : XK} {targs : TA} {tz : TS} {D : Ends} (h : EvA targs σ H vs) (k : ∀ H1, Ex H H1 → sp (vs ++ dvs) H1 (fun _ H2 => tz D σ H2) E) : tSeq (tDrop (tCall sp dvs E targs)) tz D σ H :=
  h H (Ex.refl H) _ fun H1 e => k H1 e
theorem s_retC {sp : Sp} {dvs vs : List V} {E : XK} {targs : TA} {D : Ends} (h : EvA targs σ H vs) (k : ∀ H1, Ex H H1 → sp (vs ++ dvs) H1 (fun v H2 => D.rt v H2) E) : tRet (tCall sp dvs E targs) D σ H :=
  h H (Ex.refl H) _ fun H1 e => k H1 e
theorem ea_one (h : Ev te σ H x) : EvA (tCons te tNil) σ H [x] := ea_cons h ea_nil
theorem ea_two (h : Ev ta σ H x) (h2 : Ev tb σ H y) : EvA (tCons ta (tCons tb tNil)) σ H [x, y] := ea_cons h (ea_cons h2 ea_nil)
/-- what is put together of an old heap and one list of one's own -/
theorem q_app1 {tz : TS} {D : Ends} {B : Hp} {l : Addr} {ws : List V} (hb : B l = none) (eb : Ex B H) (hl : H l = some (.lst ws)) (ha : Ev ta σ H (.ref l)) (h : Ev te σ H v) (hz : ws.length < 10000000)
    (k : ∀ H1, Ex B H1 → (∀ a o, a ≠ l → H a = some o → H1 a = some o) → H1 l = some (.lst (ws ++ [v])) → tz D σ H1) : tSeq (tDrop (tBM K "list" rAppend ta (tCons te tNil))) tz D σ H :=
  ha H (Ex.refl H) _ fun H1 e1 => ⟨Or.inl ⟨rfl, ws, sq_of (e1 l _ hl)⟩, h H1 e1 _ fun H2 e2 => ⟨l, ws, v, rfl, rfl, e2 l _ (e1 l _ hl), Nat.lt_of_lt_of_le hz (by decide),
    k _ (Ex.mut (eb.trans (e1.trans e2)) hb) (fun a o n ho => by rw [upd_ne n]; exact (e1.trans e2) _ _ ho) upd_same⟩⟩
theorem s_app1 {D : Ends} {B : Hp} {l : Addr} {ws : List V} (hb : B l = none) (eb : Ex B H) (hl : H l = some (.lst ws)) (ha : Ev ta σ H (.ref l)) (h : Ev te σ H v) (hz : ws.length < 10000000)
    (k : ∀ H1, Ex B H1 → (∀ a o, a ≠ l → H a = some o → H1 a = some o) → H1 l = some (.lst (ws ++ [v])) → D.nx σ H1) : tDrop (tBM K "list" rAppend ta (tCons te tNil)) D σ H :=
  ha H (Ex.refl H) _ fun H1 e1 => ⟨Or.inl ⟨rfl, ws, sq_of (e1 l _ hl)⟩, h H1 e1 _ fun H2 e2 => ⟨l, ws, v, rfl, rfl, e2 l _ (e1 l _ hl), Nat.lt_of_lt_of_le hz (by decide),
    k _ (Ex.mut (eb.trans (e1.trans e2)) hb) (fun a o n ho => by rw [upd_ne n]; exact (e1.trans e2) _ _ ho) upd_same⟩⟩
theorem iv_snoc (ws : List Int) (n : Int) : iv ws ++ [V.int n] = iv (ws ++ [n]) := (List.map_append (l₁ := ws) (l₂ := [n]) (f := V.int)).symm
theorem q_appI {tz : TS} {D : Ends} {B : Hp} {l : Addr} {ws : List Int} {n : Int} (hb : B l = none) (eb : Ex B H) (hl : H l = some (.lst (iv ws))) (ha : Ev ta σ H (.ref l)) (h : Ev te σ H (.int n)) (hz : ws.length < 10000000)
    (k : ∀ H1, Ex B H1 → (∀ a o, a ≠ l → H a = some o → H1 a = some o) → H1 l = some (.lst (iv (ws ++ [n]))) → tz D σ H1) : tSeq (tDrop (tBM K "list" rAppend ta (tCons te tNil))) tz D σ H :=
  q_app1 hb eb hl ha h (by rw [iv_len]; exact hz) fun H1 e1 e2 h1 => k H1 e1 e2 (by rw [h1, iv_snoc])
theorem s_appI {D : Ends} {B : Hp} {l : Addr} {ws : List Int} {n : Int} (hb : B l = none) (eb : Ex B H) (hl : H l = some (.lst (iv ws))) (ha : Ev ta σ H (.ref l)) (h : Ev te σ H (.int n)) (hz : ws.length < 10000000)
    (k : ∀ H1, Ex B H1 → (∀ a o, a ≠ l → H a = some o → H1 a = some o) → H1 l = some (.lst (iv (ws ++ [n]))) → D.nx σ H1) : tDrop (tBM K "list" rAppend ta (tCons te tNil)) D σ H :=
  s_app1 hb eb hl ha h (by rw [iv_len]; exact hz) fun H1 e1 e2 h1 => k H1 e1 e2 (by rw [h1, iv_snoc])
/-- xs[j] = e, in a list of one's own -/
theorem q_setI {tz : TS} {D : Ends} {B : Hp} {l : Addr} {ws : List Int} {n i : Int} {j : Nat} (hb : B l = none) (eb : Ex B H) (hl : H l = some (.lst (iv ws))) (h : Ev te σ H (.int n)) (ha : Ev ta σ H (.ref l)) (hi : Ev tb σ H (.int i)) (ei : i = (j : Int)) (hj : j < ws.length)
    (k : ∀ H1, Ex B H1 → (∀ a o, a ≠ l → H a = some o → H1 a = some o) → H1 l = some (.lst (iv (ws.set j n))) → tz D σ H1) : tSeq (tAsg te (gSub ta tb rSetL)) tz D σ H :=
  h H (Ex.refl H) _ fun H1 e1 => ha H1 e1 _ fun H2 e2 => hi H2 (e1.trans e2) _ fun H3 e3 => ⟨l, iv ws, i, j, rfl, rfl, ((e1.trans e2).trans e3) l _ hl, by rw [ei, iv_len]; exact ixN_nat hj, by
    refine k _ (Ex.mut (eb.trans ((e1.trans e2).trans e3)) hb) (fun a o n ho => by rw [upd_ne n]; exact ((e1.trans e2).trans e3) _ _ ho) ?_
    rw [upd_same]
    unfold iv
    rw [List.map_set]⟩
theorem s_setI {D : Ends} {B : Hp} {l : Addr} {ws : List Int} {n i : Int} {j : Nat} (hb : B l = none) (eb : Ex B H) (hl : H l = some (.lst (iv ws))) (h : Ev te σ H (.int n)) (ha : Ev ta σ H (.ref l)) (hi : Ev tb σ H (.int i)) (ei : i = (j : Int)) (hj : j < ws.length)
    (k : ∀ H1, Ex B H1 → (∀ a o, a ≠ l → H a = some o → H1 a = some o) → H1 l = some (.lst (iv (ws.set j n))) → D.nx σ H1) : tAsg te (gSub ta tb rSetL) D σ H :=
  h H (Ex.refl H) _ fun H1 e1 => ha H1 e1 _ fun H2 e2 => hi H2 (e1.trans e2) _ fun H3 e3 => ⟨l, iv ws, i, j, rfl, rfl, ((e1.trans e2).trans e3) l _ hl, by rw [ei, iv_len]; exact ixN_nat hj, by
    refine k _ (Ex.mut (eb.trans ((e1.trans e2).trans e3)) hb) (fun a o n ho => by rw [upd_ne n]; exact ((e1.trans e2).trans e3) _ _ ho) ?_
    rw [upd_same]
    unfold iv
    rw [List.map_set]⟩
/-- for i, x in enumerate(xs) -/
theorem s_forEn {D : Ends} {tu : TS} {a : Addr} {j1 j2 : Nat} {xs : List V} (h : Ev ta σ H (.ref a)) (hx : H a = some (.lst xs)) (Pv : Nat → L2.St → Hp → Prop) (h0 : ∀ H1, Ex H H1 → Pv 0 σ H1) (hl : ∀ i σ' H', i ≤ xs.length → Pv i σ' H' → SqL K H' a xs)
    (hs : ∀ i x σ' H', xs[i]? = some x → Pv i σ' H' → ∀ H2, Ex H' H2 → tu { D with nx := Pv (i + 1), ct := Pv (i + 1), bk := D.nx } ((σ'.set j1 (some (.int (i : Int)))).set j2 (some x)) H2) (hd : ∀ σ' H', Pv xs.length σ' H' → D.nx σ' H') :
    tFor (iEnum K (tCons ta tNil)) (gTup K 2 (gCons (gName j1) (gCons (gName j2) gNil))) tu D σ H := h H (Ex.refl H) _ fun H1 e1 => ⟨a, xs, rfl, sq_of (e1 _ _ hx), by
  refine ⟨fun i m σ' H' => i + m = xs.length ∧ Pv i σ' H', ⟨xs.length, Nat.zero_add _, h0 H1 e1⟩, ?_⟩
  rintro i m σ' H' ⟨em, p⟩
  have q := hl i σ' H' (by omega) p
  by_cases hi : i < xs.length
  · refine .inr ⟨⟨xs, xs[i], q, List.getElem?_eq_getElem hi⟩, Pv (i + 1), fun σ2 H2 hN => ⟨m - 1, by omega, by omega, hN⟩, fun x H2 hy => ?_⟩
    obtain ⟨T, x1, rfl, nT, rfl, f1⟩ := hy
    have ex1 : x1 = xs[i] := Option.some.inj ((f1 _ q).symm.trans (List.getElem?_eq_getElem hi))
    subst ex1
    exact ⟨T, [.int (i : Int), xs[i]], rfl, .inl (.inl upd_same), rfl, .int (i : Int), [xs[i]], rfl, xs[i], [], rfl, rfl, hs i _ σ' H' (List.getElem?_eq_getElem hi) p _ (Ex.new nT)⟩
  · have e : i = xs.length := by omega
    subst e
    exact .inl ⟨⟨xs, q, Nat.le_refl _⟩, hd σ' H' p⟩⟩
theorem q_forEn {D : Ends} {tu tz : TS} {a : Addr} {j1 j2 : Nat} {xs : List V} (h : Ev ta σ H (.ref a)) (hx : H a = some (.lst xs)) (Pv : Nat → L2.St → Hp → Prop) (h0 : ∀ H1, Ex H H1 → Pv 0 σ H1) (hl : ∀ i σ' H', i ≤ xs.length → Pv i σ' H' → SqL K H' a xs)
    (hs : ∀ i x σ' H', xs[i]? = some x → Pv i σ' H' → ∀ H2, Ex H' H2 → tu { D with nx := Pv (i + 1), ct := Pv (i + 1), bk := tz D } ((σ'.set j1 (some (.int (i : Int)))).set j2 (some x)) H2) (hd : ∀ σ' H', Pv xs.length σ' H' → tz D σ' H') :
    tSeq (tFor (iEnum K (tCons ta tNil)) (gTup K 2 (gCons (gName j1) (gCons (gName j2) gNil))) tu) tz D σ H := s_forEn (D := { D with nx := tz D }) h hx Pv h0 hl hs hd
/-! comprehensions over rows -/
theorem yes_go {A B : Hp → Prop} (h : A H) : tYes σ H (fun b H3 => if b = true then A H3 else B H3) := by
  show (if true = true then A H else B H)
  rw [if_pos rfl]
  exact h
theorem el_lcMap {tl : TE} {j : Nat} {vs : List Nat} (g : V → V) (h : EvR tl σ H xs) (hz : xs.length ≤ 1000000) (hw : ∀ x, wipe ((wipe σ vs).set j (some x)) vs = wipe σ vs)
    (he : ∀ (i : Nat) (x : V) H1, Ex H H1 → xs[i]? = some x → Ev te ((wipe σ vs).set j (some x)) H1 (g x)) :
    EvL (tLc (iList K tl) (gName j) tYes te vs) σ H (xs.map g) := fun H0 e Q q => h H0 e _ fun a H1 e1 hx => ⟨a, rfl, ⟨xs, sq_of hx⟩, fun Dl hD =>
  lc_list (xs := xs) (fun i H' => Ex H1 H' ∧ H' Dl = some (.lst ((xs.map g).take i))) ⟨Ex.new hD, by rw [List.take_zero]; exact upd_same⟩ (fun i H' _ p => sq_of (p.1 a _ hx)) (fun i x H' hi p => ⟨hw x, by
    refine yes_go ?_
    refine he i x H1 (e.trans e1) hi H' p.1 _ fun H4 e4 => ⟨_, e4 Dl _ p.2, ?_, Ex.mut (p.1.trans e4) hD, ?_⟩
    · have z := (List.getElem?_eq_some_iff.mp hi).1
      rw [List.length_take, List.length_map]
      show _ < 2 ^ 24
      omega
    · have z : (xs.map g)[i]? = some (g x) := by rw [List.getElem?_map, hi]; rfl
      rw [List.take_add_one, z]
      exact upd_same⟩)
    (fun H' p => q Dl H' (fresh_back e1 hD) (e1.trans p.1) (by
      have z := p.2
      rw [List.take_of_length_le (by rw [List.length_map]; exact Nat.le_refl _)] at z
      exact z))⟩
theorem el_lcRg {ta : TA} {j : Nat} {vs : List Nat} {n : Int} (g : Nat → V) (h : EvA ta σ H [.int n]) (hn : 0 ≤ n ∧ n ≤ 1000000) (hw : ∀ x, wipe ((wipe σ vs).set j (some x)) vs = wipe σ vs)
    (he : ∀ (i : Nat) H1, Ex H H1 → (i : Int) < n → Ev te ((wipe σ vs).set j (some (.int (i : Int)))) H1 (g i)) :
    EvL (tLc (iRng1 ta) (gName j) tYes te vs) σ H ((List.range n.toNat).map g) := fun H0 e Q q => h H0 e _ fun H1 e1 => ⟨n, rfl, by omega, by omega, fun Dl hD =>
  lc_range (lo := 0) (n := n.toNat) (fun i H' => Ex H1 H' ∧ H' Dl = some (.lst (((List.range n.toNat).map g).take i))) ⟨Ex.new hD, by rw [List.take_zero]; exact upd_same⟩ (fun i H' hi p => by
    have e0 : (0 : Int) + (i : Int) = (i : Int) := Int.zero_add _
    refine ⟨hw _, ?_⟩
    refine yes_go ?_
    rw [e0]
    refine he i H1 (e.trans e1) (by omega) H' p.1 _ fun H4 e4 => ⟨_, e4 Dl _ p.2, ?_, Ex.mut (p.1.trans e4) hD, ?_⟩
    · rw [List.length_take, List.length_map, List.length_range]
      show _ < 2 ^ 24
      omega
    · have z : ((List.range n.toNat).map g)[i]? = some (g i) := by rw [List.getElem?_map, List.getElem?_range hi]; rfl
      rw [List.take_add_one, z]
      exact upd_same) (fun H' p => q Dl H' (fresh_back e1 hD) (e1.trans p.1) (by
      have z := p.2
      rw [List.take_of_length_le (by rw [List.length_map, List.length_range]; exact Nat.le_refl _)] at z
      exact z))⟩
/-- [e for a, b in zip(xs, ys)] -/
theorem el_lcZip {i j : Nat} {vs : List Nat} {xs ys : List V} (g : V → V → V) (ha : EvR ta σ H xs) (hb : EvR tb σ H ys) (hz : xs.length ≤ 1000000) (hw : ∀ x y, wipe (((wipe σ vs).set i (some x)).set j (some y)) vs = wipe σ vs)
    (he : ∀ (k : Nat) (x y : V) H1, Ex H H1 → xs[k]? = some x → ys[k]? = some y → Ev te (((wipe σ vs).set i (some x)).set j (some y)) H1 (g x y)) :
    EvL (tLc (iZip K (tCons ta (tCons tb tNil))) (gTup K 2 (gCons (gName i) (gCons (gName j) gNil))) tYes te vs) σ H (List.zipWith g xs ys) := fun H0 e Q q =>
  ha H0 e _ fun a H1 e1 h1 => hb H1 (e.trans e1) _ fun b H2 e2 h2 => ⟨a, b, xs, ys, rfl, sq_of (e2 _ _ h1), sq_of h2, fun Dl hD => by
    have e02 : Ex H H2 := (e.trans e1).trans e2
    have hA : H2 a = some (.lst xs) := e2 _ _ h1
    refine ⟨fun k m H' => k + m = (List.zipWith g xs ys).length ∧ Ex H2 H' ∧ H' Dl = some (.lst ((List.zipWith g xs ys).take k)), ⟨(List.zipWith g xs ys).length, Nat.zero_add _, Ex.new hD, by rw [List.take_zero]; exact upd_same⟩, ?_⟩
    rintro k m H' ⟨em, p1, p2⟩
    have hl : (List.zipWith g xs ys).length = min xs.length ys.length := List.length_zipWith
    by_cases hk : k < (List.zipWith g xs ys).length
    · have kx : k < xs.length := by omega
      have ky : k < ys.length := by omega
      refine .inr ⟨⟨xs, ys, xs[k], ys[k], sq_of (p1 _ _ hA), sq_of (p1 _ _ h2), List.getElem?_eq_getElem kx, List.getElem?_eq_getElem ky⟩, fun H4 => Ex H2 H4 ∧ H4 Dl = some (.lst ((List.zipWith g xs ys).take (k + 1))), fun H4 hN => ⟨m - 1, by omega, by omega, hN.1, hN.2⟩, fun x H4 hy => ?_⟩
      obtain ⟨T, x1, x2, rfl, nT, rfl, f1, f2⟩ := hy
      have ex1 : x1 = xs[k] := Option.some.inj ((f1 _ (sq_of (p1 _ _ hA))).symm.trans (List.getElem?_eq_getElem kx))
      have ex2 : x2 = ys[k] := Option.some.inj ((f2 _ (sq_of (p1 _ _ h2))).symm.trans (List.getElem?_eq_getElem ky))
      subst ex1 ex2
      refine ⟨T, [xs[k], ys[k]], rfl, .inl (.inl upd_same), rfl, xs[k], [ys[k]], rfl, ys[k], [], rfl, rfl, hw _ _, ?_⟩
      refine yes_go ?_
      refine he k xs[k] ys[k] H2 e02 (List.getElem?_eq_getElem kx) (List.getElem?_eq_getElem ky) _ (p1.trans (Ex.new nT)) _ fun H5 e5 => ⟨_, e5 Dl _ (Ex.new nT _ _ p2), ?_, Ex.mut ((p1.trans (Ex.new nT)).trans e5) hD, ?_⟩
      · rw [List.length_take]
        show _ < 2 ^ 24
        omega
      · have z : (List.zipWith g xs ys)[k]? = some (g xs[k] ys[k]) := by
          rw [List.getElem?_zipWith, List.getElem?_eq_getElem kx, List.getElem?_eq_getElem ky]
        rw [List.take_add_one, z]
        exact upd_same
    · refine .inl ⟨⟨xs, ys, sq_of (p1 _ _ hA), sq_of (p1 _ _ h2), by omega⟩, ?_⟩
      have z := p2
      rw [List.take_of_length_le (by omega)] at z
      exact q Dl H' (fresh_back (e1.trans e2) hD) ((e1.trans e2).trans p1) z⟩
end
end Cg

set_option Elab.async false
set_option linter.all false
set_option maxRecDepth 100000
set_option maxHeartbeats 4000000
/-! ## Pre 2: classes of the program, their methods, what stands at an address and changes -/
namespace Cg
open PySem PySem.Spec PyProof.Rows L2 Evl
structure ClsT (K : PySem.W.Frag) (mg : Str → Option Value) (x : Str) (C : Addr) : Prop where
  cl : Cls K C
  g : mg x = some (.ref C)
def RawM (K : PySem.W.Frag) (C : Addr) (m qual : Str) (st : Stmt) (ps : List Str) : Prop := ∃ f fd, Fun K m qual st f fd ∧ Binds K fd ps [] ∧ Meth K C m f
def RawI (K : PySem.W.Frag) (C : Addr) (qual : Str) (st : Stmt) (ps : List Str) : Prop := ∃ f fd, Fun K "__init__" qual st f fd ∧ Binds K fd ps [] ∧ Mk K C f
def HasM (P : Program) (w : World) (K : PySem.W.Frag) (mg : Str → Option Value) (base : Heap) (k : Nat) (C : Addr) (m : Str) (ps : List Str) (sp : Sp) : Prop :=
  ∃ f fd, FnOk P w K mg base (L2.CX P w) k f fd ps sp ∧ Meth K C m f ∧ Binds K fd ps []
def HasI (P : Program) (w : World) (K : PySem.W.Frag) (mg : Str → Option Value) (base : Heap) (k : Nat) (C : Addr) (ps : List Str) (sp : Sp) : Prop :=
  ∃ f fd, FnOk P w K mg base (L2.CX P w) k f fd ps sp ∧ Mk K C f ∧ Binds K fd ps []
section
variable {P : Program} {w : World} {K : PySem.W.Frag} {mg : Str → Option Value} {base : Heap}
theorem RawM.ok {C : Addr} {m qual : Str} {st : Stmt} {N ps : List Str} {k : Nat} {sp : Sp} (R : RawM K C m qual st ps) (S : FnScope N ps (defScope st)) (len : ∀ vs H Q E, sp vs H Q E → vs.length = ps.length)
    (hbody : ∀ (f : Addr) (cdv : Value) (A : Around) (outer : List Env) (s : Shared) (H : Hp) (vs : List V) (Q : VK) (E : XK), Room k (A.deeper (envOfC qual (defScope st) s.heap.objs.size f cdv)) → sp vs H Q E →
      ∃ t, PSs (cxOf (L2.CX P w) P w K mg base N qual (defScope st) f cdv A outer s H E) (defBody st) t ∧ t { nx := fun _ H' => Q .non H', rt := Q } (start N vs) H) : HasM P w K mg base (k + 1) C m ps sp := by
  obtain ⟨f, fd, F, b, g⟩ := R
  exact ⟨f, fd, F.okX S len fun cdv A outer s H vs Q E hr h => hbody f cdv A outer s H vs Q E hr h, g, b⟩
theorem RawI.ok {C : Addr} {qual : Str} {st : Stmt} {N ps : List Str} {k : Nat} {sp : Sp} (R : RawI K C qual st ps) (S : FnScope N ps (defScope st)) (len : ∀ vs H Q E, sp vs H Q E → vs.length = ps.length)
    (hbody : ∀ (f : Addr) (cdv : Value) (A : Around) (outer : List Env) (s : Shared) (H : Hp) (vs : List V) (Q : VK) (E : XK), Room k (A.deeper (envOfC qual (defScope st) s.heap.objs.size f cdv)) → sp vs H Q E →
      ∃ t, PSs (cxOf (L2.CX P w) P w K mg base N qual (defScope st) f cdv A outer s H E) (defBody st) t ∧ t { nx := fun _ H' => Q .non H', rt := Q } (start N vs) H) : HasI P w K mg base (k + 1) C ps sp := by
  obtain ⟨f, fd, F, b, g⟩ := R
  exact ⟨f, fd, F.okX S len fun cdv A outer s H vs Q E hr h => hbody f cdv A outer s H vs Q E hr h, g, b⟩
end
/-! ### a method's call, an object's making: outside a try, and within one (Z) -/
section
variable {X : Cx} {k : Nat} {C : Addr} {ps : List Str} {sp : Sp} {E : XK} {G : L2.St → XK} {x m : Str} {p pos apos : Pos} {o e : Expr} {es : List Expr} {ta : TE} {t : TA}
theorem pe_methH {pl : Sem Bool} (he : PE X o ta) (c : Cls X.K C) (F : HasM X.prog X.w X.K X.mg X.base k C m ps sp) (hr : Room k X.A) (hx : Passes (L2.CX X.prog X.w) X E) (ha : PA X (e :: es) t)
    (h1 : starEach (e :: es) X.env = (false, eval e X.env) :: starEach es X.env := by rfl) (h2 : (backTo pos (starEach es X.env)).any (·.1) = false := by rfl)
    (h3 : eval (.Call (.Attribute o m apos) (e :: es) [] pos) X.env = (do let ov ← eval o X.env; standAt apos.atName; let (f, first) ← holding [ov] (getMethod ov m pl); callWith pos f first (backTo pos (starEach (e :: es) X.env)) (backToKw pos (keywordEach [] X.env))) := by rfl) :
    PE X (.Call (.Attribute o m apos) (e :: es) [] pos) (tMeth C m sp [] E ta t) := by
  obtain ⟨f, fd, F, hm, b⟩ := F
  exact pe_meth he c hm F hr b .nil hx ha h1 h2 h3
theorem pe_methH0 {pl : Sem Bool} (he : PE X o ta) (c : Cls X.K C) (F : HasM X.prog X.w X.K X.mg X.base k C m ps sp) (hr : Room k X.A) (hx : Passes (L2.CX X.prog X.w) X E)
    (h3 : eval (.Call (.Attribute o m apos) [] [] pos) X.env = (do let ov ← eval o X.env; standAt apos.atName; let (f, first) ← holding [ov] (getMethod ov m pl); callWith pos f first (backTo pos (starEach [] X.env)) (backToKw pos (keywordEach [] X.env))) := by rfl) :
    PE X (.Call (.Attribute o m apos) [] [] pos) (tMeth C m sp [] E ta tNil) := by
  obtain ⟨f, fd, F, hm, b⟩ := F
  exact pe_meth0 he c hm F hr b .nil hx h3
theorem pe_makeH (F : HasI X.prog X.w X.K X.mg X.base k C ps sp) (hr : Room (k + 1) X.A) (g : X.mg x = some (.ref C)) (hx : Passes (L2.CX X.prog X.w) X E) (ha : PA X (e :: es) t) (hg : Gl X x := by rfl) (hdb : (x == ("__debug__" : Str)) = false := by decide)
    (h1 : starEach (e :: es) X.env = (false, eval e X.env) :: starEach es X.env := by rfl) (h2 : (backTo pos (starEach es X.env)).any (·.1) = false := by rfl) : PE X (.Call (.Name x p) (e :: es) [] pos) (tMake C sp [] E t) := by
  obtain ⟨f, fd, F, M, b⟩ := F
  exact pe_make M F hr hg g b .nil hx ha hdb h1 h2
/-- o.m(e, ..) within a try -/
def tMethZ (C : Addr) (m : Str) (sp : Sp) (G : L2.St → XK) (ta : TE) (t : TA) : TE := fun σ H Q => ta σ H fun v H1 => ∃ (a dx : Addr) (fs : List (Str × V)), v = .ref a ∧ (H1 a = some (.ins C dx fs) ∧ fs.lookup m = none) ∧ t σ H1 fun vs H2 => sp (v :: vs) H2 Q (G σ)
theorem pe_methZ {pl : Sem Bool} (he : PE X o ta) (c : Cls X.K C) (F : HasM X.prog X.w X.K X.mg X.base k C m ps sp) (hr : Room k X.A) (hx : ∀ σ, PassesAt (L2.CX X.prog X.w) X σ (G σ)) (ha : PA X (e :: es) t)
    (h1 : starEach (e :: es) X.env = (false, eval e X.env) :: starEach es X.env := by rfl) (h2 : (backTo pos (starEach es X.env)).any (·.1) = false := by rfl)
    (h3 : eval (.Call (.Attribute o m apos) (e :: es) [] pos) X.env = (do let ov ← eval o X.env; standAt apos.atName; let (f, first) ← holding [ov] (getMethod ov m pl); callWith pos f first (backTo pos (starEach (e :: es) X.env)) (backToKw pos (keywordEach [] X.env))) := by rfl) :
    PE X (.Call (.Attribute o m apos) (e :: es) [] pos) (tMethZ C m sp G ta t) := by
  obtain ⟨f, fd, F, hm, b⟩ := F
  constructor
  intro pins s σ H Q I h
  refine PySem.W.methodCall_KW (pl := pl) (thn (he.run pins s σ H _ I h) fun ov s1 hov => ?_) h3
  obtain ⟨v, H1, J, rv, a, dx, fs, rfl, ⟨ea, el⟩, q⟩ := hov
  have eo : ov = Value.ref a := rv
  subst eo
  refine getmeth_ok J ea c hm el ?_
  refine PySem.W.callWith_K (first := [.ref a]) (h₀ := X.base) J.ok.mod.kin hm.kp (thn (ha.run pos pins s1 σ H1 _ J q) fun us s2 hus => ?_) h1 h2
  obtain ⟨vs, H2, J2, r, q2⟩ := hus
  exact ⟨J2.kIn, run_fnS (us := .ref a :: us) (vs := .ref a :: vs) F hr b (hx σ) J2 (.cons rfl r) q2⟩
/-- C(e, ..) within a try -/
def tMakeZ (C : Addr) (sp : Sp) (G : L2.St → XK) (t : TA) : TE := fun σ H Q => t σ H fun vs H1 => ∀ y dy, H1 y = none → H1 dy = none → dy ≠ y →
  sp (.ref y :: vs) (upd (upd H1 dy (.own y)) y (.ins C dy [])) (fun v H2 => v = .non ∧ Q (.ref y) H2) (G σ)
theorem run_makeZ {f : Addr} {fd : FuncData} {pins : List (Addr × Obj)} {σ : L2.St} {H : Hp} {s : Shared} {Q : VK} {us : List Value} {vs : List V} {E : XK} (M : Mk X.K C f) (F : FnOk X.prog X.w X.K X.mg X.base (L2.CX X.prog X.w) k f fd ps sp) (hr : Room (k + 1) X.A) (hb : Binds X.K fd ps [])
    (hx : PassesAt (L2.CX X.prog X.w) X σ E) (I : Inv X pins σ H s) (r : Vals vs us)
    (h : ∀ y dy, H y = none → H dy = none → dy ≠ y → sp (.ref y :: vs) (upd (upd H dy (.own y)) y (.ins C dy [])) (fun v H2 => v = .non ∧ Q (.ref y) H2) E) :
    wpAny (model X.prog X.w) X.A (call (.ref C) us) (EP X pins σ Q) X.xe s := by
  have sz := s.heap.objs.size
  have z := h (s.heap.objs.size + 1) s.heap.objs.size (I.hok.fresh (Nat.le_add_right _ 1)) (I.hok.fresh (Nat.le_refl _)) (Nat.ne_of_lt (Nat.lt_add_one _))
  have J := Inv.made (C := C) I
  have r' : Vals (V.ref (s.heap.objs.size + 1) :: vs) (Value.ref (s.heap.objs.size + 1) :: us) := .cons rfl r
  have len : (Value.ref (s.heap.objs.size + 1) :: us ++ []).length = ps.length := by
    rw [List.append_nil, ← r'.length]
    exact F.len _ _ _ _ z
  have bb := hb _ (Value.ref (s.heap.objs.size + 1) :: us) J.kIn len
  rw [List.append_nil] at bb
  have run := F.run _ X.stack _ _ ⟨Value.ref (s.heap.objs.size + 1) :: us, []⟩ (Value.ref (s.heap.objs.size + 1) :: us) _ _ E (hr.make C us []) (J.env0.make C us []) bb r' z
  refine wpAny_call (make_map (f := f) I.kIn M.makes M.init (beq_iff_eq.mp M.fn) (codeAny_mono run fun out s' ho => ?_))
  cases out with
  | error e => exact hx pins _ _ e s' J ho
  | ok fl =>
    cases fl with
    | next => exact ho.elim
    | brk => exact ho.elim
    | cont => exact ho.elim
    | ret u =>
      obtain ⟨v, H', J3, rv, hv, q⟩ := J.after ho
      cases hv
      exact ⟨rv, V.ref (s.heap.objs.size + 1), H', J3, rfl, q⟩
theorem pe_makeZ (F : HasI X.prog X.w X.K X.mg X.base k C ps sp) (hr : Room (k + 1) X.A) (g : X.mg x = some (.ref C)) (hx : ∀ σ, PassesAt (L2.CX X.prog X.w) X σ (G σ)) (ha : PA X (e :: es) t) (hg : Gl X x := by rfl) (hdb : (x == ("__debug__" : Str)) = false := by decide)
    (h1 : starEach (e :: es) X.env = (false, eval e X.env) :: starEach es X.env := by rfl) (h2 : (backTo pos (starEach es X.env)).any (·.1) = false := by rfl) : PE X (.Call (.Name x p) (e :: es) [] pos) (tMakeZ C sp G t) := by
  obtain ⟨f, fd, F, M, b⟩ := F
  constructor
  intro pins s σ H Q I h
  refine wpAny_Call_Name_kw (ld_glob I hg g ?_ hdb)
  refine PySem.W.callWith_K (h₀ := X.base) I.ok.mod.kin M.kp (thn (ha.run pos pins s σ H _ I h) fun us s1 hus => ?_) h1 h2
  obtain ⟨vs, H1, J, r, q⟩ := hus
  exact ⟨J.kIn, run_makeZ M F hr b (hx σ) J r q⟩
end
theorem kk_count (K) {X : Cx} (h : X.K = K := by rfl) : MtR X "list.count" (rCntI K) := h ▸ mt_lcount
/-! ### what changes at one address alone -/
def Kp (l : Addr) (H H' : Hp) : Prop := ∀ a o, a ≠ l → H a = some o → H' a = some o
theorem Kp.refl (l : Addr) (H : Hp) : Kp l H H := fun _ _ _ h => h
theorem Kp.upd {l : Addr} {H : Hp} {o : HO} : Kp l H (upd H l o) := fun a u n h => by rw [upd_ne n]; exact h
theorem Kp.trans {l : Addr} {H H1 H2 : Hp} (a : Kp l H H1) (b : Kp l H1 H2) : Kp l H H2 := fun x o n h => b x o n (a x o n h)
theorem Kp.of {l : Addr} {H H' : Hp} (e : Ex H H') : Kp l H H' := fun a o _ h => e a o h
theorem Kp.ex {l : Addr} {B H H' : Hp} (k : Kp l H H') (hb : B l = none) (e : Ex B H) : Ex B H' := fun a o h => k a o (ne_of_none h hb) (e a o h)
/-! ### fields and methods in a reading -/
section
variable {K : PySem.W.Frag} {σ : L2.St} {H H' : Hp} {ta tb te tx : TE} {t u : TT} {x y z v : V} {xs ys : List V} {a C dx : Addr} {fs : List (Str × V)} {f m : Str}
theorem ev_fld (h : Ev te σ H (.ref a)) (ho : H a = some (.ins C dx fs)) (c : Cls K C) (n : NoAttr K C f) (l : fs.lookup f = some v) : Ev (tFld K te f) σ H v := fun H1 e Q q =>
  h H1 e _ fun H2 e2 => ⟨a, C, dx, fs, v, rfl, e2 _ _ (e _ _ ho), c, n, l, q H2 e2⟩
theorem q_fld {D : Ends} {tz : TS} (h : Ev te σ H v) (hs : Ev ta σ H (.ref a)) (ho : H a = some (.ins C dx fs)) (c : Cls K C) (n : NoAttr K C f) (hl : fs.length < 1000) (k : ∀ H1, Ex H H1 → tz D σ (upd H1 a (.ins C dx (putF f v fs)))) : tSeq (sFld K ta te f) tz D σ H :=
  h H (Ex.refl H) _ fun H1 e1 => hs H1 e1 _ fun H2 e2 => ⟨a, C, dx, fs, rfl, e2 _ _ (e1 _ _ ho), c, n, hl, k H2 (e1.trans e2)⟩
theorem s_fld {D : Ends} (h : Ev te σ H v) (hs : Ev ta σ H (.ref a)) (ho : H a = some (.ins C dx fs)) (c : Cls K C) (n : NoAttr K C f) (hl : fs.length < 1000) (k : ∀ H1, Ex H H1 → D.nx σ (upd H1 a (.ins C dx (putF f v fs)))) : sFld K ta te f D σ H :=
  h H (Ex.refl H) _ fun H1 e1 => hs H1 e1 _ fun H2 e2 => ⟨a, C, dx, fs, rfl, e2 _ _ (e1 _ _ ho), c, n, hl, k H2 (e1.trans e2)⟩
theorem q_fldL {D : Ends} {tz : TS} (h : EvL te σ H xs) (hs : Ev ta σ H (.ref a)) (ho : H a = some (.ins C dx fs)) (c : Cls K C) (n : NoAttr K C f) (hl : fs.length < 1000) (k : ∀ p H1, H p = none → Ex H H1 → H1 p = some (.lst xs) → tz D σ (upd H1 a (.ins C dx (putF f (.ref p) fs)))) : tSeq (sFld K ta te f) tz D σ H :=
  h H (Ex.refl H) _ fun p H1 n1 e1 h1 => hs H1 e1 _ fun H2 e2 => ⟨a, C, dx, fs, rfl, e2 _ _ (e1 _ _ ho), c, n, hl, k p H2 n1 (e1.trans e2) (e2 _ _ h1)⟩
theorem s_fldL {D : Ends} (h : EvL te σ H xs) (hs : Ev ta σ H (.ref a)) (ho : H a = some (.ins C dx fs)) (c : Cls K C) (n : NoAttr K C f) (hl : fs.length < 1000) (k : ∀ p H1, H p = none → Ex H H1 → H1 p = some (.lst xs) → D.nx σ (upd H1 a (.ins C dx (putF f (.ref p) fs)))) : sFld K ta te f D σ H :=
  h H (Ex.refl H) _ fun p H1 n1 e1 h1 => hs H1 e1 _ fun H2 e2 => ⟨a, C, dx, fs, rfl, e2 _ _ (e1 _ _ ho), c, n, hl, k p H2 n1 (e1.trans e2) (e2 _ _ h1)⟩
theorem meth_go {sp : Sp} {dvs : List V} {E : XK} {t : TA} {Q : VK} (h : Ev ta σ H (.ref a)) (ho : H a = some (.ins C dx fs)) (hm : fs.lookup m = none) (k : ∀ H1, Ex H H1 → t σ H1 fun vs H2 => sp (.ref a :: (vs ++ dvs)) H2 Q E) : tMeth C m sp dvs E ta t σ H Q :=
  h H (Ex.refl H) _ fun H1 e => ⟨a, dx, fs, rfl, e _ _ ho, hm, k H1 e⟩
theorem methZ_go {sp : Sp} {G : L2.St → XK} {t : TA} {Q : VK} (h : Ev ta σ H (.ref a)) (ho : H a = some (.ins C dx fs)) (hm : fs.lookup m = none) (k : ∀ H1, Ex H H1 → t σ H1 fun vs H2 => sp (.ref a :: vs) H2 Q (G σ)) : tMethZ C m sp G ta t σ H Q :=
  h H (Ex.refl H) _ fun H1 e => ⟨a, dx, fs, rfl, ⟨e _ _ ho, hm⟩, k H1 e⟩
theorem el_meth {sp : Sp} {dvs : List V} {E : XK} {t : TA} {P : List V → Hp → Prop} (h : Ev ta σ H (.ref a)) (ho : H a = some (.ins C dx fs)) (hm : fs.lookup m = none) (ht : EvAP t σ H P)
    (k : ∀ vs H1, Ex H H1 → P vs H1 → ∀ Q : VK, RetL xs H1 Q → sp (.ref a :: (vs ++ dvs)) H1 Q E) : EvL (tMeth C m sp dvs E ta t) σ H xs := fun H1 e Q q =>
  h H1 e _ fun H2 e2 => ⟨a, dx, fs, rfl, e2 _ _ (e _ _ ho), hm, ht H2 (e.trans e2) _ fun vs H3 e3 p => k vs H3 ((e.trans e2).trans e3) p Q fun l H4 n4 e4 h4 => q l H4 (fresh_back (e2.trans e3) n4) ((e2.trans e3).trans e4) h4⟩
theorem ev_meth {sp : Sp} {dvs : List V} {E : XK} {t : TA} {P : List V → Hp → Prop} (h : Ev ta σ H (.ref a)) (ho : H a = some (.ins C dx fs)) (hm : fs.lookup m = none) (ht : EvAP t σ H P)
    (k : ∀ vs H1, Ex H H1 → P vs H1 → ∀ Q : VK, RetV v H1 Q → sp (.ref a :: (vs ++ dvs)) H1 Q E) : Ev (tMeth C m sp dvs E ta t) σ H v := fun H1 e Q q =>
  h H1 e _ fun H2 e2 => ⟨a, dx, fs, rfl, e2 _ _ (e _ _ ho), hm, ht H2 (e.trans e2) _ fun vs H3 e3 p => k vs H3 ((e.trans e2).trans e3) p Q fun H4 e4 => q H4 ((e2.trans e3).trans e4)⟩
theorem make_go {sp : Sp} {dvs : List V} {E : XK} {t : TA} {Q : VK} {P : List V → Hp → Prop} (ht : EvAP t σ H P)
    (k : ∀ vs H1, Ex H H1 → P vs H1 → ∀ y dy, H1 y = none → H1 dy = none → dy ≠ y → sp (.ref y :: (vs ++ dvs)) (upd (upd H1 dy (.own y)) y (.ins C dy [])) (fun v H2 => v = .non ∧ Q (.ref y) H2) E) : tMake C sp dvs E t σ H Q :=
  ht H (Ex.refl H) _ fun vs H1 e p => k vs H1 e p
theorem ap_go {t : TA} {P : List V → Hp → Prop} {Q : List V → Hp → Prop} (h : EvAP t σ H P) (k : ∀ vs H1, Ex H H1 → P vs H1 → Q vs H1) : t σ H Q := h H (Ex.refl H) Q k
theorem ev_count {ns : List Int} {k : Int} (ha : EvR ta σ H (iv ns)) (hb : Ev tb σ H (.int k)) : Ev (tBM K "list" (rCntI K) ta (tCons tb tNil)) σ H (.int (ns.count k : Nat)) := fun H1 e Q q =>
  ha H1 e _ fun p H2 e2 h2 => ⟨Or.inl ⟨rfl, _, sq_of h2⟩, hb H2 (e.trans e2) _ fun H3 e3 => ⟨p, ns, k, rfl, rfl, sq_of (e3 _ _ h2), q H3 (e2.trans e3)⟩⟩
/-- s_expr of a reading in hand -/
theorem s_dropW {D : Ends} (h : te σ H (fun _ H2 => D.nx σ H2)) : tDrop te D σ H := h
theorem q_dropW {D : Ends} {tz : TS} (h : te σ H (fun _ H2 => tz D σ H2)) : tSeq (tDrop te) tz D σ H := h
theorem s_retW {D : Ends} (h : te σ H (fun v H2 => D.rt v H2)) : tRet te D σ H := h
theorem s_retU {D : Ends} (h : EvU te σ H xs) (k : ∀ p H1, H p = none → Ex H H1 → H1 p = some (.tup xs) → D.rt (.ref p) H1) : tRet te D σ H := h H (Ex.refl H) _ k
/-- [.., ..] of any values, told by what they are -/
theorem el_lstP {t : TA} {Q : VK} {P : List V → Hp → Prop} (h : EvAP t σ H P) (k : ∀ vs H1, Ex H H1 → P vs H1 → vs.length ≤ 100000 ∧ ∀ p, H1 p = none → Q (.ref p) (upd H1 p (.lst vs))) : tLst t σ H Q :=
  h H (Ex.refl H) _ fun vs H1 e p => ⟨sz_of (k vs H1 e p).1, (k vs H1 e p).2⟩
end
end Cg
namespace Cg
open PySem PySem.Spec PyProof.Rows L2 Evl
section
variable {K : PySem.W.Frag} {σ : L2.St} {H H' : Hp} {ta tb tc te : TE} {v : V}
/-- isinstance(e, c) in an except suite, as a value -/
theorem ev_isX {a D : Addr} {c : V} {cv : Value} {b : Bool} (ha : Ev ta σ H (.ref a)) (hc : Ev tc σ H c) (hv : ∀ u, RelV c u → u = cv) (x : ExcC K D) (k : PySem.W.kitOne K (.ref D) cv = some b) : Ev (tCB (rIsX K a (.ref D) none) (tCons ta (tCons tc tNil))) σ H (.bl b) := fun H1 e Q q =>
  ha H1 e _ fun H2 e2 => hc H2 (e.trans e2) _ fun H3 e3 => ⟨D, rfl, rfl, x, c, cv, b, rfl, hv, k, q H3 (e2.trans e3)⟩
theorem ev_isV {mg : Str → Option Value} {x : Str} {a D : Addr} (ha : Ev ta σ H (.ref a)) (T : ExcT K mg x D) : Ev (tCB (rIsX K a (.ref D) none) (tCons ta (tCons (tC (.ty "ValueError")) tNil))) σ H (.bl true) := ev_isX ha ev_c (fun _ h => h) T.c T.kitV
theorem ev_isC {mg : Str → Option Value} {x y : Str} {a D C : Addr} {b : Bool} (ha : Ev ta σ H (.ref a)) (T : ExcT K mg x D) (S : ExcT K mg y C) (h : PySem.W.subIn K (.ref D) (.ref C) = some b) (ne : b = false → C ≠ D) : Ev (tCB (rIsX K a (.ref D) none) (tCons ta (tCons (tC (.ref C)) tNil))) σ H (.bl b) :=
  ev_isX ha ev_c (fun _ h => h) T.c (S.kit h ne)
/-- xs[:-1] -/
theorem el_slInit {xs : List Int} (h : EvR te σ H (iv xs)) (h1 : Ev tb σ H (.int (-1))) : EvL (tSl (rSlL K) te tNoPart (tPart tb)) σ H (iv xs.dropLast) :=
  el_is (el_slR h eo_none (eo_some h1)) (by
    rw [cutV_iv, HT.sIx_none, List.drop_zero, Nat.sub_zero]
    have z : HT.sIx xs.length xs.length (some (-1)) = xs.length - 1 := by
      show (if (-1 : Int) < 0 then ((-1 : Int) + (xs.length : Int)).toNat else min (-1 : Int).toNat xs.length) = _
      rw [if_pos (by decide)]
      omega
    rw [z, List.dropLast_eq_take])
end
end Cg
namespace Cg
open PySem PySem.Spec PyProof.Rows L2 Evl
/-! ### lists that were given and are held: pairs of a list and its copy -/
def HeldAt (H : Hp) (hd : Addr) (L : List Addr) (n : Nat) : Prop := ∃ ts : List Addr, H hd = some (.lst (ts.map V.ref)) ∧ ts.length = n ∧
  ∀ t ∈ ts, ∃ (a b : Addr) (ws : List Int), H t = some (.tup [.ref a, .ref b]) ∧ H a = some (.lst (iv ws)) ∧ H b = some (.lst (iv ws)) ∧ (a ≠ hd ∧ a ∉ L) ∧ (b ≠ hd ∧ b ∉ L)
theorem HeldAt.nil {H : Hp} {hd : Addr} {L : List Addr} (h : H hd = some (.lst [])) : HeldAt H hd L 0 := ⟨[], h, rfl, fun _ z => nomatch z⟩
theorem HeldAt.mono {H H' : Hp} {hd : Addr} {L : List Addr} {n : Nat} (h : HeldAt H hd L n) (e : Ex H H') : HeldAt H' hd L n := by
  obtain ⟨ts, h1, h2, h3⟩ := h
  refine ⟨ts, e _ _ h1, h2, fun t ht => ?_⟩
  obtain ⟨a, b, ws, k1, k2, k3, k4, k5⟩ := h3 t ht
  exact ⟨a, b, ws, e _ _ k1, e _ _ k2, e _ _ k3, k4, k5⟩
theorem HeldAt.more {H : Hp} {hd q : Addr} {L : List Addr} {n : Nat} (h : HeldAt H hd L n) (nq : H q = none) : HeldAt H hd (q :: L) n := by
  obtain ⟨ts, h1, h2, h3⟩ := h
  refine ⟨ts, h1, h2, fun t ht => ?_⟩
  obtain ⟨a, b, ws, k1, k2, k3, k4, k5⟩ := h3 t ht
  have na : a ≠ q := ne_of_none k2 nq
  have nb : b ≠ q := ne_of_none k3 nq
  exact ⟨a, b, ws, k1, k2, k3, ⟨k4.1, fun z => by rcases List.mem_cons.mp z with z | z; exact na z; exact k4.2 z⟩, k5.1, fun z => by rcases List.mem_cons.mp z with z | z; exact nb z; exact k5.2 z⟩
theorem HeldAt.less {H : Hp} {hd q : Addr} {L : List Addr} {n : Nat} (h : HeldAt H hd (q :: L) n) : HeldAt H hd L n := by
  obtain ⟨ts, h1, h2, h3⟩ := h
  refine ⟨ts, h1, h2, fun t ht => ?_⟩
  obtain ⟨a, b, ws, k1, k2, k3, k4, k5⟩ := h3 t ht
  exact ⟨a, b, ws, k1, k2, k3, ⟨k4.1, fun z => k4.2 (List.mem_cons_of_mem _ z)⟩, k5.1, fun z => k5.2 (List.mem_cons_of_mem _ z)⟩
/-- a list that is not held changes -/
theorem HeldAt.kp {H H' : Hp} {hd q : Addr} {L : List Addr} {n : Nat} (h : HeldAt H hd L n) (k : Kp q H H') (hq : q ∈ L) (nq : q ≠ hd) (hv : ∃ xs, H q = some (.lst xs)) : HeldAt H' hd L n := by
  obtain ⟨ts, h1, h2, h3⟩ := h
  obtain ⟨xs, hv⟩ := hv
  refine ⟨ts, k _ _ nq.symm h1, h2, fun t ht => ?_⟩
  obtain ⟨a, b, ws, k1, k2, k3, k4, k5⟩ := h3 t ht
  exact ⟨a, b, ws, k _ _ (ne_of k1 hv (by intro z; cases z)) k1, k _ _ (fun z => k4.2 (z ▸ hq)) k2, k _ _ (fun z => k5.2 (z ▸ hq)) k3, k4, k5⟩
/-- an object that is no list changes -/
theorem HeldAt.kpO {H H' : Hp} {hd q : Addr} {L : List Addr} {n : Nat} {C dx : Addr} {fs : List (Str × V)} (h : HeldAt H hd L n) (k : Kp q H H') (hv : H q = some (.ins C dx fs)) : HeldAt H' hd L n := by
  obtain ⟨ts, h1, h2, h3⟩ := h
  refine ⟨ts, k _ _ (ne_of h1 hv (by intro z; cases z)) h1, h2, fun t ht => ?_⟩
  obtain ⟨a, b, ws, k1, k2, k3, k4, k5⟩ := h3 t ht
  exact ⟨a, b, ws, k _ _ (ne_of k1 hv (by intro z; cases z)) k1, k _ _ (ne_of k2 hv (by intro z; cases z)) k2, k _ _ (ne_of k3 hv (by intro z; cases z)) k3, k4, k5⟩
section
variable {K : PySem.W.Frag} {σ : L2.St} {H H' : Hp} {ta tb tc te : TE} {x y v : V} {tu tz : TS} {D : Ends}
/-- held.append((x, list(x))) -/
theorem q_held {B : Hp} {hd a : Addr} {L : List Addr} {n i j : Nat} {ws : List Int} (hb : B hd = none) (eb : Ex B H) (hh : HeldAt H hd L n) (hL : ∀ z ∈ L, H z ≠ none) (hn : n < 100000) (hv : σ[j]? = some (some (.ref hd))) (hf : σ[i]? = some (some (.ref a))) (ha : H a = some (.lst (iv ws))) (ne : a ≠ hd) (nL : a ∉ L)
    (k : ∀ H1, Ex B H1 → Kp hd H H1 → HeldAt H1 hd L (n + 1) → tz D σ H1) : tSeq (tDrop (tBM K "list" rAppend (tVar j) (tCons (tTup (tCons (tVar i) (tCons (tCB (rListS K) (tCons (tVar i) tNil)) tNil))) tNil))) tz D σ H := by
  obtain ⟨ts, h1, h2, h3⟩ := hh
  refine ⟨_, hv, Or.inl ⟨rfl, _, sq_of h1⟩, _, hf, _, hf, a, iv ws, rfl, Or.inl (sq_of ha), fun b nb => ⟨by show 2 ≤ sizeLine; decide, fun t nt => ⟨hd, ts.map V.ref, .ref t, rfl, rfl, ?_, sz_lt (by rw [List.length_map, h2]; exact hn), ?_⟩⟩⟩
  · exact Ex.new nt _ _ (Ex.new nb _ _ h1)
  · have e1 : Ex H (upd H b (.lst (iv ws))) := Ex.new nb
    have e2 : Ex (upd H b (.lst (iv ws))) (upd (upd H b (.lst (iv ws))) t (.tup [.ref a, .ref b])) := Ex.new nt
    have e12 := e1.trans e2
    have nbh : b ≠ hd := (ne_of_none h1 nb).symm
    have bL : b ∉ L := fun z => hL b z nb
    have nth : t ≠ hd := (ne_of_none (e1 _ _ h1) nt).symm
    refine k _ (Ex.mut (eb.trans e12) hb) (fun z o nz hz => by rw [upd_ne nz]; exact e12 _ _ hz) ⟨ts ++ [t], ?_, by rw [List.length_append, h2]; rfl, fun z hz => ?_⟩
    · rw [upd_same, List.map_append]
      rfl
    · rcases List.mem_append.mp hz with hz | hz
      · obtain ⟨a', b', ws', k1, k2, k3, k4, k5⟩ := h3 z hz
        have nz : z ≠ hd := ne_of k1 h1 (by intro w; cases w)
        exact ⟨a', b', ws', by rw [upd_ne nz]; exact e12 _ _ k1, by rw [upd_ne k4.1]; exact e12 _ _ k2, by rw [upd_ne k5.1]; exact e12 _ _ k3, k4, k5⟩
      · rw [List.mem_singleton] at hz
        subst hz
        exact ⟨a, b, ws, by rw [upd_ne nth, upd_same], by rw [upd_ne ne]; exact e12 _ _ ha, by rw [upd_ne nbh]; exact e2 _ _ upd_same, ⟨ne, nL⟩, nbh, bL⟩
/-- x.append(n), told by what changes -/
theorem q_appK {l : Addr} {ws : List Int} {n : Int} (hl : H l = some (.lst (iv ws))) (ha : Ev ta σ H (.ref l)) (h : Ev te σ H (.int n)) (hz : ws.length < 100000)
    (k : ∀ H1, Kp l H H1 → H1 l = some (.lst (iv (ws ++ [n]))) → tz D σ H1) : tSeq (tDrop (tBM K "list" rAppend ta (tCons te tNil))) tz D σ H :=
  q_app hl ha h (by rw [iv_len]; exact hz) fun H1 e1 => k _ ((Kp.of e1).trans .upd) (by rw [upd_same, iv_snoc])
theorem s_appK {l : Addr} {ws : List Int} {n : Int} (hl : H l = some (.lst (iv ws))) (ha : Ev ta σ H (.ref l)) (h : Ev te σ H (.int n)) (hz : ws.length < 100000)
    (k : ∀ H1, Kp l H H1 → H1 l = some (.lst (iv (ws ++ [n]))) → D.nx σ H1) : tDrop (tBM K "list" rAppend ta (tCons te tNil)) D σ H :=
  s_app hl ha h (by rw [iv_len]; exact hz) fun H1 e1 => k _ ((Kp.of e1).trans .upd) (by rw [upd_same, iv_snoc])
theorem eap_tup2 {tr : TA} {P : List V → Hp → Prop} (ha : Ev ta σ H x) (hb : Ev tb σ H y) (hr : EvAP tr σ H P) : EvAP (tCons (tTup (tCons ta (tCons tb tNil))) tr) σ H (fun vs H' => ∃ (t : Addr) (r : List V), vs = .ref t :: r ∧ H' t = some (.tup [x, y]) ∧ P r H') := fun H1 e Q q =>
  ha H1 e _ fun H2 e2 => hb H2 (e.trans e2) _ fun H3 e3 => ⟨by show 2 ≤ sizeLine; decide, fun t nt => hr _ (((e.trans e2).trans e3).trans (Ex.new nt)) _ fun vs H4 e4 p => q _ H4 (((e2.trans e3).trans (Ex.new nt)).trans e4) ⟨t, vs, rfl, e4 _ _ upd_same, p⟩⟩
/-- a for whose walked thing is read by hand -/
theorem q_forW {g : TG} {tl : TE} (h : tl σ H fun v H1 => ∃ a, v = .ref a ∧ (∃ xs, SqL K H1 a xs) ∧ ∃ W : Nat → Nat → L2.St → Hp → Prop, (∃ m, W 0 m σ H1) ∧ ∀ i m σ H, W i m σ H →
    ((Itl K a).stop i H ∧ tz D σ H) ∨ ((Itl K a).go i H ∧ ∃ N : L2.St → Hp → Prop, (∀ σ' H', N σ' H' → ∃ m', m' < m ∧ W (i + 1) m' σ' H') ∧ ∀ x H', (Itl K a).yld i H x H' → g x σ H' fun σ2 H2 => tu { D with nx := N, ct := N, bk := tz D } σ2 H2)) :
    tSeq (tFor (iList K tl) g tu) tz D σ H := h
end
end Cg
namespace Cg
open PySem PySem.Spec PyProof.Rows L2 Evl
section
variable {K : PySem.W.Frag} {σ : L2.St} {H H' : Hp} {te : TE} {t : TT} {tu tw tz : TS} {D : Ends}
theorem s_ifW (h : t σ H fun b H1 => if b = true then tu D σ H1 else tw D σ H1) : tIfS t tu tw D σ H := h
theorem q_ifW (h : t σ H fun b H1 => if b = true then tu { D with nx := tz D } σ H1 else tw { D with nx := tz D } σ H1) : tSeq (tIfS t tu tw) tz D σ H := h
theorem nb_go {Q : Bool → Hp → Prop} (h : te σ H fun x H1 => ∃ c, x = .bl c ∧ Q (!c) H1) : tNot (tB te) σ H Q := h
theorem or_go {u : TT} {Q : Bool → Hp → Prop} (h : t σ H fun c H1 => if c = true then Q true H1 else u σ H1 Q) : tOr t u σ H Q := h
theorem if_no {p q : Prop} (h : q) : if (!true) = true then p else q := by
  rw [if_neg (by decide)]
  exact h
theorem if_no' {p q : Prop} (h : q) : if false = true then p else q := by
  rw [if_neg (by decide)]
  exact h
theorem if_yes {p q : Prop} (h : p) : if true = true then p else q := by
  rw [if_pos rfl]
  exact h
end
end Cg
namespace Cg
open PySem PySem.Spec PyProof.Rows L2 Evl
/-- a heap but for what stands at one address -/
def but (l : Addr) (H : Hp) : Hp := fun a => if a = l then none else H a
theorem but_same {l : Addr} {H : Hp} : but l H l = none := by
  unfold but
  rw [if_pos rfl]
theorem but_ne {l a : Addr} {H : Hp} (n : a ≠ l) : but l H a = H a := by
  unfold but
  rw [if_neg n]
theorem but_at {l a : Addr} {H : Hp} {o : HO} (n : a ≠ l) (h : H a = some o) : but l H a = some o := by rw [but_ne n, h]
theorem Kp.but {l : Addr} {H H' : Hp} (k : Kp l H H') : Ex (but l H) H' := fun a o h => by
  by_cases c : a = l
  · rw [c, but_same] at h
    cases h
  · rw [but_ne c] at h
    exact k a o c h
theorem but_kp {l : Addr} {H H' : Hp} (e : Ex (but l H) H') : Kp l H H' := fun a o n h => e a o (but_at n h)
end Cg
namespace Cg
open PySem PySem.Spec PyProof.Rows L2 Evl
def FLoop (K : PySem.W.Frag) (a : Addr) (g : TG) (tu : TS) (D : Ends) (σ : L2.St) (H : Hp) : Prop := ∃ W : Nat → Nat → L2.St → Hp → Prop, (∃ m, W 0 m σ H) ∧ ∀ i m σ H, W i m σ H →
  ((Itl K a).stop i H ∧ D.nx σ H) ∨ ((Itl K a).go i H ∧ ∃ N : L2.St → Hp → Prop, (∀ σ' H', N σ' H' → ∃ m', m' < m ∧ W (i + 1) m' σ' H') ∧ ∀ x H', (Itl K a).yld i H x H' → g x σ H' fun σ2 H2 => tu { D with nx := N, ct := N, bk := D.nx } σ2 H2)
section
variable {K : PySem.W.Frag} {σ : L2.St} {H : Hp} {tl : TE} {g : TG} {tu tz : TS} {D : Ends} {a : Addr} {xs : List V}
theorem floop (Pv : Nat → L2.St → Hp → Prop) (h0 : Pv 0 σ H) (hl : ∀ i σ H, i ≤ xs.length → Pv i σ H → SqL K H a xs)
    (hs : ∀ i x σ H, xs[i]? = some x → Pv i σ H → g x σ H fun σ2 H2 => tu { D with nx := Pv (i + 1), ct := Pv (i + 1), bk := D.nx } σ2 H2) (hd : ∀ σ H, Pv xs.length σ H → D.nx σ H) : FLoop K a g tu D σ H := for_list Pv h0 hl hs hd
theorem q_forF (h : tl σ H fun v H1 => ∃ a, v = .ref a ∧ (∃ xs, SqL K H1 a xs) ∧ FLoop K a g tu { D with nx := tz D } σ H1) : tSeq (tFor (iList K tl) g tu) tz D σ H := h
theorem s_forF (h : tl σ H fun v H1 => ∃ a, v = .ref a ∧ (∃ xs, SqL K H1 a xs) ∧ FLoop K a g tu D σ H1) : tFor (iList K tl) g tu D σ H := h
end
end Cg

set_option Elab.async false
set_option linter.all false
set_option maxRecDepth 100000
set_option maxHeartbeats 4000000
/-! ## Pre 3: several except clauses, each with the same name -/
namespace Cg
open PySem PySem.Spec PyProof.Rows L2 Evl
abbrev Suite := Addr → Value → Option Addr → TS
def wManyA (K : PySem.W.Frag) (i : Nat) (Wo : WX) (D : Ends) : List (Value × Suite) → WX
  | [] => Wo
  | (c, ts) :: r => fun cls d σ H => ∃ b, PySem.W.exmOne K cls c = some b ∧
      (b = true → ∀ a, H a = none → ts a cls d { nx := fun τ G => D.nx (τ.set i none) G, rt := D.rt, bk := fun τ G => D.bk (τ.set i none) G, ct := fun τ G => D.ct (τ.set i none) G } (σ.set i (some (.ref a))) H) ∧ (b = false → wManyA K i Wo D r cls d σ H)
inductive HdsA (X : Cx) (n : Str) : List ExceptHandler → List (Value × Suite) → Prop
  | nil : HdsA X n [] []
  | cons {x : Str} {c : Value} {ts : Suite} {st : Stmt} {sts : List Stmt} {np ep : Pos} {hs : List ExceptHandler} {l : List (Value × Suite)} (hc : Names X x c)
      (su : ∀ (a : Addr) (oe : Obj) (cls : Value) (d : Option Addr) (pn : List (Addr × Obj)), Zc cls d oe → (∃ vs, oe.data = .fields vs) → PSs (X.suite a ((a, oe) :: pn)) (st :: sts) (ts a cls d)) (r : HdsA X n hs l) :
      HdsA X n (.ExceptHandler (some (.Name x np)) (some n) (st :: sts) ep :: hs) ((c, ts) :: l)
theorem ps_try_manyA {X : Cx} {n : Str} {i : Nat} {body : List Stmt} {h₀ : ExceptHandler} {hds : List ExceptHandler} {l : List (Value × Suite)} {pos : Pos} {tb : WX → TS} {Wo : WX} (hs : X.stack = X.env :: X.outer) (hf : X.env.frame = some X.env.locals) (nd : X.N.Nodup) (hi : X.N[i]? = some n)
    (hln : X.env.kindOf n = some .local) (tk : Takes X Wo) (hb : ∀ (W : WX) (pn : List (Addr × Obj)) (xe : Value → Shared → Prop), Takes (X.tr pn xe) W → PassesOwn (model X.prog X.w) X.A X.env xe → PSs (X.tr pn xe) body (tb W)) (hh : HdsA X n (h₀ :: hds) l) :
    PS X (.Try body (h₀ :: hds) [] [] pos) (fun D σ H => tb (wManyA X.K i Wo D l) D σ H) := by
  constructor
  intro pins s σ H D I h
  have okI := I.ok
  have frI : X.A.frames = some (X.env :: X.outer) := okI.frames.trans (congrArg some hs)
  have lc : Loc X.env.scope n := Or.inl hln
  apply wpAny_Try_except
  refine wpAny_mono ((hb (wManyA X.K i Wo D l) (X.pn ++ pins) (fun e t₁ => wpAny (model X.prog X.w) X.A (noteFrame e X.env) (fun _ t₂ => wpAny (model X.prog X.w) X.A (setFlight e none) (fun _ t₃ => wpAny (model X.prog X.w) X.A (handleBy e X.env (h₀ :: hds)) (SP X pins D) X.xe t₃) X.xe t₂) X.xe t₁) (fun ev t hev => ?_) PassesOwn.looking).run [] s σ H D (I.toTry _) h) (fun fl t ht => ?_) (fun ev t he => he)
  · obtain ⟨a, B, sI, pins', τ, G, cls, d, rfl, JT, nb, up, sky, na, os, ag, w⟩ := hev
    have J : Inv X pins τ G sI := JT.ofTry okI
    rw [hs] at sky
    change wpAny (model X.prog X.w) X.A (noteFrame (Value.ref a) X.env) _ _ _
    refine Sky.land Zc.steady frI hf sky fun k3 f3 u3 => ?_
    have J3 : Inv X pins τ G { t with heap := k3 } := J.landed nb f3.1 (up.trans u3) os ag
    obtain ⟨oe, vs, ge, ze, de⟩ := f3.there
    have notIn : a ∉ frs (X.env :: X.outer) := fun hm => by
      obtain ⟨_, o', e', hnf⟩ := f3.2.2.1.mem hm
      rw [ge] at e'
      cases e'
      exact hnf _ de
    have nL : a ≠ X.env.locals := fun z => notIn (List.mem_filterMap.mpr ⟨X.env, List.mem_cons_self, hf.trans (congrArg some z.symm)⟩)
    have nF : a ∉ X.fs := fun hm => by
      obtain ⟨en, hen, qn⟩ := List.mem_filterMap.mp hm
      exact notIn (List.mem_filterMap.mpr ⟨en, List.mem_cons_of_mem _ hen, qn⟩)
    have S3 := J3.suite ge de na nL nF
    have all : ∀ {hs' : List ExceptHandler} {l' : List (Value × Suite)}, HdsA X n hs' l' → wManyA X.K i Wo D l' cls d τ G → wpAny (model X.prog X.w) X.A (handleBy (.ref a) X.env hs') (SP X pins D) X.xe { t with heap := k3 } := by
      intro hs' l' hk
      induction hk with
      | nil =>
        intro w
        apply wpAny_handleBy_nil
        obtain ⟨_, _, _, o2, v2, T, oT, ts', g2, z2, d2, h1, hr⟩ := id f3
        unfold PySem.passOn
        apply wpAny_bind
        refine wpAny_field g2 d2 h1 ?_
        rw [if_neg (by simp : ¬ ((Value.ref T == Value.none) = true))]
        have out : wpAny (model X.prog X.w) X.A (setFlight (.ref a) X.env.frame) (fun _ t4 => wpAny (model X.prog X.w) X.A (throw (.ref a) : Sem Flow) (SP X pins D) X.xe t4) X.xe { t with heap := k3 } := by
          rw [hf]
          refine HandSPX.setFlight_upZ f3 fun k4 hh4 u4 => wpAny_throw (tk _ _ ⟨a, B, sI, pins, τ, G, cls, d, rfl, J, nb, (up.trans u3).trans u4, Or.inr (Or.inr ?_), na, os, ag, w⟩)
          rw [hs]
          exact hh4
        first
          | exact wpAny_bind (wpAny_pure (wpAny_bind out))
          | exact wpAny_bind out
      | @cons x c ts st sts np ep hs2 l2 hc su r ih =>
        rintro ⟨b, hx, yes, no⟩
        refine wpAny_handleBy_cons (codeAny_handlers_test ?_) (by intro q; cases q)
        have looks : PySem.W.Looks (model X.prog X.w) k3 (typeOf (.ref a)) cls := fun A' Q' E' s' k' q' => wpAny_typeOf_ref (k' _ _ ge) (by rw [ze.1]; exact q')
        have LM := PySem.W.exm_one (M := model X.prog X.w) J3.kIn looks hx
        have named : ∀ {Q E : Value → Shared → Prop}, Q c { t with heap := k3 } → wpAny (model X.prog X.w) (X.A.mark (some (.ref a))) (eval (.Name x np) X.env) Q E { t with heap := k3 } := fun {Q E} q => by
          rcases hc with ⟨g1, g2, g3 | ⟨g3, g4, g5⟩⟩
          · exact ld_glob (X := X.suite a ((a, oe) :: (X.pn ++ pins))) S3 g1 g3 q g2
          · exact ld_blt (X := X.suite a ((a, oe) :: (X.pn ++ pins))) S3 g1 g3 g4 q g5 g2
        refine named (LM.here ?_)
        cases b with
        | false => exact ih (no rfl)
        | true =>
          apply codeAny_handlers_suite_as
          refine HandSPX.lands_againZ f3 fun k4 f4 u4 => ?_
          have J4 : Inv X pins τ G { t with heap := k4 } := J.landed nb f4.1 ((up.trans u3).trans u4) os ag
          obtain ⟨o4, v4, g4, z4, d4⟩ := f4.there
          have S4 := J4.suite g4 d4 na nL nF
          refine store_ok (X := X.suite a ((a, o4) :: (X.pn ++ pins))) (v := .ref a) S4 nd hi lc rfl (fun s5 S5 => ?_) (Or.inr hln)
          refine wpAny_mono ((su a o4 cls d (X.pn ++ pins) z4 ⟨_, d4⟩).run [] s5 _ G _ S5 (yes rfl a na)) (fun fl s6 ho => ?_) (fun _ _ z => z.elim)
          have gone : ∀ {τ6 : L2.St} {G6 : Hp} {Q : Shared → Prop}, Inv (X.suite a ((a, o4) :: (X.pn ++ pins))) [] τ6 G6 s6 → (∀ s7, Inv X pins (τ6.set i none) G6 s7 → Q s7) → wpAny (model X.prog X.w) X.A (do bindName X.env n .none; unbindBehindTheSuite X.env n ep) (fun _ s7 => Q s7) X.xe s6 := fun {τ6 G6 Q} S6 k => gone_ok (S6.unsuite okI) nd hi hln k
          cases fl with
          | ret u =>
            obtain ⟨v6, τ6, G6, S6, r6, q6⟩ := ho
            exact gone S6 fun s7 J7 => ⟨v6, _, G6, J7, r6, q6⟩
          | next =>
            obtain ⟨τ6, G6, S6, q6⟩ := ho
            exact gone S6 fun s7 J7 => ⟨_, G6, J7, q6⟩
          | brk =>
            obtain ⟨τ6, G6, S6, q6⟩ := ho
            exact gone S6 fun s7 J7 => ⟨_, G6, J7, q6⟩
          | cont =>
            obtain ⟨τ6, G6, S6, q6⟩ := ho
            exact gone S6 fun s7 J7 => ⟨_, G6, J7, q6⟩
    exact all hh w
  · cases fl with
    | ret u =>
      obtain ⟨v, τ, G, J, r, q⟩ := ht
      exact ⟨v, τ, G, J.ofTry okI, r, q⟩
    | next =>
      obtain ⟨τ, G, J, q⟩ := ht
      exact wpAny_execs_nil ⟨τ, G, J.ofTry okI, q⟩
    | brk =>
      obtain ⟨τ, G, J, q⟩ := ht
      exact ⟨τ, G, J.ofTry okI, q⟩
    | cont =>
      obtain ⟨τ, G, J, q⟩ := ht
      exact ⟨τ, G, J.ofTry okI, q⟩
end Cg
namespace Cg
open PySem PySem.Spec PyProof.Rows L2 Evl
section
variable {K : PySem.W.Frag} {σ : L2.St} {H H' : Hp} {te : TE} {t : TT} {tu tw tz : TS} {D : Ends}
theorem b_go {Q : Bool → Hp → Prop} (h : te σ H fun x H1 => ∃ c, x = .bl c ∧ Q c H1) : tB te σ H Q := h
theorem q_forR3 {ta : TA} {j : Nat} {i0 j0 c : Int} {n : Nat} (h : EvA ta σ H [.int i0, .int j0, .int c]) (hr : RgC i0 j0 c n) (Pv : Nat → L2.St → Hp → Prop) (h0 : ∀ H1, Ex H H1 → Pv 0 σ H1)
    (hs : ∀ (i : Nat) τ G, i < n → Pv i τ G → tu { D with nx := Pv (i + 1), ct := Pv (i + 1), bk := tz D } (τ.set j (some (.int (i0 + (i : Nat) * c)))) G) (hd : ∀ τ G, Pv n τ G → tz D τ G) : tSeq (tFor (iRng3 ta) (gName j) tu) tz D σ H :=
  h H (Ex.refl H) _ fun H1 e1 => ⟨i0, j0, c, n, rfl, hr, for_rangeC Pv (h0 H1 e1) hs hd⟩
theorem s_forR3 {ta : TA} {j : Nat} {i0 j0 c : Int} {n : Nat} (h : EvA ta σ H [.int i0, .int j0, .int c]) (hr : RgC i0 j0 c n) (Pv : Nat → L2.St → Hp → Prop) (h0 : ∀ H1, Ex H H1 → Pv 0 σ H1)
    (hs : ∀ (i : Nat) τ G, i < n → Pv i τ G → tu { D with nx := Pv (i + 1), ct := Pv (i + 1), bk := D.nx } (τ.set j (some (.int (i0 + (i : Nat) * c)))) G) (hd : ∀ τ G, Pv n τ G → D.nx τ G) : tFor (iRng3 ta) (gName j) tu D σ H :=
  h H (Ex.refl H) _ fun H1 e1 => ⟨i0, j0, c, n, rfl, hr, for_rangeC Pv (h0 H1 e1) hs hd⟩
end
end Cg
namespace Cg
open PySem PySem.Spec PyProof.Rows L2 Evl
/-- a text, taken once or not at all -/
def rStr01 : R2 := fun x y H Q => ∃ (z : Str) (b : Bool), x = .str z ∧ y = .int (if b then 1 else 0) ∧ Q (.str (if b then z else Str.empty)) H
theorem op_str01 {X : Cx} : OpR X (binaryOp .Mult) rStr01 := by
  intro pins s σ H x y v u Q I rx ry h
  obtain ⟨z, b, rfl, rfl, q⟩ := h
  obtain ⟨t, rfl⟩ := rx
  obtain ⟨t', rfl⟩ := ry
  cases b with
  | false => exact PySem.P.mul_str_none (by decide) (by decide) ⟨.str Str.empty, H, I.tok _, ⟨_, rfl⟩, q⟩
  | true =>
    refine PySem.P.mul_str (n := 1) (by decide) (fun _ h2 => by simp at h2) (fun _ h2 => by simp at h2) ?_
    rw [if_neg (by decide), if_pos (by simp)]
    exact ⟨.str z, H, I, ⟨_, rfl⟩, q⟩
section
variable {K : PySem.W.Frag} {σ : L2.St} {H H' : Hp} {ta tb te : TE} {x y v : V} {z z2 : Str} {b : Bool}
theorem ev_str01 (ha : Ev ta σ H (.str z)) (hb : Ev tb σ H (.int (if b then 1 else 0))) : Ev (tOp rStr01 ta tb) σ H (.str (if b then z else Str.empty)) := fun H1 e Q q =>
  ha H1 e _ fun H2 e2 => hb H2 (e.trans e2) _ fun H3 e3 => ⟨z, b, rfl, rfl, q H3 (e2.trans e3)⟩
theorem ev_addS (ha : Ev ta σ H (.str z)) (hb : Ev tb σ H (.str z2)) (hl : z.length + z2.length ≤ 100000) : Ev (tOp (fun x y H Q => ∃ i j, x = .str i ∧ y = .str j ∧ i.length + j.length ≤ sizeLine ∧ Q (.str (i ++ j)) H) ta tb) σ H (.str (z ++ z2)) := fun H1 e Q q =>
  ha H1 e _ fun H2 e2 => hb H2 (e.trans e2) _ fun H3 e3 => ⟨z, z2, rfl, rfl, sz_of hl, q H3 (e2.trans e3)⟩
theorem ev_isN (ha : Ev ta σ H x) : Ev (tOp (fun x y H Q => y = .non ∧ Q (.bl (decide (x = .non))) H) ta (tC .non)) σ H (.bl (decide (x = .non))) := fun H1 e Q q =>
  ha H1 e _ fun H2 e2 => ⟨rfl, q H2 e2⟩
end
end Cg
namespace Cg
open PySem PySem.Spec PyProof.Rows L2 Evl
section
variable {K : PySem.W.Frag} {σ : L2.St} {H H' : Hp} {ta tb te : TE} {xs : List V}
/-- a new list among arguments -/
theorem eap_el {tr : TA} {P : List V → Hp → Prop} (h : EvL te σ H xs) (hr : EvAP tr σ H P) : EvAP (tCons te tr) σ H (fun vs H' => ∃ p r, vs = .ref p :: r ∧ H p = none ∧ H' p = some (.lst xs) ∧ P r H') := fun H1 e Q q =>
  h H1 e _ fun p H2 n2 e2 h2 => hr H2 (e.trans e2) _ fun vs H3 e3 h3 => q _ H3 (e2.trans e3) ⟨p, vs, rfl, fresh_back e n2, e3 _ _ h2, h3⟩
theorem andV_go {Q : VK} (h : ta σ H fun x H1 => ∃ c, x = .bl c ∧ if c = true then tb σ H1 Q else Q (.bl false) H1) : tAndV ta tb σ H Q := h
theorem et_go {t : TT} {b : Bool} {Q : Bool → Hp → Prop} (h : EvT t σ H b) (k : ∀ H2, Ex H H2 → Q b H2) : t σ H Q := h H (Ex.refl H) Q k
end
theorem size_in (c k : Int) (rm : Nat) (hk : 0 ≤ k) : 0 ≤ c % ((if k < (rm : Int) then k else (rm : Int)) + 1) ∧ c % ((if k < (rm : Int) then k else (rm : Int)) + 1) ≤ (rm : Int) := by
  have h1 := Int.emod_nonneg c (show (if k < (rm : Int) then k else (rm : Int)) + 1 ≠ 0 by split <;> omega)
  have h2 := Int.emod_lt_of_pos c (show 0 < (if k < (rm : Int) then k else (rm : Int)) + 1 by split <;> omega)
  split at h2 <;> rename_i z <;> simp only [z, if_true, if_false] at h1 ⊢ <;> omega
end Cg
namespace Cg
open PySem PySem.Spec PyProof.Rows L2 Evl
theorem sq_but {K : PySem.W.Frag} {H H1 X : Hp} {l a : Addr} {xs : List V} (h : SqL K H a xs) (n : H l = none) (e : Ex H H1) (k : Kp l H1 X) : SqL K X a xs := by
  rcases h with (h | ⟨o, h⟩) | h
  · exact .inl (.inl (k _ _ (ne_of_none h n) (e _ _ h)))
  · exact .inl (.inr ⟨o, k _ _ (ne_of_none h n) (e _ _ h)⟩)
  · exact .inr h
end Cg

set_option Elab.async false
set_option linter.all false
set_option maxRecDepth 100000
set_option maxHeartbeats 4000000
/-! ## Pre 4: a dict made by a comprehension, its keys tuples -/
namespace Cg
open PySem PySem.Spec PyProof.Rows L2 Evl
theorem set_tup {X : Cx} {pins : List (Addr × Obj)} {σ : L2.St} {H : Hp} {s : Shared} {E : Value → Shared → Prop} {D b : Addr} {kvs : List (List L2.Key × V)} {k : List L2.Key} {v : V} {u r : Value} {Q : Unit → Shared → Prop} (hu : X.A.units + 1 < cLine) (I : Inv X pins σ H s)
    (hD : H D = some (.dT kvs)) (hz : kvs.length < sizeLine) (hb : H b = some (.tup (k.map kV))) (ru : RelV (.ref b) u) (rv : RelV v r) (h : ∀ s', Inv X pins σ (upd H D (.dT (putK kvs k v))) s' → Q () s') : wpAny (model X.prog X.w) X.A (dictSet D u r) Q E s := by
  cases (show u = Value.ref b from ru)
  obtain ⟨l1, nd, xs, rel, at_⟩ := dt_of I.hok hD
  have l2 : xs.length ≤ sizeLine := (Paired.length rel) ▸ l1
  have l3 := length_putK kvs k v
  refine wpAny_dictSet_heap (hsz := l2) (show X.A.units < cLine by omega) (key_of I.hok hb) at_ fun g at' same => h _ ?_
  obtain ⟨ob, es, ep, a1, a2, a3, a4, _, a5⟩ := at'
  refine d_write I (by rw [hD]; trivial) same ⟨ob, a1⟩ ⟨by omega, nd, _, (rel.put k hb rv).keeps fun c ys ec => ?_, ob, es, ep, a1, a2, a3, a4, a5⟩
  rw [upd_ne (ne_of ec hD (by intro z; cases z)), ec]
/-- {k: v for target in iter if ..}, keys tuples -/
def tDcT (wi : TI) (g : TG) (tt : TT) (tk tv : TE) (vs : List Nat) : TE := fun σ H Q => wi σ H fun J H1 => ∀ D, H1 D = none → ∃ W : Nat → Nat → Hp → Prop, (∃ m, W 0 m (upd H1 D (.dT []))) ∧ ∀ i m G, W i m G →
  (J.stop i G ∧ Q (.ref D) G) ∨ (J.go i G ∧ ∃ Nx : Hp → Prop, (∀ G', Nx G' → ∃ m', m' < m ∧ W (i + 1) m' G') ∧ ∀ x G', J.yld i G x G' → g x (wipe σ vs) G' fun σ2 G2 => wipe σ2 vs = wipe σ vs ∧ tt σ2 G2 fun b G3 =>
    if b = true then tk σ2 G3 fun y G4 => tv σ2 G4 fun z G5 => ∃ kvs k p, y = .ref p ∧ G5 p = some (.tup (k.map kV)) ∧ G5 D = some (.dT kvs) ∧ kvs.length < sizeLine ∧ Nx (upd G5 D (.dT (putK kvs k z))) else Nx G3)
section
variable {X : Cx}
theorem dcT_core {pins : List (Addr × Obj)} {s : Shared} {σ : L2.St} {H : Hp} {Q : VK} {kx vx tg iter : Expr} {ifs : List Expr} {scope : Scope} {own : List (Str × Nat)} {pos pos' : Pos} {wi : TI} {g : TG} {tt : TT} {tk tv : TE} {use : Option (Value → Sem Unit)} {Qf : Value → Shared → Prop}
    (hu : X.A.units + 1 < cLine) (hc : X.calm = true) (hN : X.N.Nodup) (I : Inv X pins σ H s) (hi : PI X tg iter wi) (ok : BlkOk X.N X.env.scope scope own) (hg : ∀ (s : Shared) (H : Hp) (C : Addr) (cl : List (Str × Addr)) (fp : List Addr), PG (X.blk s H scope (compEnvC scope cl C X.env) fp) tg g)
    (ht : ∀ (s : Shared) (H : Hp) (C : Addr) (cl : List (Str × Addr)) (fp : List Addr), PTs (X.blk s H scope (compEnvC scope cl C X.env) fp) ifs tt) (hk : ∀ (s : Shared) (H : Hp) (C : Addr) (cl : List (Str × Addr)) (fp : List Addr), PE (X.blk s H scope (compEnvC scope cl C X.env) fp) kx tk)
    (he : ∀ (s : Shared) (H : Hp) (C : Addr) (cl : List (Str × Addr)) (fp : List Addr), PE (X.blk s H scope (compEnvC scope cl C X.env) fp) vx tv) (hs : ∀ x, foldedSetIterable iter X.env x = pure x) (h : tDcT wi g tt tk tv (own.map (·.2)) σ H Q)
    (hRR : ∀ D C t m G, Inv X pins σ G t → Q (.ref D) G → t.heap.Ns C m → FpOk X pins G C → compPost (model X.prog X.w) X.A X.xe use Qf (.ref D) C (.ok .next) t) :
    wpAny (model X.prog X.w) X.A (comprehension (.DictComp kx vx [⟨tg, iter, ifs, 0⟩] scope pos) scope X.env pos' newDict false (eval iter X.env) use) Qf X.xe s := by
  have free : ∀ y ∈ scope.names, y.2 = .free → ∃ c, X.env.cells.lookup y.1 = some c := fun y hy e => by
    rcases ok.free y hy e with z | z
    · exact I.ok.has _ (Or.inl z)
    · exact I.ok.has _ (Or.inr z)
  refine wpAny_comprehension_free (use := use) rfl hs (closure_ok free) ok.kind (fun y hy e => by rw [ok.uniq y hy, e]) (thn (hi.run pins s σ H _ I h) fun xv t1 h1 => thn h1 fun itv t2 h2 => ?_)
  obtain ⟨it, fp, tn, J, G2, rfl, J2, T, st2, f2, q⟩ := h2
  refine wpAny_newObj_type (newEnv_comp ?_)
  generalize hD : t2.heap.objs.size = D
  have nD : G2 D = none := J2.hok.fresh (by rw [hD]; exact Nat.le_refl _)
  obtain ⟨W, ⟨m0, w0⟩, turn⟩ := q D nD
  generalize ht3 : ({ t2 with heap := t2.heap.push { cls := .type "dict", data := .dict #[] } } : Shared) = t3
  have J3 : Inv X pins σ (upd G2 D (.dT [])) t3 := by
    subst ht3
    subst hD
    exact J2.laid (t' := t2.toks) (fun _ _ e => Heap.get?_push_of_some _ e) (Nat.le_refl _) (dt_empty t2.heap J2.big)
  have hp3 : t3.heap = t2.heap.push { cls := .type "dict", data := .dict #[] } := by subst ht3; rfl
  have f3 : ∀ b ∈ fp, FpOk X pins (upd G2 D (.dT [])) b ∧ b < t3.heap.objs.size := fun b hb => by
    obtain ⟨o, e, _⟩ := T.obj _ _ st2 b hb
    have lt := Heap.lt_size e
    have nb : b ≠ D := by rw [← hD]; exact Nat.ne_of_lt lt
    refine ⟨⟨by rw [upd_ne nb]; exact (f2 b hb).1, (f2 b hb).2⟩, ?_⟩
    rw [hp3, Heap.size_push]
    exact Nat.lt_succ_of_lt lt
  have st3 : tn 0 t3.heap := T.keep _ _ _ st2 fun b _ o e => by
    rw [hp3]
    exact Heap.get?_push_of_some _ e
  have J4 := block_start J3 ok hN f3
  have pg := hg t3 (upd G2 D (.dT [])) t3.heap.objs.size (cellsFrom (t3.heap.objs.size + 1) scope.names (cloFrom X.env.cells scope.names [])) fp
  have pt := ht t3 (upd G2 D (.dT [])) t3.heap.objs.size (cellsFrom (t3.heap.objs.size + 1) scope.names (cloFrom X.env.cells scope.names [])) fp
  have pk := hk t3 (upd G2 D (.dT [])) t3.heap.objs.size (cellsFrom (t3.heap.objs.size + 1) scope.names (cloFrom X.env.cells scope.names [])) fp
  have pe := he t3 (upd G2 D (.dT [])) t3.heap.objs.size (cellsFrom (t3.heap.objs.size + 1) scope.names (cloFrom X.env.cells scope.names [])) fp
  change codeAny _ _ (.compStart (.DictComp kx vx [⟨tg, iter, ifs, 0⟩] scope pos) 0 (.ref it) (.ref D) (compEnvC scope (cellsFrom (t3.heap.objs.size + 1) scope.names (cloFrom X.env.cells scope.names [])) t3.heap.objs.size X.env)) (compPost (model X.prog X.w) X.A X.xe use Qf (.ref D) t3.heap.objs.size) { t3 with heap := pushCells (t3.heap.push { cls := .type "dict", data := .dict #[] }) scope.names }
  have nfp : ∀ b ∈ fp, (upd G2 D (.dT [])) b = none := fun b hb => (f3 b hb).1.1
  generalize hce : compEnvC scope (cellsFrom (t3.heap.objs.size + 1) scope.names (cloFrom X.env.cells scope.names [])) t3.heap.objs.size X.env = ce at J4 pg pt pk pe ⊢
  have cL : ce.locals = t3.heap.objs.size := by rw [← hce]; rfl
  generalize hG3 : upd G2 D (.dT []) = G3 at J3 J4 pg pt pk pe w0 nfp f3
  generalize ht4 : ({ t3 with heap := pushCells (t3.heap.push { cls := .type "dict", data := .dict #[] }) scope.names } : Shared) = t4 at J4 ⊢
  have st4 : tn 0 t4.heap := T.keep _ _ _ st3 fun b _ o e => by
    rw [← ht4]
    exact pushCells_keeps _ _ _ _ (Heap.get?_push_of_some _ e)
  have stat : ∀ {τ : L2.St} {G : Hp} {t : Shared}, Inv (X.blk t3 G3 scope ce fp) [] τ G t → (∀ b ∈ fp, G b = none) → ∀ b ∈ fp, FpOk (X.blk t3 G3 scope ce fp) [] G b := fun {τ G t} K hn b hb =>
    ⟨hn b hb, (K.ok.exf b hb).1, K.ok.exfs b hb, Or.inl hb, fun x c e => (K.ok.exf b hb).2 x c e, fun p hp => absurd (show p ∈ ([] : List (Addr × Obj)) ++ [] from hp) (by simp)⟩
  have loop : codeAny (model X.prog X.w) X.A (.compLoop (.DictComp kx vx [⟨tg, iter, ifs, 0⟩] scope pos) 0 (.ref it) (.ref D) ce) (compPost (model X.prog X.w) X.A X.xe use Qf (.ref D) t3.heap.objs.size) t4 := by
    refine compLoop_anyD (fun n t => ∃ i G, Inv (X.blk t3 G3 scope ce fp) [] (wipe σ (own.map (·.2))) G t ∧ tn i t.heap ∧ (∀ b ∈ fp, G b = none) ∧ W i n G) ?_ m0 ⟨0, G3, J4, st4, nfp, w0⟩
    intro n t5 ⟨i, G5, J5, st5, n5, w5⟩
    rcases turn i n G5 w5 with ⟨stop, qq⟩ | ⟨go, Nx, hNx, step⟩
    · refine thnF (T.done (X.blk t3 G3 scope ce fp) rfl rfl rfl hc i [] t5 _ G5 (fun _ _ => False) J5 (stat J5 n5) st5 stop) fun r t6 hr => ?_
      obtain ⟨rfl, J6⟩ := hr
      have J7 : Inv X pins σ G5 t6 := J3.call' (ch := fp) J6.os J6.base J6.hok J6.bare fun b hb => ⟨(f3 b hb).1.2.2.2.1, (f3 b hb).1.2.1, (f3 b hb).1.2.2.2.2.1, (f3 b hb).1.2.2.2.2.2⟩
      have nC : G5 t3.heap.objs.size = none := by
        rw [← cL]
        exact J6.free
      obtain ⟨m, hn, _⟩ := J6.loc
      have hn : t6.heap.Ns ce.locals m := hn
      rw [cL] at hn
      exact hRR D t3.heap.objs.size t6 m G5 J7 qq hn (J3.fpOk (Nat.le_refl _) nC)
    · refine thnF (T.item (X.blk t3 G3 scope ce fp) rfl rfl rfl hc i [] t5 _ G5 (fun _ _ => False) J5 (stat J5 n5) st5 go) fun r t6 hr => ?_
      obtain ⟨u, rfl, h6⟩ := hr
      refine thnF h6 fun _ t7 h7 => ?_
      obtain ⟨x, G7, J7, r7, y7, st7, n7⟩ := h7
      have K7 := J7.pinned (stat J7 n7) (T.obj _ _ st7)
      refine thnF (pg.run _ t7 _ G7 x u _ K7 r7 (step x G7 y7)) fun _ t8 h8 => ?_
      obtain ⟨σ8, G8, J8, hw8, q8⟩ := h8
      refine thnF (pt.run _ t8 σ8 G8 _ J8 q8) fun b t9 h9 => ?_
      obtain ⟨G9, J9, q9⟩ := h9
      have fin : ∀ {t : Shared} {G : Hp}, Inv (X.blk t3 G3 scope ce fp) ([] ++ pinsAt fp t7.heap) σ8 G t → Nx G → ∃ m, m < n ∧ ∃ i G, Inv (X.blk t3 G3 scope ce fp) [] (wipe σ (own.map (·.2))) G t ∧ tn i t.heap ∧ (∀ b ∈ fp, G b = none) ∧ W i m G := fun {t G} K nx => by
        obtain ⟨m', hm, w'⟩ := hNx G nx
        have pin : ∀ b ∈ fp, ∀ o, t7.heap.get? b = some o → t.heap.get? b = some o ∧ G b = none := fun b hb o e => by
          have z := K.pin (b, o) (List.mem_append_right _ (List.mem_append_right _ (mem_pinsAt hb e)))
          exact ⟨z.1, z.2.1⟩
        have hl : (wipe σ (own.map (·.2))).length = σ8.length := by rw [← hw8, wipe_length]
        refine ⟨m', hm, i + 1, G, (K.unpinned (pins := [])).weak hl (fun j v e => ?_), T.keep _ _ _ st7 fun b hb o e => (pin b hb o e).1, fun b hb => ?_, w'⟩
        · rw [← hw8] at e
          exact (wipe_some e).1
        · obtain ⟨o, e, _⟩ := T.obj _ _ st7 b hb
          exact (pin b hb o e).2
      cases b with
      | false =>
        rw [if_neg Bool.false_ne_true] at q9 ⊢
        exact fin J9 q9
      | true =>
        rw [if_pos rfl] at q9 ⊢
        refine thnF (pk.run _ t9 σ8 G9 _ J9 q9) fun zk t10 h10 => ?_
        obtain ⟨yk, G10, J10, r10, q10⟩ := h10
        refine thnF (pe.run _ t10 σ8 G10 _ J10 q10) fun zv t11 h11 => ?_
        obtain ⟨yv, G11, J11, r11, kvs, k, p, rfl, hp11, hD11, hz11, nx⟩ := h11
        exact set_tup (X := X.blk t3 G3 scope ce fp) hu J11 hD11 hz11 hp11 r10 r11 fun t12 J12 => fin J12 nx
  exact codeAny_compStart_dict loop (T.self X.A 0 _ _ _ st4 loop)
theorem pe_dcT {kx vx tg iter : Expr} {ifs : List Expr} {scope : Scope} {own : List (Str × Nat)} {pos : Pos} {wi : TI} {g : TG} {tt : TT} {tk tv : TE} (hu : X.A.units + 1 < cLine) (hc : X.calm = true) (hN : X.N.Nodup) (hi : PI X tg iter wi) (ok : BlkOk X.N X.env.scope scope own)
    (hg : ∀ (s : Shared) (H : Hp) (C : Addr) (cl : List (Str × Addr)) (fp : List Addr), PG (X.blk s H scope (compEnvC scope cl C X.env) fp) tg g) (ht : ∀ (s : Shared) (H : Hp) (C : Addr) (cl : List (Str × Addr)) (fp : List Addr), PTs (X.blk s H scope (compEnvC scope cl C X.env) fp) ifs tt)
    (hk : ∀ (s : Shared) (H : Hp) (C : Addr) (cl : List (Str × Addr)) (fp : List Addr), PE (X.blk s H scope (compEnvC scope cl C X.env) fp) kx tk) (he : ∀ (s : Shared) (H : Hp) (C : Addr) (cl : List (Str × Addr)) (fp : List Addr), PE (X.blk s H scope (compEnvC scope cl C X.env) fp) vx tv)
    (hs : ∀ x, foldedSetIterable iter X.env x = pure x := by intro _; rfl) : PE X (.DictComp kx vx [⟨tg, iter, ifs, 0⟩] scope pos) (tDcT wi g tt tk tv (own.map (·.2))) := by
  constructor
  intro pins s σ H Q I h
  rw [arm_eval_DictComp]
  refine dcT_core hu hc hN I hi ok hg ht hk he hs h fun D C t m G J q hn f => ⟨m, hn, fun k sb => ?_⟩
  obtain ⟨f0, f1, f2, f3, f4, f5⟩ := f
  exact ⟨.ref D, G, J.turned (t' := t.toks) (fun b o hb e => (sb.2 b hb).trans e) f0 f1 f3 f4 f5, rfl, q⟩
end
end Cg
namespace Cg
open PySem PySem.Spec PyProof.Rows L2 Evl
section
variable {X : Cx} {k : Nat} {ps : List Str} {sp : Sp} {E : XK} {x : Str} {p pos : Pos}
theorem pe_callH0 (F : Has X.prog X.w X.K X.mg X.base k x ps sp) (hr : Room k X.A) (hx : Passes (L2.CX X.prog X.w) X E) (hg : Gl X x := by rfl) (hdb : (x == ("__debug__" : Str)) = false := by decide) : PE X (.Call (.Name x p) [] [] pos) (tCall sp [] E tNil) := by
  obtain ⟨f, fd, F, g, kp, b⟩ := F
  exact pe_call0 F hr hg g kp b .nil hx hdb
end
theorem pe_globS {X : Cx} {x z : Str} {pos : Pos} (h : ∃ t, X.mg x = some (.str z t)) (hg : Gl X x := by rfl) (hd : (x == ("__debug__" : Str)) = false := by decide) : PE X (.Name x pos) (tC (.str z)) := by
  obtain ⟨t, h⟩ := h
  exact pe_glob hg h ⟨t, rfl⟩ hd
def rTup1 (K : PySem.W.Frag) : List V → Hp → VK → Prop := fun xs H Q => ∃ p ys, xs = [.ref p] ∧ ((SqL K H p ys ∧ ∀ l, H l = none → Q (.ref l) (upd H l (.tup ys))) ∨ (SqT K H p ys ∧ Q (.ref p) H))
theorem kk_tup (K) {X : Cx} (h : X.K = K := by rfl) : CallR X (.type "tuple") (rTup1 K) := h ▸ call_tuple_of
/-- a text of the signs with these numbers -/
def strOf (cs : List Nat) : Str := ⟨cs.toArray⟩
theorem strOf_len (cs : List Nat) : (strOf cs).length = cs.length := List.size_toArray
theorem strOf_add (xs ys : List Nat) : strOf xs ++ strOf ys = strOf (xs ++ ys) := congrArg Str.mk (by
  show xs.toArray ++ ys.toArray = (xs ++ ys).toArray
  simp)
theorem strOf_at (cs : List Nat) (i : Nat) : (strOf cs).cps[i]? = cs[i]? := by
  show (cs.toArray)[i]? = _
  simp
theorem cut_to (cs : List Nat) (k : Nat) (h : k ≤ cs.length) : cutS (strOf cs) none (some (k : Int)) = strOf (cs.take k) := by
  unfold cutS
  rw [HT.sIx_none, HT.sIx_nat, strOf_len, Nat.min_eq_left h, List.drop_zero, Nat.sub_zero]
  rfl
theorem cut_from (cs : List Nat) (k : Nat) (h : k ≤ cs.length) : cutS (strOf cs) (some (k : Int)) none = strOf (cs.drop k) := by
  unfold cutS
  rw [HT.sIx_none, HT.sIx_nat, strOf_len, Nat.min_eq_left h, List.take_of_length_le (by
    show ((cs.toArray.toList).drop k).length ≤ _
    rw [List.length_drop]
    exact Nat.le_refl _)]
  rfl
section
variable {K : PySem.W.Frag} {σ : L2.St} {H H' : Hp} {ta tb te tx : TE} {x y v : V} {xs ys : List V} {tu tz : TS} {D : Ends} {z z2 : Str}
/-- for c in text -/
theorem s_forS {j : Nat} (h : Ev te σ H (.str z)) (Pv : Nat → L2.St → Hp → Prop) (h0 : ∀ H1, Ex H H1 → Pv 0 σ H1)
    (hs : ∀ (i c : Nat) τ G, z.cps[i]? = some c → Pv i τ G → tu { D with nx := Pv (i + 1), ct := Pv (i + 1), bk := D.nx } (τ.set j (some (.str ⟨#[c]⟩))) G) (hd : ∀ τ G, Pv z.cps.size τ G → D.nx τ G) : tFor (iStr te) (gName j) tu D σ H :=
  h H (Ex.refl H) _ fun H1 e1 => ⟨z, rfl, by
    refine ⟨fun i m τ G => i + m = z.cps.size ∧ Pv i τ G, ⟨z.cps.size, Nat.zero_add _, h0 H1 e1⟩, ?_⟩
    rintro i m τ G ⟨em, p⟩
    by_cases hi : i < z.cps.size
    · refine .inr ⟨hi, Pv (i + 1), fun τ2 G2 hN => ⟨m - 1, by omega, by omega, hN⟩, fun x G2 hy => ?_⟩
      obtain ⟨rfl, c, hc, rfl⟩ := hy
      exact hs i c τ _ hc p
    · have e : i = z.cps.size := by omega
      subst e
      exact .inl ⟨Nat.le_refl _, hd τ G p⟩⟩
theorem q_forS {j : Nat} (h : Ev te σ H (.str z)) (Pv : Nat → L2.St → Hp → Prop) (h0 : ∀ H1, Ex H H1 → Pv 0 σ H1)
    (hs : ∀ (i c : Nat) τ G, z.cps[i]? = some c → Pv i τ G → tu { D with nx := Pv (i + 1), ct := Pv (i + 1), bk := tz D } (τ.set j (some (.str ⟨#[c]⟩))) G) (hd : ∀ τ G, Pv z.cps.size τ G → tz D τ G) : tSeq (tFor (iStr te) (gName j) tu) tz D σ H :=
  s_forS (D := { D with nx := tz D }) h Pv h0 hs hd
/-- [e for k in range(a, b, c)] -/
theorem el_lcR3 {t : TA} {j : Nat} {vs : List Nat} {i0 j0 c : Int} {n : Nat} (g : Nat → V) (h : EvA t σ H [.int i0, .int j0, .int c]) (hr : RgC i0 j0 c n) (hz : n ≤ 1000000) (hw : ∀ x, wipe ((wipe σ vs).set j (some x)) vs = wipe σ vs)
    (he : ∀ (i : Nat) H1, Ex H H1 → i < n → Ev te ((wipe σ vs).set j (some (.int (i0 + (i : Nat) * c)))) H1 (g i)) : EvL (tLc (iRng3 t) (gName j) tYes te vs) σ H ((List.range n).map g) := fun H0 e Q q =>
  h H0 e _ fun H1 e1 => ⟨i0, j0, c, n, rfl, hr, fun Dl hD => by
    refine ⟨fun i m G => i + m = n ∧ Ex H1 G ∧ G Dl = some (.lst (((List.range n).map g).take i)), ⟨n, Nat.zero_add _, Ex.new hD, by rw [List.take_zero]; exact upd_same⟩, ?_⟩
    rintro i m G ⟨em, p1, p2⟩
    by_cases hi : i < n
    · refine .inr ⟨hi, fun G2 => Ex H1 G2 ∧ G2 Dl = some (.lst (((List.range n).map g).take (i + 1))), fun G2 hN => ⟨m - 1, by omega, by omega, hN.1, hN.2⟩, fun x G2 hy => ?_⟩
      obtain ⟨rfl, rfl⟩ := hy
      refine ⟨hw _, yes_go (he i H1 (e.trans e1) hi _ p1 _ fun G4 e4 => ⟨_, e4 Dl _ p2, ?_, Ex.mut (p1.trans e4) hD, ?_⟩)⟩
      · rw [List.length_take, List.length_map, List.length_range]
        show _ < 2 ^ 24
        omega
      · have z : ((List.range n).map g)[i]? = some (g i) := by rw [List.getElem?_map, List.getElem?_range hi]; rfl
        rw [List.take_add_one, z]
        exact upd_same
    · have e2 : i = n := by omega
      subst e2
      refine .inl ⟨Nat.le_refl _, ?_⟩
      rw [List.take_of_length_le (by rw [List.length_map, List.length_range]; exact Nat.le_refl _)] at p2
      exact q Dl G (fresh_back e1 hD) (e1.trans p1) p2⟩
/-- xs.extend(new list), xs of one's own -/
theorem s_extI {B : Hp} {l : Addr} {ws zs : List Int} (hb : B l = none) (eb : Ex B H) (hl : H l = some (.lst (iv ws))) (ha : Ev ta σ H (.ref l)) (h : EvL te σ H (iv zs)) (hz : ws.length + zs.length < 100000)
    (k : ∀ H1, Ex B H1 → H1 l = some (.lst (iv (ws ++ zs))) → D.nx σ H1) : tDrop (tBM K "list" rExtend ta (tCons te tNil)) D σ H :=
  ha H (Ex.refl H) _ fun H1 e1 => ⟨Or.inl ⟨rfl, iv ws, sq_of (e1 l _ hl)⟩, h H1 e1 _ fun p H2 n2 e2 h2 => ⟨l, p, iv ws, iv zs, rfl, rfl, e2 l _ (e1 l _ hl), h2, sz_of (by rw [iv_len, iv_len]; omega), k _ (Ex.mut (eb.trans (e1.trans e2)) hb) (by
    rw [upd_same]
    unfold iv
    rw [List.map_append])⟩⟩
theorem ev_ord {c : Nat} (h : Ev te σ H (.str ⟨#[c]⟩)) : Ev (tCB (fun xs H Q => ∃ x : Str, xs = [.str x] ∧ x.length = 1 ∧ Q (.int (x.cps.getD 0 0 : Nat)) H) (tCons te tNil)) σ H (.int (c : Nat)) := fun H1 e Q q =>
  h H1 e _ fun H2 e2 => ⟨_, rfl, rfl, q H2 e2⟩
theorem ev_niS {c : Nat} (ha : Ev ta σ H (.str ⟨#[c]⟩)) (hb : Ev tb σ H (.str z)) : Ev (tOp (fun x y H Q => ∃ (c : Nat) (z : Str), x = .str ⟨#[c]⟩ ∧ y = .str z ∧ Q (.bl (!decide (c ∈ z.cps.toList))) H) ta tb) σ H (.bl (!decide (c ∈ z.cps.toList))) := fun H1 e Q q =>
  ha H1 e _ fun H2 e2 => hb H2 (e.trans e2) _ fun H3 e3 => ⟨c, z, rfl, rfl, q H3 (e2.trans e3)⟩
theorem ev_slS {tl th : TO} {lo hi : Option Int} (h : Ev te σ H (.str z)) (h1 : EvO tl σ H lo) (h2 : EvO th σ H hi) (hz : z.length ≤ 100000) : Ev (tSl rSlS te tl th) σ H (.str (cutS z lo hi)) := fun H1 e Q q =>
  h H1 e _ fun H2 e2 => h1 H2 (e.trans e2) _ fun H3 e3 => h2 H3 ((e.trans e2).trans e3) _ fun H4 e4 => ⟨z, rfl, sz_of hz, q H4 ((e2.trans e3).trans e4)⟩
theorem eu_tupL (h : EvR te σ H xs) : EvU (tCB (rTup1 K) (tCons te tNil)) σ H xs := fun H1 e Q q =>
  h H1 e _ fun p H2 e2 h2 => ⟨p, xs, rfl, Or.inl ⟨sq_of h2, fun l nl => q l _ (fresh_back e2 nl) (e2.trans (Ex.new nl)) upd_same⟩⟩
/-- an expression told by what its value is -/
def EvP (te : TE) (σ : L2.St) (H : Hp) (P : V → Hp → Prop) : Prop := ∀ H1, Ex H H1 → ∀ Q : VK, (∀ v H2, Ex H1 H2 → P v H2 → Q v H2) → te σ H1 Q
theorem eap_p {tr : TA} {P : V → Hp → Prop} {R : List V → Hp → Prop} (h : EvP te σ H P) (hm : ∀ v H1 H2, Ex H1 H2 → P v H1 → P v H2) (hr : EvAP tr σ H R) : EvAP (tCons te tr) σ H (fun vs H' => ∃ v r, vs = v :: r ∧ P v H' ∧ R r H') := fun H1 e Q q =>
  h H1 e _ fun v H2 e2 p => hr H2 (e.trans e2) _ fun vs H3 e3 r => q _ H3 (e2.trans e3) ⟨v, vs, rfl, hm _ _ _ e3 p, r⟩
/-- a written list of things, and one of them -/
theorem ep_pick {t : TA} {i : Int} {R : List V → Hp → Prop} {P : V → Hp → Prop} (h : EvAP t σ H R) (hb : Ev tb σ H (.int i)) (h0 : 0 ≤ i) (hR : ∀ vs H1, R vs H1 → vs.length ≤ 1000 ∧ i.toNat < vs.length ∧ ∀ v, vs[i.toNat]? = some v → ∀ H2, Ex H1 H2 → P v H2) : EvP (tOp (rIxL K) (tLst t) tb) σ H P := fun H1 e Q q =>
  h H1 e _ fun vs H2 e2 r => by
    obtain ⟨a, b, c⟩ := hR vs H2 r
    refine ⟨Nat.le_trans a (by decide), fun p np => hb _ ((e.trans e2).trans (Ex.new np)) _ fun H3 e3 => ⟨p, vs, i, vs[i.toNat], rfl, rfl, sq_of (e3 _ _ upd_same), ?_, q _ H3 ((e2.trans (Ex.new np)).trans e3) (c _ (List.getElem?_eq_getElem b) H3 ((Ex.new np).trans e3))⟩⟩
    have z : atI vs ((i.toNat : Nat) : Int) = some vs[i.toNat] := atI_nat (List.getElem?_eq_getElem b)
    have ez : ((i.toNat : Nat) : Int) = i := by omega
    rw [ez] at z
    exact z
end
end Cg
namespace Cg
open PySem PySem.Spec PyProof.Rows L2 Evl
theorem ep_of {te : TE} {σ : L2.St} {H : Hp} {v : V} {P : V → Hp → Prop} (h : Ev te σ H v) (p : ∀ H1, Ex H H1 → P v H1) : EvP te σ H P := fun H1 e _ q => h H1 e _ fun H2 e2 => q v H2 e2 (p H2 (e.trans e2))
end Cg



set_option Elab.async false
set_option linter.all false
set_option maxRecDepth 100000
set_option maxHeartbeats 400000
namespace Cg
open PySem PySem.Spec PyProof.Rows L2 Evl

def topS (i : Nat) : Stmt := PySem.Challenge.pw_crcgate_k04_letters.main.body.getD i (.Pass ⟨0, 0, 0, 0⟩)
abbrev s_is_sign : Stmt := topS 5
abbrev N_is_sign : List Str := ["value"]
theorem sc_is_sign : FnScope N_is_sign ["value"] (defScope s_is_sign) := ⟨rfl, rfl, rfl, by decide +kernel, rfl, by decide +kernel, by decide +kernel⟩
abbrev s_need_row : Stmt := topS 6
abbrev N_need_row : List Str := ["row", "sign"]
theorem sc_need_row : FnScope N_need_row ["row"] (defScope s_need_row) := ⟨rfl, rfl, rfl, by decide +kernel, rfl, by decide +kernel, by decide +kernel⟩
abbrev s_signs_of : Stmt := topS 10
abbrev N_signs_of : List Str := ["letter", "number", "power"]
theorem sc_signs_of : FnScope N_signs_of ["letter"] (defScope s_signs_of) := ⟨rfl, rfl, rfl, by decide +kernel, rfl, by decide +kernel, by decide +kernel⟩
abbrev s_letters_by_signs : Stmt := topS 11
abbrev N_letters_by_signs : List Str := ["letter"]
theorem sc_letters_by_signs : FnScope N_letters_by_signs [] (defScope s_letters_by_signs) := ⟨rfl, rfl, rfl, by decide +kernel, rfl, by decide +kernel, by decide +kernel⟩
abbrev s_row_of : Stmt := topS 12
abbrev N_row_of : List Str := ["text", "row", "letter"]
theorem sc_row_of : FnScope N_row_of ["text"] (defScope s_row_of) := ⟨rfl, rfl, rfl, by decide +kernel, rfl, by decide +kernel, by decide +kernel⟩
abbrev s_text_of : Stmt := topS 13
abbrev N_text_of : List Str := ["row", "letters", "found", "start", "signs"]
theorem sc_text_of : FnScope N_text_of ["row"] (defScope s_text_of) := ⟨rfl, rfl, rfl, by decide +kernel, rfl, by decide +kernel, by decide +kernel⟩
abbrev s__law_cell_at : Stmt := topS 15
abbrev N__law_cell_at : List Str := ["_law_script", "_law_k"]
theorem sc__law_cell_at : FnScope N__law_cell_at ["_law_script", "_law_k"] (defScope s__law_cell_at) := ⟨rfl, rfl, rfl, by decide +kernel, rfl, by decide +kernel, by decide +kernel⟩
abbrev s__law_is_row : Stmt := topS 16
abbrev N__law_is_row : List Str := ["_law_found", "_law_size", "_law_x"]
theorem sc__law_is_row : FnScope N__law_is_row ["_law_found", "_law_size"] (defScope s__law_is_row) := ⟨rfl, rfl, rfl, by decide +kernel, rfl, by decide +kernel, by decide +kernel⟩
abbrev s__law_letter_by : Stmt := topS 17
abbrev N__law_letter_by : List Str := ["_law_number", "_law_some"]
theorem sc__law_letter_by : FnScope N__law_letter_by ["_law_number"] (defScope s__law_letter_by) := ⟨rfl, rfl, rfl, by decide +kernel, rfl, by decide +kernel, by decide +kernel⟩
abbrev s__law_seven : Stmt := topS 18
abbrev N__law_seven : List Str := ["_law_number", "_law_found", "_law_k"]
theorem sc__law_seven : FnScope N__law_seven ["_law_number"] (defScope s__law_seven) := ⟨rfl, rfl, rfl, by decide +kernel, rfl, by decide +kernel, by decide +kernel⟩
abbrev s__law_text_by : Stmt := topS 19
abbrev N__law_text_by : List Str := ["_law_cell", "_law_size", "_law_found", "_law_state", "_law_k"]
theorem sc__law_text_by : FnScope N__law_text_by ["_law_cell", "_law_size"] (defScope s__law_text_by) := ⟨rfl, rfl, rfl, by decide +kernel, rfl, by decide +kernel, by decide +kernel⟩
abbrev s__law_refused : Stmt := topS 20
abbrev N__law_refused : List Str := ["_law_thing", "_law_reads", "_law_words", "_law_turn", "e"]
theorem sc__law_refused : FnScope N__law_refused ["_law_thing", "_law_reads"] (defScope s__law_refused) := ⟨rfl, rfl, rfl, by decide +kernel, rfl, by decide +kernel, by decide +kernel⟩
abbrev s_law : Stmt := topS 21
abbrev N_law : List Str := ["_law_script", "_law_size", "_law_text", "_law_due", "_law_letter", "_law_way", "_law_at", "_law_more", "_law_odd", "_law_found", "_law_handed", "_law_back"]
theorem sc_law : FnScope N_law ["_law_script"] (defScope s_law) := ⟨rfl, rfl, rfl, by decide +kernel, rfl, by decide +kernel, by decide +kernel⟩
structure Cs where
  (none_ GateError NoRow NoText : Addr)
structure Txt (K : PySem.W.Frag) (mg : Str → Option Value) (cs : Cs) : Prop where
  e_GateError : ExcT K mg "GateError" cs.GateError
  e_NoRow : ExcT K mg "NoRow" cs.NoRow
  e_NoText : ExcT K mg "NoText" cs.NoText
  p_GateError_GateError : PySem.W.subIn K (.ref cs.GateError) (.ref cs.GateError) = some true
  p_GateError_NoText : PySem.W.subIn K (.ref cs.GateError) (.ref cs.NoText) = some false
  p_NoRow_GateError : PySem.W.subIn K (.ref cs.NoRow) (.ref cs.GateError) = some true
  p_NoRow_NoText : PySem.W.subIn K (.ref cs.NoRow) (.ref cs.NoText) = some false
  p_NoText_GateError : PySem.W.subIn K (.ref cs.NoText) (.ref cs.GateError) = some true
  p_NoText_NoText : PySem.W.subIn K (.ref cs.NoText) (.ref cs.NoText) = some true
  z_ValueError : mg "ValueError" = none
  z_all : mg "all" = none
  z_bool : mg "bool" = none
  z_int : mg "int" = none
  z_isinstance : mg "isinstance" = none
  z_len : mg "len" = none
  z_list : mg "list" = none
  z_ord : mg "ord" = none
  z_range : mg "range" = none
  z_str : mg "str" = none
  z_tuple : mg "tuple" = none
  g_LETTERS : ∃ t, mg "LETTERS" = some (.str ((" !\"#$&'()*+,-./0123456789:;<=>?@ABCDEFGHIJKLMNOPQRSTUVWXYZ[\\]^_`abcdefghijklmnopqrstuvwxyz{|}~" : Str)) t)
  g_SIGNS_FOR_EACH : ∃ t, mg "SIGNS_FOR_EACH" = some (.int 7 t)
  d_is_sign : Raw K mg "is_sign" "is_sign" s_is_sign ["value"]
  d_need_row : Raw K mg "need_row" "need_row" s_need_row ["row"]
  d_signs_of : Raw K mg "signs_of" "signs_of" s_signs_of ["letter"]
  d_letters_by_signs : Raw K mg "letters_by_signs" "letters_by_signs" s_letters_by_signs []
  d_row_of : Raw K mg "row_of" "row_of" s_row_of ["text"]
  d_text_of : Raw K mg "text_of" "text_of" s_text_of ["row"]
  d__law_cell_at : Raw K mg "_law_cell_at" "_law_cell_at" s__law_cell_at ["_law_script", "_law_k"]
  d__law_is_row : Raw K mg "_law_is_row" "_law_is_row" s__law_is_row ["_law_found", "_law_size"]
  d__law_letter_by : Raw K mg "_law_letter_by" "_law_letter_by" s__law_letter_by ["_law_number"]
  d__law_seven : Raw K mg "_law_seven" "_law_seven" s__law_seven ["_law_number"]
  d__law_text_by : Raw K mg "_law_text_by" "_law_text_by" s__law_text_by ["_law_cell", "_law_size"]
  d__law_refused : Raw K mg "_law_refused" "_law_refused" s__law_refused ["_law_thing", "_law_reads"]
/-! ## our own lines for straight expressions -/
local macro_rules | `(tactic| walk_at "cg ar") => `(tactic| first | decide | omega | exact ⟨by decide, by decide⟩ | exact Or.inr ⟨by decide, by decide⟩ | (show (0 : Int) < _; first | decide | omega) | assumption)
local macro_rules | `(tactic| walk_at "cg hp") => `(tactic| first | assumption | (refine' Ex.at (by assumption) ?_; walk_at "cg hp"))
local macro_rules | `(tactic| walk_at "cg sq") => `(tactic| first | assumption | exact sq_of (by walk_at "cg hp") | (refine' ex_l (by assumption) ?_; walk_at "cg sq"))
local macro_rules | `(tactic| walk_at "cg er") => `(tactic| first | ((with_reducible apply er_var); (exact rfl); (walk_at "cg hp")) | ((with_reducible apply er_L); walk_at "cg el"))
local macro_rules | `(tactic| walk_at "cg el") => `(tactic| first
  | with_reducible exact el_nilI
  | ((with_reducible apply el_oneI); walk_at "cg ev")
  | ((with_reducible apply el_catI); (walk_at "cg er"); (walk_at "cg er"); (walk_at "cg ar"))
  | ((with_reducible apply el_repI); (walk_at "cg ev"); (walk_at "cg ev"); (walk_at "cg ar"))
  | ((with_reducible apply el_slFromI); (walk_at "cg er"); (walk_at "cg ev"); (walk_at "cg ar"))
  | ((with_reducible apply el_slToI); (walk_at "cg er"); (walk_at "cg ev"); (walk_at "cg ar"))
  | ((with_reducible apply el_listR); walk_at "cg er"))
local macro_rules | `(tactic| walk_at "cg ev") => `(tactic| first
  | with_reducible exact ev_c
  | ((with_reducible apply ev_var); exact rfl)
  | ((with_reducible apply ev_i0); (walk_at "cg ev"); (walk_at "cg ev"))
  | ((with_reducible apply ev_mod); (walk_at "cg ev"); (walk_at "cg ev"); (walk_at "cg ar"))
  | ((with_reducible apply ev_cmp); (walk_at "cg ev"); (walk_at "cg ev"))
  | ((with_reducible apply ev_lenI); walk_at "cg er")
  | ((with_reducible apply ev_chain); (walk_at "cg ev"); (walk_at "cg ev"); (walk_at "cg ev"))
  | ((with_reducible apply ev_notV); walk_at "cg ev")
  | ((with_reducible apply ev_max2); (walk_at "cg ev"); (walk_at "cg ev"))
  | ((with_reducible apply ev_min2); (walk_at "cg ev"); (walk_at "cg ev"))
  | ((with_reducible apply ev_intB); walk_at "cg ev")
  | ((with_reducible apply ev_eqR); (walk_at "cg er"); (walk_at "cg er"))
  | ((with_reducible apply ev_neR); (walk_at "cg er"); (walk_at "cg er"))
  | ((with_reducible apply ev_isiR); (walk_at "cg er"); (exact kit_list_list))
  | ((with_reducible apply ev_isiF); (walk_at "cg ev"); (exact rfl); first | exact kit_int_int | exact kit_int_bool | exact kit_bool_bool | exact kit_bool_int | exact kit_str_str)
  | ((with_reducible apply ev_sumR); walk_at "cg er")
  | ((with_reducible apply ev_inR); (walk_at "cg ev"); (walk_at "cg er"))
  | ((with_reducible apply ev_niR); (walk_at "cg ev"); (walk_at "cg er")))
local macro_rules | `(tactic| walk_at "cg ea") => `(tactic| first | with_reducible exact ea_nil | ((with_reducible apply ea_cons); (walk_at "cg ev"); (walk_at "cg ea")))
local macro_rules | `(tactic| walk_at "cg et") => `(tactic| first
  | ((with_reducible apply et_B); walk_at "cg ev")
  | ((with_reducible apply et_not); walk_at "cg et")
  | ((with_reducible apply et_test); walk_at "cg ev"))


/-! ## signs -/
def Bits (ns : List Int) : Prop := ∀ x ∈ ns, x = 0 ∨ x = 1
theorem Bits.nil : Bits [] := fun _ h => nomatch h
theorem Bits.cons {x : Int} {r : List Int} (h : x = 0 ∨ x = 1) (hr : Bits r) : Bits (x :: r) := fun y hy => by
  cases hy with
  | head => exact h
  | tail _ k => exact hr y k
theorem Bits.append {xs ys : List Int} (h : Bits xs) (k : Bits ys) : Bits (xs ++ ys) := fun y hy => by
  rcases List.mem_append.mp hy with z | z
  · exact h y z
  · exact k y z
theorem Bits.one {x : Int} (h : x = 0 ∨ x = 1) : Bits [x] := Bits.cons h .nil
theorem Bits.rep {x : Int} (n : Nat) (h : x = 0 ∨ x = 1) : Bits (List.replicate n x) := fun y hy => by
  rw [(List.mem_replicate.mp hy).2]
  exact h
theorem Bits.take {xs : List Int} (h : Bits xs) (n : Nat) : Bits (xs.take n) := fun y hy => h y (List.mem_of_mem_take hy)
theorem Bits.drop {xs : List Int} (h : Bits xs) (n : Nat) : Bits (xs.drop n) := fun y hy => h y (List.mem_of_mem_drop hy)
theorem bit_mod (i : Int) : i % 2 = 0 ∨ i % 2 = 1 := by omega
theorem Bits.get {xs : List Int} (h : Bits xs) {i : Nat} {x : Int} (e : xs[i]? = some x) : x = 0 ∨ x = 1 := h x (List.mem_of_getElem? e)


section
variable {P : Program} {w : World} {K : PySem.W.Frag} {mg : Str → Option Value} {base : Heap} {cs : Cs}
/-! ## _law_cell_at -/
def cellV (ns : List Int) (k : Int) : Int := ns.getD k.toNat 0
def sp__law_cell_at (K : PySem.W.Frag) : Sp := fun vs H Q _ => ∃ (a : Addr) (ns : List Int) (k : Int), vs = [.ref a, .int k] ∧ SqL K H a (iv ns) ∧ 0 ≤ k ∧ RetV (.int (cellV ns k)) H Q
theorem has__law_cell_at (T : Txt K mg cs) : Has P w K mg base 1 "_law_cell_at" ["_law_script", "_law_k"] (sp__law_cell_at K) := by
  refine T.d__law_cell_at.ok sc__law_cell_at (fun vs H Q E h => ?_) (fun f cdv A outer s H vs Q E hr h => ?_)
  · obtain ⟨a, ns, k, rfl, _⟩ := h
    rfl
  · obtain ⟨a, ns, k, rfl, hS, h0, q⟩ := h
    refine ⟨_, (pss_cons (ps_if (pt_cmpR op_lt (pv 1) (pe_callB (kk_len K) (by rfl) T.z_len b_len (pa_cons (pv 0) pa_nil)) (nomark _)) (pss_one (ps_ret (pe_ix (kk_ixl K) (pv 0) (pv 1) (fun _ _ => rfl)))) pss_nil)
      (pss_one (ps_ret pe_int))), ?_⟩
    refine q_when (et_test (ev_i0 (ev_var rfl) (ev_len (ev_var rfl) hS))) (fun hb H1 e1 => ?_) (fun hb H1 e1 => ?_)
    · have hk : k.toNat < ns.length := by
        have z := of_decide_eq_true hb
        rw [iv_len] at z
        omega
      have hx : atI (iv ns) k = some (.int (cellV ns k)) := by
        rw [show k = ((k.toNat : Nat) : Int) by omega]
        refine atI_nat (iv_get ?_)
        unfold cellV
        rw [Int.toNat_natCast, List.getD_eq_getElem?_getD, List.getElem?_eq_getElem hk]
        rfl
      exact s_ret (ev_op (ev_var rfl) (ev_var rfl) (rv_ixL (ex_l e1 hS) hx)) fun H2 e2 => q H2 (e1.trans e2)
    · have hk : ns.length ≤ k.toNat := by
        have z := of_decide_eq_false hb
        rw [iv_len] at z
        omega
      have hx : cellV ns k = 0 := by
        unfold cellV
        rw [List.getD_eq_getElem?_getD, List.getElem?_eq_none hk]
        rfl
      rw [hx] at q
      exact s_ret ev_c fun H2 e2 => q H2 (e1.trans e2)
theorem ev_cell {E : XK} {ta tb : TE} {σ : L2.St} {H : Hp} {a : Addr} {ns : List Int} {k : Int} (ha : Ev ta σ H (.ref a)) (hb : Ev tb σ H (.int k)) (hS : SqL K H a (iv ns)) (h0 : 0 ≤ k) :
    Ev (tCall (sp__law_cell_at K) [] E (tCons ta (tCons tb tNil))) σ H (.int (cellV ns k)) := ev_call (ea_two ha hb) fun H1 e Q q _ => ⟨a, ns, k, rfl, ex_l e hS, h0, q⟩
local macro_rules | `(tactic| walk_at "cg ev") => `(tactic| ((with_reducible apply ev_cell); (exact ev_var rfl); (walk_at "cg ev"); (walk_at "cg sq"); (walk_at "cg ar")))


/-! ## _law_is_row: where it is one -/
def sp__law_is_row : Sp := fun vs H Q _ => ∃ (a : Addr) (ns : List Int), vs = [.ref a, .int (ns.length : Int)] ∧ H a = some (.lst (iv ns)) ∧ Bits ns ∧ ns.length ≤ 100000 ∧ RetV (.bl true) H Q
theorem has__law_is_row (T : Txt K mg cs) : Has P w K mg base 1 "_law_is_row" ["_law_found", "_law_size"] sp__law_is_row := by
  refine T.d__law_is_row.ok sc__law_is_row (fun vs H Q E h => ?_) (fun f cdv A outer s H vs Q E hr h => ?_)
  · obtain ⟨a, n, rfl, _⟩ := h
    rfl
  · obtain ⟨a, ns, rfl, ha, hb, hl, q⟩ := h
    refine ⟨_, (pss_cons (ps_if (PW.pt (pw_or (pt_not (pt_val (pe_callB (kk_isi K) (by rfl) T.z_isinstance b_isinstance (pa_cons (pv 0) (pa_cons (pe_bltn (v := .ty "list") (u := .type "list") (by rfl) T.z_list b_list rfl) pa_nil))))) (pw_or1 (pt_cmpR op_neII (pe_callB (kk_len K) (by rfl) T.z_len b_len (pa_cons (pv 0) pa_nil)) (pv 1) (nomark _))))) (pss_one (ps_ret pe_bl)) pss_nil)
      (pss_one (ps_ret (pe_callB (kk_all K rfl) (by rfl) T.z_all b_all (pa_cons (pe_lc (own := [("_law_x", 2)]) (g := gName 2) (tt := tYes) rfl sc__law_is_row.nd (pi_list (pv 0)) (blkOk_by (own := [("_law_x", 2)]) (N := N__law_is_row) (sc := defScope s__law_is_row) (by decide +kernel)) (fun _ _ _ _ _ => pg_name (i := 2) sc__law_is_row.nd rfl (Or.inl rfl)) (fun _ _ _ _ _ => pts_nil) (fun _ _ _ _ _ => (pe_and (pe_callB (kk_isi K) (by rfl) T.z_isinstance b_isinstance (pa_cons (pv 2) (pa_cons (pe_bltn (v := .ty "int") (u := .type "int") (by rfl) T.z_int b_int rfl) pa_nil))) (pe_and (pe_not (pe_callB (kk_isi K) (by rfl) T.z_isinstance b_isinstance (pa_cons (pv 2) (pa_cons (pe_bltn (v := .ty "bool") (u := .type "bool") (by rfl) T.z_bool b_bool rfl) pa_nil)))) (pe_one (pe_chain op_le op_le pe_int (pv 2) pe_int)))))) pa_nil))))), ?_⟩
    refine q_when (et_or (by walk_at "cg et") (fun _ => by walk_at "cg et")) (fun hb H1 e1 => ?_) (fun _ H1 e1 => ?_)
    · simp at hb
    · refine s_ret (ev_allR (bs := (iv ns).map fun _ => true) (er_L (el_is (el_lcMap (fun _ => .bl true) (by walk_at "cg er") (by rw [iv_len]; omega) (fun _ => rfl) (fun i x H2 e2 hx => ?_)) ?_))) fun H2 e2 => ?_
      · obtain ⟨n, hn, rfl⟩ := iv_at hx
        have hn01 : (decide ((0 : Int) ≤ n) && decide (n ≤ 1)) = true := by
          rcases hb.get hn with rfl | rfl <;> rfl
        refine ev_is (ev_andV (by walk_at "cg ev") (fun _ => ev_andV (by walk_at "cg ev") (fun _ => ev_one (by walk_at "cg ev")))) ?_
        rw [hn01]
        rfl
      · rw [List.map_map]
        unfold iv
        rw [List.map_map, List.map_map]
        rfl
      · have z : ((iv ns).map fun _ => true).all id = true := by simp
        rw [z]
        exact q H2 (e1.trans e2)
theorem et_is_row {E : XK} {ta tb : TE} {σ : L2.St} {H : Hp} {ns : List Int} (ha : EvR ta σ H (iv ns)) (hb : Ev tb σ H (.int (ns.length : Int))) (h1 : Bits ns) (h2 : ns.length ≤ 100000) :
    Ev (tCall sp__law_is_row [] E (tCons ta (tCons tb tNil))) σ H (.bl true) := fun H1 e Q q => ha H1 e _ fun a H2 e2 h2' => hb H2 (e.trans e2) _ fun H3 e3 => ⟨a, ns, rfl, e3 _ _ h2', h1, h2, fun H4 e4 => q H4 ((e2.trans e3).trans e4)⟩


/-! ## is_sign, need_row, where a row stands -/
def sp_is_sign : Sp := fun vs H Q _ => ∃ (n : Int), vs = [.int n] ∧ (n = 0 ∨ n = 1) ∧ RetV (.bl true) H Q
theorem has_is_sign (T : Txt K mg cs) : Has P w K mg base 1 "is_sign" ["value"] sp_is_sign := by
  refine T.d_is_sign.ok sc_is_sign (fun vs H Q E h => ?_) (fun f cdv A outer s H vs Q E hr h => ?_)
  · obtain ⟨n, rfl, _⟩ := h
    rfl
  · obtain ⟨n, rfl, hn, q⟩ := h
    refine ⟨_, (pss_one (ps_ret (pe_and (pe_callB (kk_isi K) (by rfl) T.z_isinstance b_isinstance (pa_cons (pv 0) (pa_cons (pe_bltn (v := .ty "int") (u := .type "int") (by rfl) T.z_int b_int rfl) pa_nil))) (pe_and (pe_not (pe_callB (kk_isi K) (by rfl) T.z_isinstance b_isinstance (pa_cons (pv 0) (pa_cons (pe_bltn (v := .ty "bool") (u := .type "bool") (by rfl) T.z_bool b_bool rfl) pa_nil)))) (pe_one (pe_cmpR (kk_in K) (pv 0) (pe_tup (pa_cons pe_int (pa_cons pe_int pa_nil))) rfl)))))), ?_⟩
    refine s_ret (ev_is (ev_andV (by walk_at "cg ev") (fun _ => ev_andV (by walk_at "cg ev") (fun _ => ev_one (ev_inU (by walk_at "cg ev") (eu_tup (by walk_at "cg ea") (by decide)) rfl rfl)))) ?_) q
    rcases hn with rfl | rfl <;> rfl
def sp_need_row : Sp := fun vs H Q _ => ∃ (a : Addr) (ns : List Int), vs = [.ref a] ∧ H a = some (.lst (iv ns)) ∧ Bits ns ∧ RetV .non H Q
theorem has_need_row (T : Txt K mg cs) : Has P w K mg base 2 "need_row" ["row"] sp_need_row := by
  refine T.d_need_row.ok sc_need_row (fun vs H Q E h => ?_) (fun f cdv A outer s H vs Q E hr h => ?_)
  · obtain ⟨a, n, rfl, _⟩ := h
    rfl
  · obtain ⟨a, ns, rfl, ha, hb, q⟩ := h
    refine ⟨_, (pss_cons (ps_if (pt_not (pt_val (pe_callB (kk_isi K) (by rfl) T.z_isinstance b_isinstance (pa_cons (pv 0) (pa_cons (pe_bltn (v := .ty "list") (u := .type "list") (by rfl) T.z_list b_list rfl) pa_nil))))) (pss_one ps_never) pss_nil)
      (pss_one (ps_for (passes_of rfl) rfl (pi_list (pv 0)) (pg_name (i := 1) sc_need_row.nd rfl (Or.inl rfl)) (pss_one (ps_if (pt_not (pt_val (pe_callH (has_is_sign T) (hr.mono (by decide)) (passes_call (takes_of rfl rfl rfl rfl) (fun _ _ _ _ h => h)) (pa_cons (pv 1) pa_nil)))) (pss_one ps_never) pss_nil))))), ?_⟩
    refine q_when (by walk_at "cg et") (fun hb H1 e1 => ?_) (fun _ H1 e1 => ?_)
    · simp at hb
    · refine s_forLn (ev_var rfl) (by walk_at "cg sq") (fun i σ' H' => Ex H H' ∧ ∃ v, σ' = [some (.ref a), v]) (fun H2 e2 => ⟨e1.trans e2, none, rfl⟩) (fun i σ' H' _ h => sq_of (h.1 _ _ ha)) (fun i x σ' H' hx h => ?_) (fun σ' H' h => q _ h.1)
      obtain ⟨e, v, rfl⟩ := h
      obtain ⟨n, hn, rfl⟩ := iv_at hx
      refine s_when (et_not (et_B (ev_call (by walk_at "cg ea") fun H1 e1 Q q _ => ⟨n, rfl, hb.get hn, q⟩))) (fun hb H2 e2 => ?_) (fun _ H2 e2 => ⟨e.trans e2, _, rfl⟩)
      simp at hb


/-! ## a number by a length -/
theorem mod_place (c : Int) {n : Nat} (h : 0 < n) : ∃ k : Nat, c % (n : Int) = (k : Int) ∧ k < n := ⟨(c % (n : Int)).toNat, by
  have := Int.emod_nonneg c (show (n : Int) ≠ 0 by omega)
  omega, by
  have := Int.emod_lt_of_pos c (show (0 : Int) < (n : Int) by omega)
  omega⟩
theorem str_eq (x y : Str) : decide (V.str x = V.str y) = decide (x = y) := by
  by_cases h : x = y
  · subst h; simp
  · have : ¬ V.str x = V.str y := fun e => h (V.str.inj e)
    simp [h, this]


/-! ## letters: the table -/
def codes : List Nat := (List.range 127).filter fun n => decide (32 ≤ n) && !decide (n = 37)
def sevS : Nat → Int → List Int × Int
  | 0, n => ([], n)
  | k + 1, n => ([(sevS k n).2 % 2] ++ (sevS k n).1, (sevS k n).2 / 2)
def sev (n : Int) : List Int := (sevS 7 n).1
def Good (cs : List Nat) : Prop := ∀ c ∈ cs, c ∈ codes
theorem codes_lt : ∀ c ∈ codes, c < 128 := by decide +kernel
theorem sevS_in (n : Int) : ∀ k, Bits (sevS k n).1 ∧ (sevS k n).1.length = k
  | 0 => ⟨.nil, rfl⟩
  | k + 1 => by
    have ih := sevS_in n k
    exact ⟨(Bits.one (bit_mod _)).append ih.1, by show ([_] ++ _).length = _; rw [List.length_append, ih.2]; show 1 + k = k + 1; omega⟩
theorem sev_bits (n : Int) : Bits (sev n) := (sevS_in n 7).1
theorem sev_len (n : Int) : (sev n).length = 7 := (sevS_in n 7).2
def rowT : List Nat → List Int
  | [] => []
  | c :: r => sev (c : Int) ++ rowT r
theorem rowT_bits : ∀ cs, Bits (rowT cs)
  | [] => .nil
  | c :: r => (sev_bits _).append (rowT_bits r)
theorem rowT_len : ∀ cs, (rowT cs).length = 7 * cs.length
  | [] => rfl
  | c :: r => by
    show (sev _ ++ rowT r).length = 7 * (r.length + 1)
    rw [List.length_append, sev_len, rowT_len r]
    omega
theorem rowT_add (xs ys : List Nat) : rowT (xs ++ ys) = rowT xs ++ rowT ys := by
  induction xs with
  | nil => rfl
  | cons c r ih =>
    show sev _ ++ rowT (r ++ ys) = sev _ ++ rowT r ++ rowT ys
    rw [ih, List.append_assoc]
theorem rowT_snoc (xs : List Nat) (c : Nat) : rowT (xs ++ [c]) = rowT xs ++ sev (c : Int) := by
  rw [rowT_add]
  show _ ++ (sev _ ++ []) = _
  rw [List.append_nil]
theorem rowT_take (cs : List Nat) (k : Nat) : (rowT cs).take (7 * k) = rowT (cs.take k) := by
  induction cs generalizing k with
  | nil => rw [List.take_nil]; exact List.take_nil
  | cons c r ih =>
    cases k with
    | zero => rfl
    | succ k =>
      show (sev _ ++ rowT r).take (7 * (k + 1)) = sev _ ++ rowT (r.take k)
      rw [List.take_append, List.take_of_length_le (by rw [sev_len]; omega), sev_len, show 7 * (k + 1) - 7 = 7 * k by omega, ih]
theorem rowT_drop (cs : List Nat) (k : Nat) : (rowT cs).drop (7 * k) = rowT (cs.drop k) := by
  induction cs generalizing k with
  | nil => rw [List.drop_nil]; exact List.drop_nil
  | cons c r ih =>
    cases k with
    | zero => rfl
    | succ k =>
      show (sev _ ++ rowT r).drop (7 * (k + 1)) = rowT (r.drop k)
      rw [List.drop_append, List.drop_of_length_le (by rw [sev_len]; omega), sev_len, show 7 * (k + 1) - 7 = 7 * k by omega, ih]
      rfl
/-- the signs of a letter's number as the program makes them -/
theorem signs_eq : ∀ c : Nat, c < 128 → (List.range 7).map (fun (i : Nat) => Builtin.bitAnd ((c : Int) / 2 ^ ((6 : Int) + (i : Nat) * -1).toNat) 1) = sev (c : Int) := by decide +kernel
def keyOf (xs : List Int) : List L2.Key := xs.map Sum.inl
theorem keyOf_V (xs : List Int) : (keyOf xs).map kV = iv xs := by
  unfold keyOf iv
  rw [List.map_map]
  rfl
def tblN (i : Nat) : List (List L2.Key × V) := (codes.take i).map fun (c : Nat) => (keyOf (sev (c : Int)), V.str ⟨#[c]⟩)
theorem tbl_new : ∀ i, i < 94 → valV (tblN i) (keyOf (sev ((codes.getD i 0 : Nat) : Int))) = none := by decide +kernel
theorem tbl_good : ∀ c ∈ codes, valV (tblN 94) (keyOf (sev ((c : Nat) : Int))) = some (V.str ⟨#[c]⟩) := by decide +kernel
theorem codes_len : codes.length = 94 := by decide +kernel
def Odd7 (m : Int) : Prop := valV (tblN 94) (keyOf (sev m)) = none
theorem odd_all : ∀ m : Nat, m < 128 → m ∉ codes → valV (tblN 94) (keyOf (sev ((m : Nat) : Int))) = none := by decide +kernel
/-! ## signs_of, letters_by_signs, row_of, text_of -/
theorem letters_list : (((" !\"#$&'()*+,-./0123456789:;<=>?@ABCDEFGHIJKLMNOPQRSTUVWXYZ[\\]^_`abcdefghijklmnopqrstuvwxyz{|}~" : Str)) : Str).cps.toList = codes := by decide +kernel
theorem letters_size : (((" !\"#$&'()*+,-./0123456789:;<=>?@ABCDEFGHIJKLMNOPQRSTUVWXYZ[\\]^_`abcdefghijklmnopqrstuvwxyz{|}~" : Str)) : Str).cps.size = 94 := by decide +kernel
theorem letters_at (i : Nat) : (((" !\"#$&'()*+,-./0123456789:;<=>?@ABCDEFGHIJKLMNOPQRSTUVWXYZ[\\]^_`abcdefghijklmnopqrstuvwxyz{|}~" : Str)) : Str).cps[i]? = codes[i]? := by
  rw [← letters_list]
  exact (Array.getElem?_toList).symm
def sp_signs_of : Sp := fun vs H Q _ => ∃ (c : Nat), vs = [.str ⟨#[c]⟩] ∧ c < 128 ∧ RetL (iv (sev (c : Int))) H Q
theorem has_signs_of (T : Txt K mg cs) : Has P w K mg base 1 "signs_of" ["letter"] sp_signs_of := by
  refine T.d_signs_of.ok sc_signs_of (fun vs H Q E h => ?_) (fun f cdv A outer s H vs Q E hr h => ?_)
  · obtain ⟨c, rfl, _⟩ := h
    rfl
  · obtain ⟨c, rfl, hc, q⟩ := h
    refine ⟨_, (pss_cons (ps_set (i := 1) sc_signs_of.nd rfl (Or.inr rfl) (pe_callB call_ord (by rfl) T.z_ord b_ord (pa_cons (pv 0) pa_nil)))
      (pss_one (ps_ret (pe_lc (own := [("power", 2)]) (g := gName 2) (tt := tYes) rfl sc_signs_of.nd (pi_range3 (by rfl) T.z_range (pa_cons (pe_op op_sub (pe_globI T.g_SIGNS_FOR_EACH) pe_int) (pa_cons (pe_un un_neg pe_int) (pa_cons (pe_un un_neg pe_int) pa_nil)))) (blkOk_by (own := [("power", 2)]) (N := N_signs_of) (sc := defScope s_signs_of) (by decide +kernel)) (fun _ _ _ _ _ => pg_name (i := 2) sc_signs_of.nd rfl (Or.inl rfl)) (fun _ _ _ _ _ => pts_nil) (fun _ _ _ _ _ => (pe_op op_and (pe_op op_shr (pv 1) (pv 2)) pe_int)))))), ?_⟩
    refine q_asg (ev_ord (ev_var rfl)) fun H1 e1 => ?_
    refine s_retL (xs := iv (sev (c : Int))) (el_is (el_lcR3 (i0 := 6) (j0 := -1) (c := -1) (n := 7) (fun i => .int (Builtin.bitAnd ((c : Int) / 2 ^ ((6 : Int) + (i : Nat) * -1).toNat) 1)) (ea_cons (ev_is (ev_i0 ev_c ev_c) rfl) (ea_two (ev_un ev_c ru_neg) (ev_un ev_c ru_neg))) (RgC.neg (i := 6) (j := -1) (by decide) (by decide) (by decide) (by decide)) (by decide) (fun _ => rfl) (fun i H2 e2 hi => ev_i0 (ev_mod (ev_var rfl) (ev_var rfl) (by show (0 : Int) ≤ _; omega)) ev_c)) ?_) fun p H2 n2 e2 h2 => q p H2 (fresh_back e1 n2) (e1.trans e2) h2
    rw [← signs_eq c hc]
    unfold iv
    rw [List.map_map]
    rfl
theorem el_signs {E : XK} {σ : L2.St} {H : Hp} {te : TE} {c : Nat} (h : Ev te σ H (.str ⟨#[c]⟩)) (hc : c < 128) : EvL (tCall sp_signs_of [] E (tCons te tNil)) σ H (iv (sev (c : Int))) :=
  el_callP (eap_ev h eap_nil) (by
    rintro vs H1 e1 ⟨_, rfl, rfl⟩ Q q
    exact ⟨c, rfl, hc, q⟩)
theorem codes_at {i : Nat} (h : i < 94) : codes[i]? = some (codes.getD i 0) := by
  rw [List.getD_eq_getElem?_getD, List.getElem?_eq_getElem (by rw [codes_len]; exact h)]
  rfl
theorem tbl_snoc {i : Nat} (h : i < 94) : tblN (i + 1) = tblN i ++ [(keyOf (sev ((codes.getD i 0 : Nat) : Int)), V.str ⟨#[codes.getD i 0]⟩)] := by
  unfold tblN
  rw [List.take_add_one, codes_at h, List.map_append]
  rfl
theorem tbl_len (i : Nat) : (tblN i).length ≤ 94 := by
  unfold tblN
  rw [List.length_map, List.length_take, codes_len]
  omega
theorem tbl_str {k : List L2.Key} {v : V} (h : valV (tblN 94) k = some v) : ∃ c, v = V.str ⟨#[c]⟩ := by
  unfold valV at h
  cases hf : (tblN 94).find? fun kv => decide (kv.1 = k) with
  | none => rw [hf] at h; cases h
  | some kv =>
    rw [hf] at h
    cases h
    have hm := List.mem_of_find?_eq_some hf
    unfold tblN at hm
    obtain ⟨c, _, e⟩ := List.mem_map.mp hm
    exact ⟨c, by rw [← e]⟩
def sp_letters_by_signs : Sp := fun vs H Q _ => vs = [] ∧ ∀ d H', Ex H H' → H' d = some (.dT (tblN 94)) → Q (.ref d) H'
theorem has_letters_by_signs (T : Txt K mg cs) : Has P w K mg base 2 "letters_by_signs" [] sp_letters_by_signs := by
  refine T.d_letters_by_signs.ok sc_letters_by_signs (fun vs H Q E h => ?_) (fun f cdv A outer s H vs Q E hr h => ?_)
  · obtain ⟨rfl, _⟩ := h
    rfl
  · obtain ⟨rfl, q⟩ := h
    refine ⟨_, (pss_one (ps_ret (pe_dcT (own := [("letter", 0)]) (g := gName 0) (tt := tYes) (hu_of hr) rfl sc_letters_by_signs.nd (pi_str (pe_globS T.g_LETTERS)) (blkOk_by (own := [("letter", 0)]) (N := N_letters_by_signs) (sc := defScope s_letters_by_signs) (by decide +kernel)) (fun _ _ _ _ _ => pg_name (i := 0) sc_letters_by_signs.nd rfl (Or.inl rfl)) (fun _ _ _ _ _ => pts_nil) (fun _ _ _ _ _ => (pe_callTy (kk_tup K) (by rfl) T.z_tuple b_tuple (pa_cons (pe_callH (has_signs_of T) (hr.mono (by decide)) passL (pa_cons (pv 0) pa_nil)) pa_nil))) (fun _ _ _ _ _ => (pv 0))))), ?_⟩
    refine s_retW ⟨_, rfl, fun D nD => ⟨fun i m G => i + m = 94 ∧ Ex H G ∧ G D = some (.dT (tblN i)), ⟨94, rfl, Ex.new nD, upd_same⟩, ?_⟩⟩
    rintro i m G ⟨em, eG, hG⟩
    by_cases hi : i < 94
    · refine .inr ⟨by show i < _; rw [letters_size]; exact hi, fun G2 => Ex H G2 ∧ G2 D = some (.dT (tblN (i + 1))), fun G2 hN => ⟨m - 1, by omega, by omega, hN.1, hN.2⟩, fun x G2 hy => ?_⟩
      obtain ⟨rfl, c, hc, rfl⟩ := hy
      rw [letters_at, codes_at hi] at hc
      cases hc
      refine ⟨rfl, yes_go ?_⟩
      have hm : codes.getD i 0 ∈ codes := List.mem_of_getElem? (codes_at hi)
      refine eu_tupL (xs := iv (sev ((codes.getD i 0 : Nat) : Int))) (er_L (el_signs (ev_var rfl) (codes_lt _ hm))) _ (Ex.refl _) _ fun p G3 n3 e3 h3 => ⟨_, rfl, tblN i, keyOf (sev ((codes.getD i 0 : Nat) : Int)), p, rfl, ?_, e3 _ _ hG, sz_lt (by have := tbl_len i; omega), Ex.mut (eG.trans e3) nD, ?_⟩
      · rw [keyOf_V]
        exact h3
      · rw [upd_same, putK_new _ (tbl_new i hi), tbl_snoc hi]
    · have e : i = 94 := by omega
      subst e
      exact .inl ⟨by show _ ≤ _; rw [letters_size]; exact Nat.le_refl _, q D G eG hG⟩
def NotStr (K : PySem.W.Frag) (H : Hp) (v : V) : Prop := ∃ t : String, kitB t "str" = some false ∧ TyX K H v (.type t) ∧ ∀ H1, Ex H H1 → TyX K H1 v (.type t)
def sp_row_of (K : PySem.W.Frag) (cs : Cs) : Sp := fun vs H Q E => ∃ (v : V), vs = [v] ∧ ((∃ zs, v = .str (strOf zs) ∧ zs.length ≤ 10000 ∧ (Good zs → RetL (iv (rowT zs)) H Q) ∧ (¬ Good zs → ∀ H', Ex H H' → E (.ref cs.NoText) none H')) ∨ (NotStr K H v ∧ ∀ H', Ex H H' → E (.ref cs.NoText) none H'))
theorem has_row_of (T : Txt K mg cs) : Has P w K mg base 2 "row_of" ["text"] (sp_row_of K cs) := by
  refine T.d_row_of.ok sc_row_of (fun vs H Q E h => ?_) (fun f cdv A outer s H vs Q E hr h => ?_)
  · obtain ⟨v, rfl, _⟩ := h
    rfl
  · obtain ⟨v, rfl, h⟩ := h
    refine ⟨_, (pss_cons (ps_if (pt_not (pt_val (pe_callB (kk_isi K) (by rfl) T.z_isinstance b_isinstance (pa_cons (pv 0) (pa_cons (pe_bltn (v := .ty "str") (u := .type "str") (by rfl) T.z_str b_str rfl) pa_nil))))) (pss_one (ps_raise rfl (takes_of rfl rfl rfl rfl) (pmk_own PySem.F.excBase_ValueError T.e_NoText.x T.e_NoText.g T.e_NoText.k T.e_NoText.r (by exact rfl)))) pss_nil)
      (pss_cons (ps_set (i := 1) sc_row_of.nd rfl (Or.inl rfl) (pe_lst pa_nil))
      (pss_cons (ps_for (passes_of rfl) rfl (pi_str (pv 0)) (pg_name (i := 2) sc_row_of.nd rfl (Or.inl rfl)) (pss_cons (ps_if (pt_cmpR op_notIn_sign (pv 2) (pe_globS T.g_LETTERS) rfl) (pss_one (ps_raise rfl (takes_of rfl rfl rfl rfl) (pmk_own PySem.F.excBase_ValueError T.e_NoText.x T.e_NoText.g T.e_NoText.k T.e_NoText.r (by exact rfl)))) pss_nil)
      (pss_one (ps_expr (pe_bm PySem.F.plainAttrs_list PySem.F.slot_list_extend PySem.F.type_list_extend mt_extend (pv 1) (pa_cons (pe_callH (has_signs_of T) (hr.mono (by decide)) (passes_call (takes_of rfl rfl rfl rfl) (fun _ _ _ _ h => h)) (pa_cons (pv 2) pa_nil)) pa_nil))))))
      (pss_one (ps_ret (pv 1)))))), ?_⟩
    rcases h with ⟨zs, rfl, lz, q1, q2⟩ | ⟨⟨t, kt, ty, tm⟩, q⟩
    · refine q_when (b := false) (et_is (et_not (et_B (ev_isiF (ev_var rfl) rfl kit_str_str))) rfl) (fun h => nomatch h) (fun _ H1 e1 => ?_)
      refine q_asgL el_nilI fun l H2 n2 e2 h2 => ?_
      have nl : H l = none := fresh_back e1 n2
      have e12 := e1.trans e2
      refine q_forS (z := strOf zs) (ev_var rfl) (fun i σ' G => Ex H G ∧ G l = some (.lst (iv (rowT (zs.take i)))) ∧ Good (zs.take i) ∧ ∃ v, σ' = [some (.str (strOf zs)), some (.ref l), v]) (fun H3 e3 => ⟨e12.trans e3, e3 _ _ h2, (fun c hc => by rw [List.take_zero] at hc; cases hc), none, rfl⟩) ?_ ?_
      · rintro i c σ' G hc ⟨eG, hl, gd, v, rfl⟩
        rw [strOf_at] at hc
        have tk : zs.take (i + 1) = zs.take i ++ [c] := by rw [List.take_add_one, hc]; rfl
        have li := (List.getElem?_eq_some_iff.mp hc).1
        refine q_when (et_test (ev_niS (ev_var rfl) ev_c)) (fun hn H3 e3 => ?_) (fun hn H3 e3 => ?_)
        · rw [letters_list, Bool.not_eq_true', decide_eq_false_iff_not] at hn
          exact q2 (fun g => hn (g c (List.mem_of_getElem? hc))) H3 (eG.trans e3)
        · rw [letters_list, Bool.not_eq_false', decide_eq_true_eq] at hn
          refine s_extI nl (eG.trans e3) (e3 _ _ hl) (ev_var rfl) (el_signs (ev_var rfl) (codes_lt c hn)) (by rw [rowT_len, sev_len, List.length_take]; omega) fun H4 e4 h4 => ⟨e4, ?_, ?_, _, rfl⟩
          · rw [h4, tk, rowT_snoc]
          · rw [tk]
            intro d hd
            rcases List.mem_append.mp hd with z | z
            · exact gd d z
            · rw [List.mem_singleton] at z
              rw [z]
              exact hn
      · rintro σ' G ⟨eG, hl, gd, v, rfl⟩
        have sz : (strOf zs).cps.size = zs.length := strOf_len zs
        rw [sz, List.take_length] at hl gd
        exact s_ret (ev_var rfl) fun H3 e3 => q1 gd l H3 nl (eG.trans e3) (e3 _ _ hl)
    · refine q_when (b := true) (et_is (et_not (et_B (ev_isi (ev_var rfl) ty tm (kit_ty kt)))) rfl) (fun _ H1 e1 => q H1 e1) (fun h => nomatch h)
def chunk (xs : List Int) (j : Nat) : List Int := (xs.drop (7 * j)).take 7
theorem chunk_rowT (cs : List Nat) (tl : List Int) {j : Nat} (h : j < cs.length) : chunk (rowT cs ++ tl) j = sev ((cs.getD j 0 : Nat) : Int) := by
  unfold chunk
  rw [List.drop_append, rowT_drop, rowT_len, show 7 * j - 7 * cs.length = 0 by omega, List.drop_zero]
  have e : cs.drop j = cs.getD j 0 :: cs.drop (j + 1) := by
    rw [List.getD_eq_getElem?_getD, List.getElem?_eq_getElem h]
    exact List.drop_eq_getElem_cons h
  rw [e]
  show (sev _ ++ rowT _ ++ tl).take 7 = _
  rw [List.append_assoc, List.take_append, sev_len, Nat.sub_self, List.take_zero, List.append_nil, List.take_of_length_le (by rw [sev_len]; exact Nat.le_refl _)]
def BadRow (xs : List Int) : Prop := xs.length % 7 ≠ 0 ∨ ∃ i, 7 * i + 7 ≤ xs.length ∧ valV (tblN 94) (keyOf (chunk xs i)) = none
theorem join_ones_ : ∀ cs : List Nat, Txt.join (Str.ofString "") (cs.map fun c => (⟨#[c]⟩ : Str)) = strOf cs := fun cs => by
  show Builtin.Str.glued (Str.ofString "") _ = _
  rw [StrLaws.glued_eq_join]
  have em : (Str.ofString "") = Str.empty := by decide +kernel
  rw [em]
  induction cs with
  | nil => rfl
  | cons c r ih =>
    cases r with
    | nil => rfl
    | cons d s =>
      show ((⟨#[c]⟩ : Str) ++ Str.empty ++ Str.join Str.empty (((d :: s) : List Nat).map fun c => (⟨#[c]⟩ : Str))) = _
      rw [ih]
      have z : ((⟨#[c]⟩ : Str) ++ Str.empty) = strOf [c] := rfl
      rw [z, strOf_add]
      rfl
theorem ones_sum : ∀ cs : List Nat, ((cs.map fun c => (⟨#[c]⟩ : Str)).map (·.length)).sum = cs.length
  | [] => rfl
  | c :: r => by
    rw [List.map_cons, List.map_cons, List.sum_cons, ones_sum r]
    show 1 + r.length = r.length + 1
    omega
theorem rg7 (n : Nat) (h : n ≤ 100000) : RgC 0 ((7 * n : Nat) : Int) 7 n := by
  have rs : Builtin.Range.rangeSize 0 ((7 * n : Nat) : Int) 7 = (n : Int) := by
    unfold Builtin.Range.rangeSize
    rw [if_pos (by decide)]
    split <;> omega
  refine ⟨by decide, by decide, ?_, rs⟩
  unfold Builtin.Range.small
  rw [rs]
  have hm : 0 ≤ ((7 * n : Nat) : Int) ∧ ((7 * n : Nat) : Int) ≤ 1000000 := by omega
  have hn : 0 ≤ (n : Int) ∧ (n : Int) ≤ 1000000 := by omega
  generalize ((7 * n : Nat) : Int) = m at hm
  generalize (n : Int) = k at hn
  unfold Builtin.Range.rangeFitsLong
  simp only [Bool.and_eq_true, Bool.or_eq_true, decide_eq_true_eq, beq_iff_eq, show ((7 : Int) > 0) by decide, if_true]
  omega
def sp_text_of (cs : Cs) : Sp := fun vs H Q E => ∃ (a : Addr) (xs : List Int), vs = [.ref a] ∧ H a = some (.lst (iv xs)) ∧ Bits xs ∧ xs.length ≤ 20000 ∧ ((∃ zs, Good zs ∧ xs = rowT zs ∧ RetV (.str (strOf zs)) H Q) ∨ (BadRow xs ∧ ∀ H', Ex H H' → E (.ref cs.NoText) none H'))
theorem has_text_of (T : Txt K mg cs) : Has P w K mg base 3 "text_of" ["row"] (sp_text_of cs) := by
  refine T.d_text_of.ok sc_text_of (fun vs H Q E h => ?_) (fun f cdv A outer s H vs Q E hr h => ?_)
  · obtain ⟨a, xs, rfl, _⟩ := h
    rfl
  · obtain ⟨a, xs, rfl, ha, bx, lx, hor⟩ := h
    refine ⟨_, (pss_cons (ps_expr (pe_callH (has_need_row T) (hr.mono (by decide)) (passes_call (takes_of rfl rfl rfl rfl) (fun _ _ _ _ h => h)) (pa_cons (pv 0) pa_nil)))
      (pss_cons (ps_if (pt_cmpR op_neII (pe_op op_mod (pe_callB (kk_len K) (by rfl) T.z_len b_len (pa_cons (pv 0) pa_nil)) (pe_globI T.g_SIGNS_FOR_EACH)) pe_int (nomark _)) (pss_one (ps_raise rfl (takes_of rfl rfl rfl rfl) (pmk_own PySem.F.excBase_ValueError T.e_NoText.x T.e_NoText.g T.e_NoText.k T.e_NoText.r (by exact rfl)))) pss_nil)
      (pss_cons (ps_set (i := 1) sc_text_of.nd rfl (Or.inl rfl) (pe_callH0 (has_letters_by_signs T) (hr.mono (by decide)) (passes_call (takes_of rfl rfl rfl rfl) (fun _ _ _ _ h => h))))
      (pss_cons (ps_set (i := 2) sc_text_of.nd rfl (Or.inl rfl) (pe_lst pa_nil))
      (pss_cons (ps_for (passes_of rfl) rfl (pi_range3 (by rfl) T.z_range (pa_cons pe_int (pa_cons (pe_callB (kk_len K) (by rfl) T.z_len b_len (pa_cons (pv 0) pa_nil)) (pa_cons (pe_globI T.g_SIGNS_FOR_EACH) pa_nil)))) (pg_name (i := 3) sc_text_of.nd rfl (Or.inl rfl)) (pss_cons (ps_set (i := 4) sc_text_of.nd rfl (Or.inl rfl) (pe_callTy (kk_tup K) (by rfl) T.z_tuple b_tuple (pa_cons (pe_slice (kk_sl K) (pv 0) (po_some (pv 3)) (po_some (pe_op op_add (pv 3) (pe_globI T.g_SIGNS_FOR_EACH)))) pa_nil)))
      (pss_cons (ps_if (pt_cmp (pc_dnotin (hu_of hr) (pv 4) (pv 1))) (pss_one (ps_raise rfl (takes_of rfl rfl rfl rfl) (pmk_own PySem.F.excBase_ValueError T.e_NoText.x T.e_NoText.g T.e_NoText.k T.e_NoText.r (by exact rfl)))) pss_nil)
      (pss_one (ps_expr (pe_bm PySem.F.plainAttrs_list PySem.F.slot_list_append PySem.F.type_list_append mt_append (pv 2) (pa_cons (pe_dget (hu_of hr) (pv 1) (pv 4) (fun _ _ => rfl)) pa_nil)))))))
      (pss_one (ps_ret (pe_join pe_str (pv 2))))))))), ?_⟩
    refine q_dropC (by walk_at "cg ea") fun H1 e1 => ⟨a, xs, rfl, e1 _ _ ha, bx, fun H2 e2 => ?_⟩
    have e := e1.trans e2
    have a2 := e _ _ ha
    clear e1 e2
    refine q_when (et_test (ev_i0 (ev_mod (ev_lenI (er_var rfl a2)) ev_c (by walk_at "cg ar")) ev_c)) (fun hc H3 e3 => ?_) (fun hc H3 e3 => ?_)
    · rw [Bool.not_eq_true', decide_eq_false_iff_not] at hc
      rcases hor with ⟨zs, gz, rfl, q⟩ | ⟨_, q⟩
      · rw [rowT_len] at hc
        omega
      · exact q H3 (e.trans e3)
    rw [Bool.not_eq_false', decide_eq_true_eq] at hc
    obtain ⟨n, hn⟩ : ∃ n, xs.length = 7 * n := ⟨xs.length / 7, by omega⟩
    refine q_asgW (call_go ⟨rfl, fun d H4 e4 h4 => ?_⟩)
    refine q_asgL (xs := []) (el_lst ea_nil (Nat.zero_le _)) fun l H5 n5 e5 h5 => ?_
    have eH5 := ((e.trans e3).trans e4).trans e5
    have d5 := e5 _ _ h4
    have nl : H l = none := fresh_back ((e.trans e3).trans e4) n5
    have ndl : d ≠ l := ne_of_none h4 n5
    clear e3 e4 e5 e a2
    refine q_forR3 (i0 := 0) (j0 := ((7 * n : Nat) : Int)) (c := 7) (n := n) (ea_cons ev_c (ea_two (ev_is (ev_lenI (er_var rfl (eH5 _ _ ha))) (congrArg V.int (by omega))) ev_c)) (rg7 n (by omega)) (fun i σ' G => Ex H G ∧ G d = some (.dT (tblN 94)) ∧ (∃ cs' : List Nat, cs'.length = i ∧ G l = some (.lst (cs'.map fun c => V.str ⟨#[c]⟩)) ∧ ∀ j c, cs'[j]? = some c → valV (tblN 94) (keyOf (chunk xs j)) = some (.str ⟨#[c]⟩)) ∧ ∃ v v2, σ' = [some (.ref a), some (.ref d), some (.ref l), v, v2]) ?_ ?_ ?_
    · exact fun H6 e6 => ⟨eH5.trans e6, e6 _ _ d5, ⟨[], rfl, e6 _ _ h5, fun j c hj => by simp at hj⟩, none, none, rfl⟩
    · rintro i σ' G hi ⟨eG, hd, ⟨cs', lc, hl, hcs⟩, v, v2, rfl⟩
      have sl : EvR (tSl (rSlL K) (tVar 0) (tPart (tVar 3)) (tPart (tOp (rI0 fun i j => .int (i + j)) (tVar 3) (tC (.int 7))))) [some (.ref a), some (.ref d), some (.ref l), some (.int (0 + (i : Nat) * 7)), v2] G (iv (chunk xs i)) := er_L (el_is (el_slR (lo := some ((7 * i : Nat) : Int)) (hi := some ((7 * i + 7 : Nat) : Int)) (er_var rfl (eG _ _ ha)) (eo_some (ev_is (ev_var rfl) (congrArg V.int (by omega)))) (eo_some (ev_is (ev_i0 (ev_var rfl) ev_c) (congrArg V.int (by omega))))) (by
        rw [cutV_iv, HT.sIx_nat, HT.sIx_nat, Nat.min_eq_left (by omega), Nat.min_eq_left (by omega)]
        unfold chunk
        congr 2
        omega))
      refine q_asgU (eu_tupL sl) fun tp H6 n6 e6 h6 => ?_
      have key6 : H6 tp = some (.tup ((keyOf (chunk xs i)).map kV)) := by rw [keyOf_V]; exact h6
      have d6 := e6 _ _ hd
      have l6 := e6 _ _ hl
      have eH6 := eG.trans e6
      cases hv : valV (tblN 94) (keyOf (chunk xs i)) with
      | none =>
        refine q_ifW ⟨_, rfl, _, rfl, d, none, rfl, hv ▸ DGet.t d6 key6, true, rfl, ?_⟩
        refine if_yes ?_
        rcases hor with ⟨zs, gz, rfl, q⟩ | ⟨_, q⟩
        · rw [rowT_len] at hn
          have ez := chunk_rowT zs [] (j := i) (by omega)
          rw [List.append_nil] at ez
          rw [ez, tbl_good _ (gz _ (List.mem_of_getElem? (by rw [List.getElem?_eq_getElem (show i < zs.length by omega)]; rw [List.getD_eq_getElem?_getD, List.getElem?_eq_getElem (show i < zs.length by omega)]; rfl)))] at hv
          cases hv
        · exact q H6 eH6
      | some x =>
        obtain ⟨c, rfl⟩ := tbl_str hv
        refine q_ifW ⟨_, rfl, _, rfl, d, some (.str ⟨#[c]⟩), rfl, hv ▸ DGet.t d6 key6, false, rfl, ?_⟩
        refine if_no' ?_
        have gt : Ev (tDGet (tVar 1) (tVar 4)) [some (.ref a), some (.ref d), some (.ref l), some (.int (0 + (i : Nat) * 7)), some (.ref tp)] H6 (.str ⟨#[c]⟩) := fun H7 e7 Q' q' => ⟨_, rfl, _, rfl, d, _, rfl, hv ▸ DGet.t (e7 _ _ d6) (e7 _ _ key6), q' H7 (.refl _)⟩
        refine s_app1 nl eH6 l6 (ev_var rfl) gt (by rw [List.length_map]; omega) fun H7 e7 k7 h7 => ⟨e7, k7 _ _ ndl d6, ⟨cs' ++ [c], by rw [List.length_append, lc]; rfl, by rw [h7, List.map_append]; rfl, fun j c' hj => ?_⟩, _, _, rfl⟩
        by_cases hj2 : j < cs'.length
        · rw [List.getElem?_append_left hj2] at hj
          exact hcs j c' hj
        · rw [List.getElem?_append_right (by omega)] at hj
          have ej : j = i := by
            have := (List.getElem?_eq_some_iff.mp hj).1
            have : j - cs'.length < 1 := this
            omega
          subst ej
          rw [show j - cs'.length = 0 by omega] at hj
          have ec : c = c' := Option.some.inj hj
          rw [← ec]
          exact hv
    · rintro σ' G ⟨eG, hd, ⟨cs', lc, hl, hcs⟩, v, v2, rfl⟩
      rcases hor with ⟨zs, gz, rfl, q⟩ | ⟨bad, q⟩
      · rw [rowT_len] at hn
        have ecs : cs' = zs := by
          apply List.ext_getElem?
          intro j
          by_cases hj : j < n
          · obtain ⟨c, hc⟩ : ∃ c, cs'[j]? = some c := ⟨_, List.getElem?_eq_getElem (by omega)⟩
            have hz : zs[j]? = some (zs.getD j 0) := by rw [List.getD_eq_getElem?_getD, List.getElem?_eq_getElem (show j < zs.length by omega)]; rfl
            have ez := chunk_rowT zs [] (j := j) (by omega)
            rw [List.append_nil] at ez
            have hv := hcs j c hc
            rw [ez, tbl_good _ (gz _ (List.mem_of_getElem? hz))] at hv
            have e1 := V.str.inj (Option.some.inj hv)
            have e2 : (#[zs.getD j 0] : Array Nat) = #[c] := congrArg Str.cps e1
            have e3 : zs.getD j 0 = c := by simpa using e2
            rw [hc, hz, e3]
          · rw [List.getElem?_eq_none (by omega), List.getElem?_eq_none (by omega)]
        subst ecs
        refine s_retW ⟨⟨_, rfl⟩, _, rfl, Str.ofString "", l, cs'.map (fun c => (⟨#[c]⟩ : Str)), rfl, rfl, Or.inl (sq_of ?_), ?_, ?_⟩
        · rw [hl, List.map_map]
          rfl
        · have z : (Str.ofString "").length = 0 := by decide +kernel
          rw [z, ones_sum, List.length_map]
          rw [rowT_len] at lx
          omega
        · rw [join_ones_]
          exact q G eG
      · rcases bad with b | ⟨i, hi, hv⟩
        · omega
        · have hi' : i < cs'.length := by omega
          have := hcs i _ (List.getElem?_eq_getElem hi')
          rw [hv] at this
          cases this
/-! ## the law's own defs -/
theorem some_list : ((((" !\"#$&'()*+,-./0123456789:;<=>?@ABCDEFGHIJKLMNOPQRSTUVWXYZ[\\]^_`" : Str)) : Str) ++ ((("abcdefghijklmnopqrstuvwxyz{|}~" : Str)) : Str)).cps.toList = codes := by decide +kernel
def sp__law_letter_by : Sp := fun vs H Q _ => ∃ (n : Int), vs = [.int n] ∧ ∀ c, c ∈ codes → RetV (.str ⟨#[c]⟩) H Q
theorem has__law_letter_by (T : Txt K mg cs) : Has P w K mg base 1 "_law_letter_by" ["_law_number"] sp__law_letter_by := by
  refine T.d__law_letter_by.ok sc__law_letter_by (fun vs H Q E h => ?_) (fun f cdv A outer s H vs Q E hr h => ?_)
  · obtain ⟨n, rfl, _⟩ := h
    rfl
  · obtain ⟨n, rfl, q⟩ := h
    refine ⟨_, (pss_cons (ps_set (i := 1) sc__law_letter_by.nd rfl (Or.inl rfl) pe_str)
      (pss_cons (ps_set (i := 1) sc__law_letter_by.nd rfl (Or.inl rfl) (pe_op op_add_str (pv 1) pe_str))
      (pss_one (ps_ret (pe_ix ix_str (pv 1) (pe_op op_mod (pv 0) pe_int) (fun _ _ => rfl)))))), ?_⟩
    refine q_asg ev_c fun H1 e1 => ?_
    refine q_asg (ev_addS (ev_var rfl) ev_c (by decide +kernel)) fun H2 e2 => ?_
    have lt : (n % 94).toNat < 94 := by omega
    have hat : atI ((((" !\"#$&'()*+,-./0123456789:;<=>?@ABCDEFGHIJKLMNOPQRSTUVWXYZ[\\]^_`" : Str)) : Str) ++ ((("abcdefghijklmnopqrstuvwxyz{|}~" : Str)) : Str)).cps.toList (n % 94) = some (codes.getD (n % 94).toNat 0) := by
      rw [some_list, show n % 94 = (((n % 94).toNat : Nat) : Int) by omega]
      exact atI_nat (codes_at lt)
    exact s_ret (ev_op (ev_var rfl) (ev_mod (ev_var rfl) ev_c (by walk_at "cg ar")) (rv_ixS (by decide +kernel) hat)) fun H3 e3 => q _ (List.mem_of_getElem? (codes_at lt)) H3 ((e1.trans e2).trans e3)
def sp__law_seven : Sp := fun vs H Q _ => ∃ (n : Int), vs = [.int n] ∧ RetL (iv (sev n)) H Q
theorem has__law_seven (T : Txt K mg cs) : Has P w K mg base 1 "_law_seven" ["_law_number"] sp__law_seven := by
  refine T.d__law_seven.ok sc__law_seven (fun vs H Q E h => ?_) (fun f cdv A outer s H vs Q E hr h => ?_)
  · obtain ⟨n, rfl, _⟩ := h
    rfl
  · obtain ⟨n, rfl, q⟩ := h
    refine ⟨_, (pss_cons (ps_set (i := 1) sc__law_seven.nd rfl (Or.inl rfl) (pe_lst pa_nil))
      (pss_cons (ps_for (passes_of rfl) rfl (pi_range1 (by rfl) T.z_range (pa_cons pe_int pa_nil)) (pg_name (i := 2) sc__law_seven.nd rfl (Or.inl rfl)) (pss_cons (ps_set (i := 1) sc__law_seven.nd rfl (Or.inl rfl) (pe_op op_cat (pe_lst (pa_cons (pe_op op_mod (pv 0) pe_int) pa_nil)) (pv 1)))
      (pss_one (ps_set (i := 0) sc__law_seven.nd rfl (Or.inl rfl) (pe_op op_fdiv (pv 0) pe_int)))))
      (pss_one (ps_ret (pv 1))))), ?_⟩
    refine q_asgL el_nilI fun l H1 n1 e1 h1 => ?_
    refine q_forR1 (n := 7) (ea_one ev_c) (by decide) (fun i σ' G => Ex H G ∧ ∃ (l : Addr) (v : Option V), σ' = [some (.int (sevS i n).2), some (.ref l), v] ∧ H l = none ∧ G l = some (.lst (iv (sevS i n).1))) ?_ ?_ ?_
    · exact fun H2 e2 => ⟨e1.trans e2, l, none, rfl, n1, e2 _ _ h1⟩
    · rintro i σ' G hi ⟨eG, l, v, rfl, nl, hl⟩
      have L := (sevS_in n i).2
      refine q_asgL (el_catI (xs := [(sevS i n).2 % 2]) (ys := (sevS i n).1) (er_L (el_oneI (ev_mod (ev_var rfl) ev_c (by walk_at "cg ar")))) (er_var rfl hl) (by show 1 + _ ≤ _; omega)) fun l2 H2 n2 e2 h2 => ?_
      exact s_asg (ev_mod (ev_var rfl) ev_c (by walk_at "cg ar")) fun H3 e3 => ⟨(eG.trans e2).trans e3, l2, _, rfl, fresh_back eG n2, e3 _ _ h2⟩
    · rintro σ' G ⟨eG, l, v, rfl, nl, hl⟩
      exact s_ret (ev_var rfl) fun H2 e2 => q l H2 nl (eG.trans e2) (e2 _ _ hl)
theorem el_seven {E : XK} {σ : L2.St} {H : Hp} {te : TE} {n : Int} (h : Ev te σ H (.int n)) : EvL (tCall sp__law_seven [] E (tCons te tNil)) σ H (iv (sev n)) :=
  el_callP (eap_ev h eap_nil) (by
    rintro vs H1 e1 ⟨_, rfl, rfl⟩ Q q
    exact ⟨n, rfl, q⟩)
def sp__law_text_by : Sp := fun vs H Q _ => ∃ (c : Int) (n : Nat), vs = [.int c, .int (n : Int)] ∧ n ≤ 10000 ∧ ∀ zs, Good zs → zs.length = n → RetV (.str (strOf zs)) H Q
theorem has__law_text_by (T : Txt K mg cs) : Has P w K mg base 2 "_law_text_by" ["_law_cell", "_law_size"] sp__law_text_by := by
  refine T.d__law_text_by.ok sc__law_text_by (fun vs H Q E h => ?_) (fun f cdv A outer s H vs Q E hr h => ?_)
  · obtain ⟨c, n, rfl, _⟩ := h
    rfl
  · obtain ⟨c, n, rfl, ln, q⟩ := h
    refine ⟨_, (pss_cons (ps_set (i := 2) sc__law_text_by.nd rfl (Or.inl rfl) pe_str)
      (pss_cons (ps_set (i := 3) sc__law_text_by.nd rfl (Or.inl rfl) (pe_op op_mod (pv 0) pe_int))
      (pss_cons (ps_for (passes_of rfl) rfl (pi_range1 (by rfl) T.z_range (pa_cons (pv 1) pa_nil)) (pg_name (i := 4) sc__law_text_by.nd rfl (Or.inl rfl)) (pss_cons (ps_set (i := 3) sc__law_text_by.nd rfl (Or.inl rfl) (pe_op op_mod (pe_op op_add (pe_op op_mul (pv 3) pe_int) pe_int) pe_int))
      (pss_one (ps_set (i := 2) sc__law_text_by.nd rfl (Or.inl rfl) (pe_op op_add_str (pv 2) (pe_callH (has__law_letter_by T) (hr.mono (by decide)) passL (pa_cons (pe_op op_fdiv (pv 3) pe_int) pa_nil)))))))
      (pss_one (ps_ret (pv 2)))))), ?_⟩
    have em : (Str.ofString "") = strOf [] := by decide +kernel
    refine q_asg (v := .str (strOf [])) (ev_is ev_c (congrArg V.str em)) fun H1 e1 => ?_
    refine q_asg (by walk_at "cg ev") fun H2 e2 => ?_
    refine q_forR1 (n := (n : Int)) (ea_one (ev_var rfl)) (by omega) (fun i σ' G => Ex H G ∧ ∃ (zs : List Nat) (st : Int) (v : Option V), σ' = [some (.int c), some (.int (n : Int)), some (.str (strOf zs)), some (.int st), v] ∧ Good zs ∧ zs.length = i) ?_ ?_ ?_
    · exact fun H3 e3 => ⟨(e1.trans e2).trans e3, [], _, none, rfl, (fun d hd => nomatch hd), rfl⟩
    · rintro i σ' G hi ⟨eG, zs, st, v, rfl, gz, lz⟩
      refine q_asg (by walk_at "cg ev") fun H3 e3 => ?_
      refine s_asgW (op_go (ev_go (ev_var rfl) fun H4 e4 => call_go (ea_go (ea_one (ev_mod (ev_var rfl) ev_c (by walk_at "cg ar"))) fun H5 e5 => ⟨_, rfl, fun d hd H6 e6 => ⟨strOf zs, strOf [d], rfl, rfl, ?_, (((eG.trans e3).trans e4).trans e5).trans e6, zs ++ [d], (st * 48271 + 11) % 2147483647, some (.int (i : Int)), ?_, ?_, by rw [List.length_append, lz]; rfl⟩⟩)))
      · rw [strOf_len, strOf_len]
        exact sz_of (by show _ + 1 ≤ _; omega)
      · rw [strOf_add]
        rfl
      · intro x hx
        rcases List.mem_append.mp hx with z | z
        · exact gz x z
        · rw [List.mem_singleton] at z
          rw [z]
          exact hd
    · rintro σ' G ⟨eG, zs, st, v, rfl, gz, lz⟩
      exact s_ret (ev_var rfl) fun H3 e3 => q zs gz (by omega) H3 (eG.trans e3)
def wrd : Nat → Str
  | 0 => Str.empty
  | k + 1 => wrd k ++ ("n" : Str) ++ ("v" : Str)
theorem app_len (x y : Str) : (x ++ y).length = x.length + y.length := Array.size_append
theorem wrd_len : ∀ k, (wrd k).length = 2 * k
  | 0 => rfl
  | k + 1 => by
    have z1 : ("n" : Str).length = 1 := by decide +kernel
    have z2 : ("v" : Str).length = 1 := by decide +kernel
    show (wrd k ++ ("n" : Str) ++ ("v" : Str)).length = _
    rw [app_len, app_len, wrd_len k, z1, z2]
    omega
def Thing (K : PySem.W.Frag) (H : Hp) (v : V) (b : Bool) : Prop := (b = true ∧ ∃ (a : Addr) (xs : List Int), v = .ref a ∧ H a = some (.lst (iv xs)) ∧ Bits xs ∧ xs.length ≤ 20000 ∧ BadRow xs) ∨ (b = false ∧ ((∃ zs, v = .str (strOf zs) ∧ zs.length ≤ 10000 ∧ ¬ Good zs) ∨ NotStr K H v))
theorem Thing.mono {H H' : Hp} {v : V} {b : Bool} (h : Thing K H v b) (e : Ex H H') : Thing K H' v b := by
  rcases h with ⟨hb, a, xs, rfl, ha, r⟩ | ⟨hb, ⟨zs, r⟩ | ⟨t, k, ty, tm⟩⟩
  · exact .inl ⟨hb, a, xs, rfl, e _ _ ha, r⟩
  · exact .inr ⟨hb, .inl ⟨zs, r⟩⟩
  · exact .inr ⟨hb, .inr ⟨t, k, tm _ e, fun H1 e1 => tm _ (e.trans e1)⟩⟩
def sp__law_refused (K : PySem.W.Frag) : Sp := fun vs H Q _ => ∃ (v : V) (b : Bool), vs = [v, .bl b] ∧ Thing K H v b ∧ RetV (.bl true) H Q
theorem has__law_refused (T : Txt K mg cs) : Has P w K mg base 4 "_law_refused" ["_law_thing", "_law_reads"] (sp__law_refused K) := by
  refine T.d__law_refused.ok sc__law_refused (fun vs H Q E h => ?_) (fun f cdv A outer s H vs Q E hr h => ?_)
  · obtain ⟨v, b, rfl, _⟩ := h
    rfl
  · obtain ⟨v, b, rfl, hT, q⟩ := h
    refine ⟨_, (pss_cons (ps_set (i := 2) sc__law_refused.nd rfl (Or.inl rfl) pe_str)
      (pss_cons (ps_for (passes_of rfl) rfl (pi_range1 (by rfl) T.z_range (pa_cons pe_int pa_nil)) (pg_name (i := 3) sc__law_refused.nd rfl (Or.inl rfl)) (pss_one (ps_try_as (i := 4) rfl rfl sc__law_refused.nd rfl rfl ⟨rfl, by decide, .inl T.e_NoText.g⟩ takes0 (fun W pn xe tk pOwn => (pss_one (ps_if (pt_val (pv 1)) (pss_one (ps_expr (pe_callHS (has_text_of T) (hr.mono (by decide)) (fun σ => passAt tk σ) (pa_cons (pv 0) pa_nil)))) (pss_one (ps_expr (pe_callHS (has_row_of T) (hr.mono (by decide)) (fun σ => passAt tk σ) (pa_cons (pv 0) pa_nil))))))) (fun a oe cls d pn hz hf => (pss_one (ps_set (i := 2) sc__law_refused.nd rfl (Or.inl rfl) (pe_op op_add_str (pe_op op_add_str (pv 2) pe_str) (pe_op op_str01 pe_str (pe_callTy kk_int (by rfl) T.z_int b_int (pa_cons (pe_and (pe_callB (call_isX hz hf) (by rfl) T.z_isinstance b_isinstance (pa_cons (pv 4) (pa_cons (pe_glob (v := .ref cs.GateError) rfl T.e_GateError.g rfl) pa_nil))) (pe_one (pe_callB (call_isX hz hf) (by rfl) T.z_isinstance b_isinstance (pa_cons (pv 4) (pa_cons (pe_bltn (v := .ty "ValueError") (u := .type "ValueError") (by rfl) T.z_ValueError b_ValueError rfl) pa_nil))))) pa_nil))))))))))
      (pss_one (ps_ret (pe_cmpR op_eq (pv 2) pe_str (nomark _)))))), ?_⟩
    have em : (Str.ofString "") = wrd 0 := by decide +kernel
    refine q_asg (v := .str (wrd 0)) (ev_is ev_c (congrArg V.str em)) fun H1 e1 => ?_
    refine q_forR1 (n := 2) (ea_one ev_c) (by decide) (fun i σ' G => Ex H G ∧ ∃ (v2 : Option V), σ' = [some v, some (.bl b), some (.str (wrd i)), v2, none]) ?_ ?_ ?_
    · exact fun H2 e2 => ⟨e1.trans e2, none, rfl⟩
    · rintro i σ' G hi ⟨eG, v2, rfl⟩
      have ln1 : ∀ z : Str, z.length = 1 → (wrd i).length + z.length ≤ 100000 := fun z hz => by rw [wrd_len, hz]; omega
      have ln2 : ∀ z : Str, z.length = 1 → (wrd i ++ ("n" : Str)).length + z.length ≤ 100000 := fun z hz => by
        have z1 : ("n" : Str).length = 1 := by decide +kernel
        rw [app_len, wrd_len, hz, z1]
        omega
      refine s_if (b := b) (et_B (ev_var rfl)) (fun hb H2 e2 => ?_) (fun hb H2 e2 => ?_)
      · obtain ⟨a, xs, rfl, ha, bx, lx, bad⟩ : ∃ (a : Addr) (xs : List Int), v = .ref a ∧ H a = some (.lst (iv xs)) ∧ Bits xs ∧ xs.length ≤ 20000 ∧ BadRow xs := by
          rcases hT with ⟨_, h⟩ | ⟨h, _⟩
          · exact h
          · rw [hb] at h; cases h
        refine s_dropS (vs := [.ref a]) (by walk_at "cg ea") fun H3 e3 => ⟨a, xs, rfl, e3 _ _ (e2 _ _ (eG _ _ ha)), bx, lx, .inr ⟨bad, fun H4 e4 => ⟨true, T.e_NoText.exm T.p_NoText_NoText, fun _ z hz => ?_, fun h => nomatch h⟩⟩⟩
        refine s_asg (ev_addS (ev_addS (ev_var rfl) ev_c (ln1 _ (by decide +kernel))) (ev_str01 (b := true) ev_c (ev_intB (b := true) (ev_andV (ev_isC (ev_var rfl) T.e_NoText T.e_GateError T.p_NoText_GateError (fun h => nomatch h)) (fun _ => ev_one (ev_isV (ev_var rfl) T.e_NoText))))) (ln2 _ (by decide +kernel))) fun H5 e5 => ?_
        exact ⟨(((eG.trans e2).trans e3).trans e4).trans e5, _, rfl⟩
      · have hT' : (∃ zs, v = .str (strOf zs) ∧ zs.length ≤ 10000 ∧ ¬ Good zs) ∨ NotStr K H v := by
          rcases hT with ⟨h, _⟩ | ⟨_, h⟩
          · rw [hb] at h; cases h
          · exact h
        rcases hT' with ⟨zs, rfl, lz, nz⟩ | ⟨t, kt, ty, tm⟩
        · refine s_dropS (vs := [.str (strOf zs)]) (by walk_at "cg ea") fun H3 e3 => ⟨_, rfl, .inl ⟨zs, rfl, lz, fun g => absurd g nz, fun _ H4 e4 => ⟨true, T.e_NoText.exm T.p_NoText_NoText, fun _ z hz => ?_, fun h => nomatch h⟩⟩⟩
          refine s_asg (ev_addS (ev_addS (ev_var rfl) ev_c (ln1 _ (by decide +kernel))) (ev_str01 (b := true) ev_c (ev_intB (b := true) (ev_andV (ev_isC (ev_var rfl) T.e_NoText T.e_GateError T.p_NoText_GateError (fun h => nomatch h)) (fun _ => ev_one (ev_isV (ev_var rfl) T.e_NoText))))) (ln2 _ (by decide +kernel))) fun H5 e5 => ?_
          exact ⟨(((eG.trans e2).trans e3).trans e4).trans e5, _, rfl⟩
        · refine s_dropS (vs := [v]) (by walk_at "cg ea") fun H3 e3 => ⟨_, rfl, .inr ⟨⟨t, kt, tm _ ((eG.trans e2).trans e3), fun H1 e1 => tm _ (((eG.trans e2).trans e3).trans e1)⟩, fun H4 e4 => ⟨true, T.e_NoText.exm T.p_NoText_NoText, fun _ z hz => ?_, fun h => nomatch h⟩⟩⟩
          refine s_asg (ev_addS (ev_addS (ev_var rfl) ev_c (ln1 _ (by decide +kernel))) (ev_str01 (b := true) ev_c (ev_intB (b := true) (ev_andV (ev_isC (ev_var rfl) T.e_NoText T.e_GateError T.p_NoText_GateError (fun h => nomatch h)) (fun _ => ev_one (ev_isV (ev_var rfl) T.e_NoText))))) (ln2 _ (by decide +kernel))) fun H5 e5 => ?_
          exact ⟨(((eG.trans e2).trans e3).trans e4).trans e5, _, rfl⟩
    · rintro σ' G ⟨eG, v2, rfl⟩
      have z : wrd (Int.toNat 2) = ("nvnv" : Str) := by decide +kernel
      refine s_ret (ev_is (ev_eqS (ev_var rfl) ev_c rfl) ?_) fun H2 e2 => q H2 (eG.trans e2)
      rw [z]
      simp
theorem odd_bad {m : Nat} (h : m < 128) (hn : m ∉ codes) (cs : List Nat) (tl : List Int) : BadRow (rowT cs ++ sev ((m : Nat) : Int) ++ tl) := by
  by_cases hm : (rowT cs ++ sev ((m : Nat) : Int) ++ tl).length % 7 = 0
  · refine .inr ⟨cs.length, by rw [List.length_append, List.length_append, rowT_len, sev_len]; omega, ?_⟩
    have e : chunk (rowT cs ++ sev ((m : Nat) : Int) ++ tl) cs.length = sev ((m : Nat) : Int) := by
      unfold chunk
      rw [List.append_assoc, List.drop_append, List.drop_of_length_le (by rw [rowT_len]; exact Nat.le_refl _), rowT_len, Nat.sub_self, List.drop_zero, List.nil_append, List.take_append, sev_len, Nat.sub_self, List.take_zero, List.append_nil, List.take_of_length_le (by rw [sev_len]; exact Nat.le_refl _)]
    rw [e]
    exact odd_all m h hn
  · exact .inl hm
theorem good_take {zs : List Nat} (h : Good zs) (k : Nat) : Good (zs.take k) := fun c hc => h c (List.mem_of_mem_take hc)
def sp_law (K : PySem.W.Frag) : Sp := fun vs H Q _ => ∃ (a : Addr) (ns : List Int), vs = [.ref a] ∧ SqL K H a (iv ns) ∧ ns.length ≤ 63 ∧ ∀ H', Q (.bl true) H'
theorem ok_law {f : Addr} {fd : FuncData} (F : Fun K "law" "law" s_law f fd) (T : Txt K mg cs) : FnOk P w K mg base (L2.CX P w) 5 f fd ["_law_script"] (sp_law K) := by
  refine F.okX sc_law (fun vs H Q E h => ?_) (fun cdv A outer s H vs Q E hr h => ?_)
  · obtain ⟨a, ns, rfl, _⟩ := h
    rfl
  · obtain ⟨a, ns, rfl, hS, hlen, q⟩ := h
    refine ⟨_, (pss_cons (ps_set (i := 1) sc_law.nd rfl (Or.inl rfl) (pe_op op_mod (pe_callH (has__law_cell_at T) (hr.mono (by decide)) passL (pa_cons (pv 0) (pa_cons pe_int pa_nil))) pe_int))
      (pss_cut (ps_if (pt_cmpR op_lt (pe_op op_mod (pe_op op_fdiv (pe_callH (has__law_cell_at T) (hr.mono (by decide)) passL (pa_cons (pv 0) (pa_cons pe_int pa_nil))) pe_int) pe_int) pe_int (nomark _)) (pss_one (ps_set (i := 1) sc_law.nd rfl (Or.inl rfl) (pe_op op_mod (pe_op op_fdiv (pe_callH (has__law_cell_at T) (hr.mono (by decide)) passL (pa_cons (pv 0) (pa_cons pe_int pa_nil))) pe_int) pe_int))) pss_nil)
      (pss_cut (ps_if (pt_cmpR op_eqII (pe_op op_mod (pe_op op_fdiv (pe_callH (has__law_cell_at T) (hr.mono (by decide)) passL (pa_cons (pv 0) (pa_cons pe_int pa_nil))) pe_int) pe_int) pe_int (nomark _)) (pss_one (ps_set (i := 1) sc_law.nd rfl (Or.inl rfl) (pe_op op_mod (pe_op op_mul (pe_op op_fdiv (pe_callH (has__law_cell_at T) (hr.mono (by decide)) passL (pa_cons (pv 0) (pa_cons pe_int pa_nil))) pe_int) pe_int) pe_int))) pss_nil)
      (pss_cons (ps_set (i := 2) sc_law.nd rfl (Or.inl rfl) (pe_callH (has__law_text_by T) (hr.mono (by decide)) passL (pa_cons (pe_callH (has__law_cell_at T) (hr.mono (by decide)) passL (pa_cons (pv 0) (pa_cons pe_int pa_nil))) (pa_cons (pv 1) pa_nil))))
      (pss_cons (ps_set (i := 3) sc_law.nd rfl (Or.inl rfl) (pe_lst pa_nil))
      (pss_cons (ps_for (passes_of rfl) rfl (pi_str (pv 2)) (pg_name (i := 4) sc_law.nd rfl (Or.inl rfl)) (pss_one (ps_expr (pe_bm PySem.F.plainAttrs_list PySem.F.slot_list_extend PySem.F.type_list_extend mt_extend (pv 3) (pa_cons (pe_callH (has__law_seven T) (hr.mono (by decide)) passL (pa_cons (pe_callB call_ord (by rfl) T.z_ord b_ord (pa_cons (pv 4) pa_nil)) pa_nil)) pa_nil)))))
      (pss_cons (ps_set (i := 5) sc_law.nd rfl (Or.inl rfl) (pe_op op_mod (pe_callH (has__law_cell_at T) (hr.mono (by decide)) passL (pa_cons (pv 0) (pa_cons pe_int pa_nil))) pe_int))
      (pss_cons (ps_set (i := 6) sc_law.nd rfl (Or.inl rfl) (pe_op op_mod (pe_callH (has__law_cell_at T) (hr.mono (by decide)) passL (pa_cons (pv 0) (pa_cons pe_int pa_nil))) (pe_op op_add (pv 1) pe_int)))
      (pss_cons (ps_set (i := 7) sc_law.nd rfl (Or.inl rfl) (pe_callH (has__law_cell_at T) (hr.mono (by decide)) passL (pa_cons (pv 0) (pa_cons pe_int pa_nil))))
      (pss_cons (ps_if (pt_cmpR op_eqII (pv 5) pe_int (nomark _)) (pss_one (ps_ret (pe_callH (has__law_refused T) (hr.mono (by decide)) passL (pa_cons (pe_op op_add_str (pe_op op_add_str (pe_slice sl_str (pv 2) po_none (po_some (pv 6))) (pe_ix (kk_ixl K) (pe_lst (pa_cons pe_str (pa_cons pe_str pa_nil))) (pe_op op_mod (pv 7) pe_int) (fun _ _ => rfl))) (pe_slice sl_str (pv 2) (po_some (pv 6)) po_none)) (pa_cons pe_bl pa_nil))))) pss_nil)
      (pss_cons (ps_if (pt_cmpR op_eqII (pv 5) pe_int (nomark _)) (pss_one (ps_ret (pe_callH (has__law_refused T) (hr.mono (by decide)) passL (pa_cons (pe_ix (kk_ixl K) (pe_lst (pa_cons pe_non (pa_cons pe_int (pa_cons (pe_lst pa_nil) (pa_cons (pe_lst (pa_cons (pv 2) pa_nil)) (pa_cons (pe_tup (pa_cons (pv 2) (pa_cons pe_str pa_nil))) (pa_cons pe_bl pa_nil))))))) (pe_op op_mod (pv 7) pe_int) (fun _ _ => rfl)) (pa_cons pe_bl pa_nil))))) pss_nil)
      (pss_cons (ps_if (PW.pt (pw_and (pt_cmpR op_eqII (pv 5) pe_int (nomark _)) (pw_and1 (pt_cmpR op_eqII (pe_op op_mod (pe_op op_fdiv (pv 7) pe_int) pe_int) pe_int (nomark _))))) (pss_one (ps_ret (pe_callH (has__law_refused T) (hr.mono (by decide)) passL (pa_cons (pe_op op_cat (pv 3) (pe_slice (kk_sl K) (pe_callH (has__law_seven T) (hr.mono (by decide)) passL (pa_cons (pe_op op_add pe_int (pe_op op_mod (pe_op op_fdiv (pv 7) pe_int) pe_int)) pa_nil)) (po_some pe_int) po_none)) (pa_cons pe_bl pa_nil))))) pss_nil)
      (pss_cons (ps_if (pt_cmpR op_eqII (pv 5) pe_int (nomark _)) (pss_one (ps_ret (pe_callH (has__law_refused T) (hr.mono (by decide)) passL (pa_cons (pe_op op_cat (pe_op op_cat (pe_slice (kk_sl K) (pv 3) po_none (po_some (pv 6))) (pe_op op_rep (pe_lst (pa_cons (pe_op op_mod (pe_op op_fdiv (pv 7) pe_int) pe_int) pa_nil)) (pe_op op_add pe_int (pe_op op_mod (pv 7) pe_int)))) (pe_slice (kk_sl K) (pv 3) (po_some (pv 6)) po_none)) (pa_cons pe_bl pa_nil))))) pss_nil)
      (pss_cons (ps_if (pt_cmpR op_eqII (pv 5) pe_int (nomark _)) (pss_cons (ps_set (i := 8) sc_law.nd rfl (Or.inl rfl) (pe_ix (kk_ixl K) (pe_lst (pa_cons pe_int (pa_cons pe_int (pa_cons (pe_op op_mod (pe_op op_fdiv (pv 7) pe_int) pe_int) (pa_cons (pe_op op_mod (pe_op op_fdiv (pv 7) pe_int) pe_int) pa_nil))))) (pe_op op_mod (pv 7) pe_int) (fun _ _ => rfl)))
      (pss_one (ps_ret (pe_callH (has__law_refused T) (hr.mono (by decide)) passL (pa_cons (pe_op op_cat (pe_op op_cat (pe_slice (kk_sl K) (pv 3) po_none (po_some (pe_op op_mul pe_int (pv 6)))) (pe_callH (has__law_seven T) (hr.mono (by decide)) passL (pa_cons (pv 8) pa_nil))) (pe_slice (kk_sl K) (pv 3) (po_some (pe_op op_mul pe_int (pv 6))) po_none)) (pa_cons pe_bl pa_nil)))))) pss_nil)
      (pss_cons (ps_set (i := 9) sc_law.nd rfl (Or.inl rfl) (pe_callH (has_row_of T) (hr.mono (by decide)) passL (pa_cons (pv 2) pa_nil)))
      (pss_cons (ps_if (PW.pt (pw_or (pt_not (pt_val (pe_callH (has__law_is_row T) (hr.mono (by decide)) passL (pa_cons (pv 9) (pa_cons (pe_op op_mul pe_int (pv 1)) pa_nil))))) (pw_or1 (pt_cmpR (kk_neD K hr.units) (pv 9) (pv 3) (nomark _))))) (pss_one (ps_ret pe_bl)) pss_nil)
      (pss_cons (ps_set (i := 10) sc_law.nd rfl (Or.inl rfl) (pe_callTy (kk_list K) (by rfl) T.z_list b_list (pa_cons (pv 3) pa_nil)))
      (pss_cons (ps_set (i := 11) sc_law.nd rfl (Or.inl rfl) (pe_callH (has_text_of T) (hr.mono (by decide)) passL (pa_cons (pv 10) pa_nil)))
      (pss_one (ps_ret (pe_and (pe_callB (kk_isi K) (by rfl) T.z_isinstance b_isinstance (pa_cons (pv 11) (pa_cons (pe_bltn (v := .ty "str") (u := .type "str") (by rfl) T.z_str b_str rfl) pa_nil))) (pe_and (pe_cmpR op_eq (pv 11) (pv 2) (nomark _)) (pe_one (pe_cmpR (kk_eqD K hr.units) (pv 10) (pv 3) (nomark _))))))))))))))))))))))))), ?_⟩
    refine q_asg (by walk_at "cg ev") fun H1 e1 => ?_
    have hS1 := ex_l e1 hS
    refine q_cut (M := fun σ' H' => ∃ sz : Int, σ' = [some (.ref a), some (.int sz), none, none, none, none, none, none, none, none, none, none] ∧ 0 ≤ sz ∧ sz ≤ 600 ∧ Ex H1 H') ?_ ?_
    · refine s_when (et_test (ev_i0 (ev_mod (ev_mod (ev_cell (ev_var rfl) ev_c hS1 (by decide)) ev_c (by walk_at "cg ar")) ev_c (by walk_at "cg ar")) ev_c)) (fun _ H2 e2 => ?_) (fun _ H2 e2 => ⟨_, rfl, by omega, by omega, e2⟩)
      exact s_asg (ev_mod (ev_mod (ev_cell (ev_var rfl) ev_c (ex_l e2 hS1) (by decide)) ev_c (by walk_at "cg ar")) ev_c (by walk_at "cg ar")) fun H3 e3 => ⟨_, rfl, by omega, by omega, e2.trans e3⟩
    rintro σ' H2 ⟨sz, rfl, s0, s1, e2⟩
    have hS2 := ex_l e2 hS1
    refine q_cut (M := fun σ' H' => ∃ n : Nat, σ' = [some (.ref a), some (.int (n : Int)), none, none, none, none, none, none, none, none, none, none] ∧ n ≤ 600 ∧ Ex H2 H') ?_ ?_
    · refine s_when (et_test (ev_i0 (ev_mod (ev_mod (ev_cell (ev_var rfl) ev_c hS2 (by decide)) ev_c (by walk_at "cg ar")) ev_c (by walk_at "cg ar")) ev_c)) (fun _ H3 e3 => ?_) (fun _ H3 e3 => ⟨sz.toNat, by rw [Int.toNat_of_nonneg s0], by omega, e3⟩)
      exact s_asg (v := .int (((cellV ns 0 / 156 * 48271 % 601).toNat : Nat) : Int)) (ev_is (ev_mod (ev_mod (ev_mod (ev_cell (ev_var rfl) ev_c (ex_l e3 hS2) (by decide)) ev_c (by walk_at "cg ar")) ev_c (by walk_at "cg ar")) ev_c (by walk_at "cg ar")) (congrArg V.int (by omega))) fun H4 e4 => ⟨_, rfl, by omega, e3.trans e4⟩
    rintro σ' H3 ⟨n, rfl, hn, e3⟩
    have hS3 := ex_l e3 hS2
    clear e1 e2 e3 hS hS1 hS2 s0 s1 sz
    refine q_asgC (ea_two (ev_cell (ev_var rfl) ev_c hS3 (by decide)) (ev_var rfl)) fun H4 e4 => ⟨_, _, rfl, by omega, fun zs gz lz H5 e5 => ?_⟩
    subst lz
    have hS5 := ex_l e5 (ex_l e4 hS3)
    clear e4 e5 hS3
    refine q_asgL el_nilI fun l H6 n6 e6 h6 => ?_
    refine q_forS (z := strOf zs) (ev_var rfl) (fun i σ' G => Ex H5 G ∧ G l = some (.lst (iv (rowT (zs.take i)))) ∧ ∃ v, σ' = [some (.ref a), some (.int (zs.length : Int)), some (.str (strOf zs)), some (.ref l), v, none, none, none, none, none, none, none]) (fun H7 e7 => ⟨e6.trans e7, e7 _ _ h6, none, rfl⟩) ?_ ?_
    · rintro i c σ' G hc ⟨eG, hl, v, rfl⟩
      rw [strOf_at] at hc
      have tk : zs.take (i + 1) = zs.take i ++ [c] := by rw [List.take_add_one, hc]; rfl
      have li := (List.getElem?_eq_some_iff.mp hc).1
      refine s_extI n6 eG hl (ev_var rfl) (el_seven (ev_ord (ev_var rfl))) (by rw [rowT_len, sev_len, List.length_take]; omega) fun H7 e7 h7 => ⟨e7, ?_, _, rfl⟩
      rw [h7, tk, rowT_snoc]
    rintro σ' H7 ⟨e7, h7, v4, rfl⟩
    have sz : (strOf zs).cps.size = zs.length := strOf_len zs
    rw [sz, List.take_length] at h7
    have hS7 := ex_l e7 hS5
    clear e6 h6 n6 e7 hS5
    refine q_asg (by walk_at "cg ev") fun H8 e8 => ?_
    obtain ⟨k, ek, lk⟩ := mod_place (cellV ns 3) (Nat.succ_pos zs.length)
    refine q_asg (v := .int (k : Int)) (ev_is (ev_mod (ev_cell (ev_var rfl) ev_c (ex_l e8 hS7) (by decide)) (ev_i0 (ev_var rfl) ev_c) (by show (0 : Int) < _; omega)) (congrArg V.int (by rw [← ek]; congr 1))) fun H9 e9 => ?_
    refine q_asg (ev_cell (ev_var rfl) ev_c (ex_l (e8.trans e9) hS7) (by decide)) fun H10 e10 => ?_
    have h10 := e10 _ _ (e9 _ _ (e8 _ _ h7))
    clear e8 e9 e10 h7 hS7 ek
    generalize cellV ns 4 = mo
    generalize cellV ns 2 % 12 = way
    have lk' : k ≤ zs.length := by omega
    have lR := rowT_len zs
    have bR := rowT_bits zs
    have ref : ∀ {te : TE} {σ : L2.St} {G : Hp} {b : Bool} {E : XK} {D : Ends}, EvP te σ G (fun v G' => Thing K G' v b) → D.rt = Q → tRet (tCall (sp__law_refused K) [] E (tCons te (tCons (tC (.bl b)) tNil))) D σ G := fun {te σ G b E D} h rt => by
      refine s_retP (eap_p h (fun v H1 H2 e t => t.mono e) (eap_ev ev_c eap_nil)) ?_
      rintro vs G1 e1 ⟨v, _, rfl, hT, _, rfl, rfl⟩
      exact ⟨v, b, rfl, hT, fun G2 _ => by rw [rt]; exact q G2⟩
    have refL : ∀ {te : TE} {σ : L2.St} {G : Hp} {E : XK} {D : Ends} {xs : List Int}, EvL te σ G (iv xs) → Bits xs → xs.length ≤ 20000 → BadRow xs → D.rt = Q → tRet (tCall (sp__law_refused K) [] E (tCons te (tCons (tC (.bl true)) tNil))) D σ G := fun {te σ G E D xs} h bx lx bad rt =>
      ref (fun H1 e Q' q' => h H1 e _ fun p H2 _ e2 h2 => q' _ H2 e2 (.inl ⟨rfl, p, xs, rfl, h2, bx, lx, bad⟩)) rt
    refine q_when (et_test (ev_i0 (ev_var rfl) ev_c)) (fun _ H11 e11 => ?_) (fun _ H11 e11 => ?_)
    · obtain ⟨c, nc, hat⟩ : ∃ c : Nat, c ∉ codes ∧ atI ([.str (Str.ofString "\n"), .str (Str.ofString "\t")] : List V) (mo % 2) = some (.str (strOf [c])) := by
        rcases (show mo % 2 = 0 ∨ mo % 2 = 1 by omega) with h | h <;> rw [h]
        · exact ⟨10, by decide +kernel, by decide +kernel⟩
        · exact ⟨9, by decide +kernel, by decide +kernel⟩
      refine ref (ep_of (v := .str (strOf (zs.take k) ++ strOf [c] ++ strOf (zs.drop k))) (ev_addS (ev_addS (ev_is (ev_slS (ev_var rfl) eo_none (eo_some (ev_var rfl)) (by rw [strOf_len]; omega)) (congrArg V.str (cut_to zs k lk'))) (ev_ixR (er_L (el_lst (ea_two ev_c ev_c) (by show 2 ≤ 100000; decide))) (ev_mod (ev_var rfl) ev_c (by walk_at "cg ar")) hat) (by rw [strOf_len, strOf_len, List.length_take]; show _ + 1 ≤ _; omega)) (ev_is (ev_slS (ev_var rfl) (eo_some (ev_var rfl)) eo_none (by rw [strOf_len]; omega)) (congrArg V.str (cut_from zs k lk'))) (by rw [strOf_add, strOf_len, strOf_len, List.length_append, List.length_take, List.length_drop]; show _ + 1 + _ ≤ _; omega)) fun H1 _ => .inr ⟨rfl, .inl ⟨zs.take k ++ [c] ++ zs.drop k, ?_, ?_, fun g => nc (g c ?_)⟩⟩) rfl
      · rw [strOf_add, strOf_add]
      · rw [List.length_append, List.length_append, List.length_take, List.length_drop]
        show _ + 1 + _ ≤ _
        omega
      · exact List.mem_append_left _ (List.mem_append_right _ List.mem_cons_self)
    refine q_when (et_test (ev_i0 (ev_var rfl) ev_c)) (fun _ H12 e12 => ?_) (fun _ H12 e12 => ?_)
    · refine ref (ep_pick (eap_ev ev_c (eap_ev ev_c (eap_er (er_L el_nilI) (eap_er (er_L (el_lst (ea_one (ev_var rfl)) (by show 1 ≤ 100000; decide))) (eap_tup2 (ev_var rfl) ev_c (eap_ev ev_c eap_nil)))))) (ev_mod (ev_var rfl) ev_c (by walk_at "cg ar")) (by omega) ?_) rfl
      rintro vs G1 ⟨_, rfl, _, rfl, p1, _, rfl, hp1, p2, _, rfl, hp2, t, _, rfl, ht, _, rfl, rfl⟩
      have lt : (mo % 6).toNat < 6 := by omega
      refine ⟨by show 6 ≤ _; decide, lt, fun v hv H2 e2 => .inr ⟨rfl, .inr ?_⟩⟩
      generalize (mo % 6).toNat = j at hv lt
      match j, hv with
      | 0, hv => cases hv; exact ⟨"NoneType", kit_NoneType_str, .base .non, fun _ _ => .base .non⟩
      | 1, hv => cases hv; exact ⟨"int", kit_int_str, .base (.int _), fun _ _ => .base (.int _)⟩
      | 2, hv => cases hv; exact ⟨"list", kit_list_str, .base (.lst (e2 _ _ hp1)), fun _ e => .base (.lst (e _ _ (e2 _ _ hp1)))⟩
      | 3, hv => cases hv; exact ⟨"list", kit_list_str, .base (.lst (e2 _ _ hp2)), fun _ e => .base (.lst (e _ _ (e2 _ _ hp2)))⟩
      | 4, hv => cases hv; exact ⟨"tuple", kit_tuple_str, .base (.tup (e2 _ _ ht)), fun _ e => .base (.tup (e _ _ (e2 _ _ ht)))⟩
      | 5, hv => cases hv; exact ⟨"bool", kit_bool_str, .base (.bl _), fun _ _ => .base (.bl _)⟩
    have h12 := e12 _ _ (e11 _ _ h10)
    clear e11 e12 h10
    refine q_when (et_and (et_test (ev_i0 (ev_var rfl) ev_c)) (fun _ => et_test (ev_i0 (ev_mod (ev_mod (ev_var rfl) ev_c (by walk_at "cg ar")) ev_c (by walk_at "cg ar")) ev_c))) (fun _ H13 e13 => ?_) (fun _ H13 e13 => ?_)
    · refine refL (xs := rowT zs ++ (sev (38 + mo / 24 % 26)).drop (1 : Int).toNat) (el_catI (er_var rfl (e13 _ _ h12)) (er_L (el_slFromI (n := 1) (er_L (el_seven (ev_i0 ev_c (ev_mod (ev_mod (ev_var rfl) ev_c (by walk_at "cg ar")) ev_c (by walk_at "cg ar"))))) ev_c (by decide))) (by rw [List.length_drop, sev_len]; omega)) (bR.append ((sev_bits _).drop _)) (by rw [List.length_append, List.length_drop, sev_len]; omega) (.inl ?_) rfl
      rw [List.length_append, List.length_drop, sev_len]
      show (_ + (7 - 1)) % 7 ≠ 0
      omega
    refine q_when (et_test (ev_i0 (ev_var rfl) ev_c)) (fun _ H14 e14 => ?_) (fun _ H14 e14 => ?_)
    · have hk : ((k : Int)).toNat = k := Int.toNat_natCast k
      refine refL (xs := (rowT zs).take (k : Int).toNat ++ List.replicate (1 + mo % 6).toNat (mo / 6 % 2) ++ (rowT zs).drop (k : Int).toNat) (el_catI (er_L (el_catI (er_L (el_slToI (er_var rfl (e14 _ _ (e13 _ _ h12))) (ev_var rfl) (by omega))) (er_L (el_repI (ev_mod (ev_mod (ev_var rfl) ev_c (by walk_at "cg ar")) ev_c (by walk_at "cg ar")) (ev_i0 ev_c (ev_mod (ev_var rfl) ev_c (by walk_at "cg ar"))) (by omega))) (by rw [List.length_take, List.length_replicate]; omega))) (er_L (el_slFromI (er_var rfl (e14 _ _ (e13 _ _ h12))) (ev_var rfl) (by omega))) (by rw [List.length_append, List.length_take, List.length_replicate, List.length_drop]; omega)) (((bR.take _).append (.rep _ (bit_mod _))).append (bR.drop _)) (by rw [List.length_append, List.length_append, List.length_take, List.length_replicate, List.length_drop]; omega) (.inl ?_) rfl
      rw [List.length_append, List.length_append, List.length_take, List.length_replicate, List.length_drop, hk]
      omega
    have h14 := e14 _ _ (e13 _ _ h12)
    clear e13 e14 h12
    refine q_when (et_test (ev_i0 (ev_var rfl) ev_c)) (fun _ H15 e15 => ?_) (fun _ H15 e15 => ?_)
    · obtain ⟨m, lm, nm, hat⟩ : ∃ m : Nat, m < 128 ∧ m ∉ codes ∧ atI ([.int 37, .int 127, .int (mo / 4 % 32), .int (mo / 4 % 32)] : List V) (mo % 4) = some (.int (m : Int)) := by
        have small : ∀ m : Nat, m < 32 → m ∉ codes := by decide +kernel
        have em : mo / 4 % 32 = (((mo / 4 % 32).toNat : Nat) : Int) := by omega
        rcases (show mo % 4 = 0 ∨ mo % 4 = 1 ∨ mo % 4 = 2 ∨ mo % 4 = 3 by omega) with h | h | h | h <;> rw [h]
        · exact ⟨37, by decide, by decide +kernel, rfl⟩
        · exact ⟨127, by decide, by decide +kernel, rfl⟩
        · exact ⟨(mo / 4 % 32).toNat, by omega, small _ (by omega), by rw [← em]; rfl⟩
        · exact ⟨(mo / 4 % 32).toNat, by omega, small _ (by omega), by rw [← em]; rfl⟩
      refine q_asg (ev_ixR (er_L (el_lst (ea_cons ev_c (ea_cons ev_c (ea_two (ev_mod (ev_mod (ev_var rfl) ev_c (by walk_at "cg ar")) ev_c (by walk_at "cg ar")) (ev_mod (ev_mod (ev_var rfl) ev_c (by walk_at "cg ar")) ev_c (by walk_at "cg ar"))))) (by show 4 ≤ 100000; decide))) (ev_mod (ev_var rfl) ev_c (by walk_at "cg ar")) hat) fun H16 e16 => ?_
      have hk : ((7 : Int) * (k : Int)).toNat = 7 * k := by omega
      have h16 := e16 _ _ (e15 _ _ h14)
      refine refL (xs := (rowT zs).take ((7 : Int) * (k : Int)).toNat ++ sev ((m : Nat) : Int) ++ (rowT zs).drop ((7 : Int) * (k : Int)).toNat) (el_catI (er_L (el_catI (er_L (el_slToI (er_var rfl h16) (ev_mod ev_c (ev_var rfl) (.inl ⟨by decide, by decide⟩)) (by omega))) (er_L (el_seven (ev_var rfl))) (by rw [List.length_take, sev_len]; omega))) (er_L (el_slFromI (er_var rfl h16) (ev_mod ev_c (ev_var rfl) (.inl ⟨by decide, by decide⟩)) (by omega))) (by rw [List.length_append, List.length_take, sev_len, List.length_drop]; omega)) (((bR.take _).append (sev_bits _)).append (bR.drop _)) (by rw [List.length_append, List.length_append, List.length_take, sev_len, List.length_drop]; omega) ?_ rfl
      rw [hk, rowT_take]
      exact odd_bad lm nm _ _
    have h15 := e15 _ _ h14
    clear e15 h14
    refine q_asgL (xs := iv (rowT zs)) (el_callP (eap_ev (ev_var rfl) eap_nil) (by
      rintro vs G1 e1 ⟨_, rfl, rfl⟩ Q' q'
      exact ⟨_, rfl, .inl ⟨zs, rfl, by omega, fun _ => q', fun n => absurd gz n⟩⟩)) fun pf H16 n16 e16 h16 => ?_
    have d16 := e16 _ _ h15
    refine q_when (b := false) (et_is (et_or (a := false) (et_is (et_not (et_B (et_is_row (ns := rowT zs) (er_var rfl h16) (ev_is (ev_mod ev_c (ev_var rfl) (.inl ⟨by decide, by decide⟩)) (congrArg V.int (by rw [lR]; omega))) bR (by omega)))) rfl) (fun _ => et_test (ev_neR (xs := rowT zs) (ys := rowT zs) (er_var rfl h16) (er_var rfl d16)))) (by simp)) (fun h => nomatch h) (fun _ H17 e17 => ?_)
    refine q_asgL (el_listR (xs := iv (rowT zs)) (er_var rfl (e17 _ _ d16))) fun ph H18 n18 e18 h18 => ?_
    refine q_asg (v := .str (strOf zs)) (ev_call (vs := [.ref ph]) (ea_one (ev_var rfl)) fun H1 e1 Q' q' _ => ⟨ph, rowT zs, rfl, e1 _ _ h18, bR, by omega, .inl ⟨zs, gz, rfl, q'⟩⟩) fun H19 e19 => ?_
    refine s_ret (ev_is (ev_andV (a := true) (ev_isiF (ev_var rfl) rfl kit_str_str) (fun _ => ev_andV (a := true) (ev_is (ev_eqS (ev_var rfl) (ev_var rfl) rfl) (by simp)) (fun _ => ev_one (ev_eqR (xs := rowT zs) (ys := rowT zs) (er_var rfl (e19 _ _ h18)) (er_var rfl (e19 _ _ (e18 _ _ (e17 _ _ d16)))))))) (by simp)) fun H20 _ => q H20


end
theorem all_mk {l : PySem.W.OpenLaw} {w : World} {K : PySem.W.Frag} {h : Heap} {mg : Str → Option Value} {fa f0 f1 f2 f3 f4 f5 f6 f7 f8 f9 f10 f11 f12 x0 x1 x2 : Addr} (X : K.In h) (G : h.Ns mainGlobals mg) (hfa : mg "law" = some (.ref fa))
    {od0 an0 od1 an1 od2 an2 od3 an3 od4 an4 od5 an5 od6 an6 od7 an7 od8 an8 od9 an9 od10 an10 od11 an11 od12 an12 : Option Addr} {sl0 sl1 sl2 sl3 sl4 sl5 sl6 sl7 sl8 sl9 sl10 sl11 sl12 : Array (Option Value)} {oc0 kV0 dc0 pm0 cd0 ct0 oc1 kV1 dc1 pm1 cd1 ct1 oc2 kV2 dc2 pm2 cd2 ct2 oc3 kV3 dc3 pm3 cd3 ct3 oc4 kV4 dc4 pm4 cd4 ct4 oc5 kV5 dc5 pm5 cd5 ct5 oc6 kV6 dc6 pm6 cd6 ct6 oc7 kV7 dc7 pm7 cd7 ct7 oc8 kV8 dc8 pm8 cd8 ct8 oc9 kV9 dc9 pm9 cd9 ct9 oc10 kV10 dc10 pm10 cd10 ct10 oc11 kV11 dc11 pm11 cd11 ct11 oc12 kV12 dc12 pm12 cd12 ct12 : Value} {tk0 tk1 : Tok}
    (a0 : PySem.W.nsIn K mainGlobals "is_sign" = some (some (.ref f0))) (l0 : K.lookup f0 = some ⟨oc0, od0, .func (PySem.W.fnOf "is_sign" "is_sign" (defArgs s_is_sign) (defBody s_is_sign) (defScope s_is_sign) .none kV0 dc0 pm0 an0 cd0 ct0), sl0⟩) (c0 : PySem.W.codeIn K cd0 "is_sign" = true) (k0 : PySem.W.keepIn K (.ref f0) = true)
    (a1 : PySem.W.nsIn K mainGlobals "need_row" = some (some (.ref f1))) (l1 : K.lookup f1 = some ⟨oc1, od1, .func (PySem.W.fnOf "need_row" "need_row" (defArgs s_need_row) (defBody s_need_row) (defScope s_need_row) .none kV1 dc1 pm1 an1 cd1 ct1), sl1⟩) (c1 : PySem.W.codeIn K cd1 "need_row" = true) (k1 : PySem.W.keepIn K (.ref f1) = true)
    (a2 : PySem.W.nsIn K mainGlobals "signs_of" = some (some (.ref f2))) (l2 : K.lookup f2 = some ⟨oc2, od2, .func (PySem.W.fnOf "signs_of" "signs_of" (defArgs s_signs_of) (defBody s_signs_of) (defScope s_signs_of) .none kV2 dc2 pm2 an2 cd2 ct2), sl2⟩) (c2 : PySem.W.codeIn K cd2 "signs_of" = true) (k2 : PySem.W.keepIn K (.ref f2) = true)
    (a3 : PySem.W.nsIn K mainGlobals "letters_by_signs" = some (some (.ref f3))) (l3 : K.lookup f3 = some ⟨oc3, od3, .func (PySem.W.fnOf "letters_by_signs" "letters_by_signs" (defArgs s_letters_by_signs) (defBody s_letters_by_signs) (defScope s_letters_by_signs) .none kV3 dc3 pm3 an3 cd3 ct3), sl3⟩) (c3 : PySem.W.codeIn K cd3 "letters_by_signs" = true) (k3 : PySem.W.keepIn K (.ref f3) = true)
    (a4 : PySem.W.nsIn K mainGlobals "row_of" = some (some (.ref f4))) (l4 : K.lookup f4 = some ⟨oc4, od4, .func (PySem.W.fnOf "row_of" "row_of" (defArgs s_row_of) (defBody s_row_of) (defScope s_row_of) .none kV4 dc4 pm4 an4 cd4 ct4), sl4⟩) (c4 : PySem.W.codeIn K cd4 "row_of" = true) (k4 : PySem.W.keepIn K (.ref f4) = true)
    (a5 : PySem.W.nsIn K mainGlobals "text_of" = some (some (.ref f5))) (l5 : K.lookup f5 = some ⟨oc5, od5, .func (PySem.W.fnOf "text_of" "text_of" (defArgs s_text_of) (defBody s_text_of) (defScope s_text_of) .none kV5 dc5 pm5 an5 cd5 ct5), sl5⟩) (c5 : PySem.W.codeIn K cd5 "text_of" = true) (k5 : PySem.W.keepIn K (.ref f5) = true)
    (a6 : PySem.W.nsIn K mainGlobals "_law_cell_at" = some (some (.ref f6))) (l6 : K.lookup f6 = some ⟨oc6, od6, .func (PySem.W.fnOf "_law_cell_at" "_law_cell_at" (defArgs s__law_cell_at) (defBody s__law_cell_at) (defScope s__law_cell_at) .none kV6 dc6 pm6 an6 cd6 ct6), sl6⟩) (c6 : PySem.W.codeIn K cd6 "_law_cell_at" = true) (k6 : PySem.W.keepIn K (.ref f6) = true)
    (a7 : PySem.W.nsIn K mainGlobals "_law_is_row" = some (some (.ref f7))) (l7 : K.lookup f7 = some ⟨oc7, od7, .func (PySem.W.fnOf "_law_is_row" "_law_is_row" (defArgs s__law_is_row) (defBody s__law_is_row) (defScope s__law_is_row) .none kV7 dc7 pm7 an7 cd7 ct7), sl7⟩) (c7 : PySem.W.codeIn K cd7 "_law_is_row" = true) (k7 : PySem.W.keepIn K (.ref f7) = true)
    (a8 : PySem.W.nsIn K mainGlobals "_law_letter_by" = some (some (.ref f8))) (l8 : K.lookup f8 = some ⟨oc8, od8, .func (PySem.W.fnOf "_law_letter_by" "_law_letter_by" (defArgs s__law_letter_by) (defBody s__law_letter_by) (defScope s__law_letter_by) .none kV8 dc8 pm8 an8 cd8 ct8), sl8⟩) (c8 : PySem.W.codeIn K cd8 "_law_letter_by" = true) (k8 : PySem.W.keepIn K (.ref f8) = true)
    (a9 : PySem.W.nsIn K mainGlobals "_law_seven" = some (some (.ref f9))) (l9 : K.lookup f9 = some ⟨oc9, od9, .func (PySem.W.fnOf "_law_seven" "_law_seven" (defArgs s__law_seven) (defBody s__law_seven) (defScope s__law_seven) .none kV9 dc9 pm9 an9 cd9 ct9), sl9⟩) (c9 : PySem.W.codeIn K cd9 "_law_seven" = true) (k9 : PySem.W.keepIn K (.ref f9) = true)
    (a10 : PySem.W.nsIn K mainGlobals "_law_text_by" = some (some (.ref f10))) (l10 : K.lookup f10 = some ⟨oc10, od10, .func (PySem.W.fnOf "_law_text_by" "_law_text_by" (defArgs s__law_text_by) (defBody s__law_text_by) (defScope s__law_text_by) .none kV10 dc10 pm10 an10 cd10 ct10), sl10⟩) (c10 : PySem.W.codeIn K cd10 "_law_text_by" = true) (k10 : PySem.W.keepIn K (.ref f10) = true)
    (a11 : PySem.W.nsIn K mainGlobals "_law_refused" = some (some (.ref f11))) (l11 : K.lookup f11 = some ⟨oc11, od11, .func (PySem.W.fnOf "_law_refused" "_law_refused" (defArgs s__law_refused) (defBody s__law_refused) (defScope s__law_refused) .none kV11 dc11 pm11 an11 cd11 ct11), sl11⟩) (c11 : PySem.W.codeIn K cd11 "_law_refused" = true) (k11 : PySem.W.keepIn K (.ref f11) = true)
    (a12 : PySem.W.nsIn K mainGlobals "law" = some (some (.ref f12))) (l12 : K.lookup f12 = some ⟨oc12, od12, .func (PySem.W.fnOf "law" "law" (defArgs s_law) (defBody s_law) (defScope s_law) .none kV12 dc12 pm12 an12 cd12 ct12), sl12⟩) (c12 : PySem.W.codeIn K cd12 "law" = true) (k12 : PySem.W.keepIn K (.ref f12) = true)
    (u0_1 : PySem.W.nsIn K mainGlobals "GateError" = some (some (.ref x0))) (u0_2 : PySem.W.excIn K x0 veBase "ValueError.__new__" = true) (u0_3 : PySem.W.keepIn K (.ref x0) = true) (u0_4 : PySem.W.subIn K (.ref x0) (.type "BaseException") = some true) (u0_5 : PySem.W.typeIn K (.ref x0) = some (.type "type")) (u0_6 : PySem.W.isClsIn K x0 = true) (u0_7 : PySem.W.subIn K (.ref x0) (.type "ValueError") = some true)
    (u0_8 : PySem.W.findIn K (.ref x0) "__getattribute__" = some (some (.builtin "BaseException.__getattribute__"))) (u0_9 : PySem.W.findIn K (.ref x0) "__getattr__" = some none) (u0_10 : PySem.W.hasDictIn K x0 = true) (u0_11 : PySem.W.findIn K (.ref x0) "__class__" = some (some (.builtin "object.__class__"))) (u0_12 : PySem.W.mroIn K x0 (.type "object") = some true)
    (u1_1 : PySem.W.nsIn K mainGlobals "NoRow" = some (some (.ref x1))) (u1_2 : PySem.W.excIn K x1 veBase "ValueError.__new__" = true) (u1_3 : PySem.W.keepIn K (.ref x1) = true) (u1_4 : PySem.W.subIn K (.ref x1) (.type "BaseException") = some true) (u1_5 : PySem.W.typeIn K (.ref x1) = some (.type "type")) (u1_6 : PySem.W.isClsIn K x1 = true) (u1_7 : PySem.W.subIn K (.ref x1) (.type "ValueError") = some true)
    (u1_8 : PySem.W.findIn K (.ref x1) "__getattribute__" = some (some (.builtin "BaseException.__getattribute__"))) (u1_9 : PySem.W.findIn K (.ref x1) "__getattr__" = some none) (u1_10 : PySem.W.hasDictIn K x1 = true) (u1_11 : PySem.W.findIn K (.ref x1) "__class__" = some (some (.builtin "object.__class__"))) (u1_12 : PySem.W.mroIn K x1 (.type "object") = some true)
    (u2_1 : PySem.W.nsIn K mainGlobals "NoText" = some (some (.ref x2))) (u2_2 : PySem.W.excIn K x2 veBase "ValueError.__new__" = true) (u2_3 : PySem.W.keepIn K (.ref x2) = true) (u2_4 : PySem.W.subIn K (.ref x2) (.type "BaseException") = some true) (u2_5 : PySem.W.typeIn K (.ref x2) = some (.type "type")) (u2_6 : PySem.W.isClsIn K x2 = true) (u2_7 : PySem.W.subIn K (.ref x2) (.type "ValueError") = some true)
    (u2_8 : PySem.W.findIn K (.ref x2) "__getattribute__" = some (some (.builtin "BaseException.__getattribute__"))) (u2_9 : PySem.W.findIn K (.ref x2) "__getattr__" = some none) (u2_10 : PySem.W.hasDictIn K x2 = true) (u2_11 : PySem.W.findIn K (.ref x2) "__class__" = some (some (.builtin "object.__class__"))) (u2_12 : PySem.W.mroIn K x2 (.type "object") = some true)
    (q1 : PySem.W.specialIn K (.builtin "object.__class__") "__get__" = some (some (.builtin "getset_descriptor.__get__"))) (q2 : PySem.W.takesIn K (.builtin "object.__class__") = some true)
    (p0_0 : PySem.W.subIn K (.ref x0) (.ref x0) = some true)
    (p0_2 : PySem.W.subIn K (.ref x0) (.ref x2) = some false)
    (p1_0 : PySem.W.subIn K (.ref x1) (.ref x0) = some true)
    (p1_2 : PySem.W.subIn K (.ref x1) (.ref x2) = some false)
    (p2_0 : PySem.W.subIn K (.ref x2) (.ref x0) = some true)
    (p2_2 : PySem.W.subIn K (.ref x2) (.ref x2) = some true)
    (z_ValueError : PySem.W.nsIn K mainGlobals "ValueError" = some none)
    (z_all : PySem.W.nsIn K mainGlobals "all" = some none)
    (z_bool : PySem.W.nsIn K mainGlobals "bool" = some none)
    (z_int : PySem.W.nsIn K mainGlobals "int" = some none)
    (z_isinstance : PySem.W.nsIn K mainGlobals "isinstance" = some none)
    (z_len : PySem.W.nsIn K mainGlobals "len" = some none)
    (z_list : PySem.W.nsIn K mainGlobals "list" = some none)
    (z_ord : PySem.W.nsIn K mainGlobals "ord" = some none)
    (z_range : PySem.W.nsIn K mainGlobals "range" = some none)
    (z_str : PySem.W.nsIn K mainGlobals "str" = some none)
    (z_tuple : PySem.W.nsIn K mainGlobals "tuple" = some none)
    (v0 : PySem.W.nsIn K mainGlobals "LETTERS" = some (some (.str ((" !\"#$&'()*+,-./0123456789:;<=>?@ABCDEFGHIJKLMNOPQRSTUVWXYZ[\\]^_`abcdefghijklmnopqrstuvwxyz{|}~" : Str)) tk0)))
    (v1 : PySem.W.nsIn K mainGlobals "SIGNS_FOR_EACH" = some (some (.int 7 tk1))) :
    ∃ fd : FuncData, (∀ (s : Shared) (v : Value), BindsTo s fd ⟨[v], []⟩ [("_law_script", v)]) ∧ ∀ base : Heap, K.In base → base.Ns mainGlobals mg → FnOk l.prog w K mg base (L2.CX l.prog w) 5 fa fd ["_law_script"] (sp_law K) := by
  have e := hfa.symm.trans (PySem.W.mg_of X G a12)
  cases e
  have R0 : Raw K mg "is_sign" "is_sign" s_is_sign ["value"] := ⟨f0, _, fun_mk (st := s_is_sign) l0 c0 k0, (fun_mk (st := s_is_sign) l0 c0 k0).binds fun _ _ _ _ _ _ us hl => match us, hl with | [_], _ => rfl, PySem.W.mg_of X G a0⟩
  have R1 : Raw K mg "need_row" "need_row" s_need_row ["row"] := ⟨f1, _, fun_mk (st := s_need_row) l1 c1 k1, (fun_mk (st := s_need_row) l1 c1 k1).binds fun _ _ _ _ _ _ us hl => match us, hl with | [_], _ => rfl, PySem.W.mg_of X G a1⟩
  have R2 : Raw K mg "signs_of" "signs_of" s_signs_of ["letter"] := ⟨f2, _, fun_mk (st := s_signs_of) l2 c2 k2, (fun_mk (st := s_signs_of) l2 c2 k2).binds fun _ _ _ _ _ _ us hl => match us, hl with | [_], _ => rfl, PySem.W.mg_of X G a2⟩
  have R3 : Raw K mg "letters_by_signs" "letters_by_signs" s_letters_by_signs [] := ⟨f3, _, fun_mk (st := s_letters_by_signs) l3 c3 k3, (fun_mk (st := s_letters_by_signs) l3 c3 k3).binds fun _ _ _ _ _ _ us hl => match us, hl with | [], _ => rfl, PySem.W.mg_of X G a3⟩
  have R4 : Raw K mg "row_of" "row_of" s_row_of ["text"] := ⟨f4, _, fun_mk (st := s_row_of) l4 c4 k4, (fun_mk (st := s_row_of) l4 c4 k4).binds fun _ _ _ _ _ _ us hl => match us, hl with | [_], _ => rfl, PySem.W.mg_of X G a4⟩
  have R5 : Raw K mg "text_of" "text_of" s_text_of ["row"] := ⟨f5, _, fun_mk (st := s_text_of) l5 c5 k5, (fun_mk (st := s_text_of) l5 c5 k5).binds fun _ _ _ _ _ _ us hl => match us, hl with | [_], _ => rfl, PySem.W.mg_of X G a5⟩
  have R6 : Raw K mg "_law_cell_at" "_law_cell_at" s__law_cell_at ["_law_script", "_law_k"] := ⟨f6, _, fun_mk (st := s__law_cell_at) l6 c6 k6, (fun_mk (st := s__law_cell_at) l6 c6 k6).binds fun _ _ _ _ _ _ us hl => match us, hl with | [_, _], _ => rfl, PySem.W.mg_of X G a6⟩
  have R7 : Raw K mg "_law_is_row" "_law_is_row" s__law_is_row ["_law_found", "_law_size"] := ⟨f7, _, fun_mk (st := s__law_is_row) l7 c7 k7, (fun_mk (st := s__law_is_row) l7 c7 k7).binds fun _ _ _ _ _ _ us hl => match us, hl with | [_, _], _ => rfl, PySem.W.mg_of X G a7⟩
  have R8 : Raw K mg "_law_letter_by" "_law_letter_by" s__law_letter_by ["_law_number"] := ⟨f8, _, fun_mk (st := s__law_letter_by) l8 c8 k8, (fun_mk (st := s__law_letter_by) l8 c8 k8).binds fun _ _ _ _ _ _ us hl => match us, hl with | [_], _ => rfl, PySem.W.mg_of X G a8⟩
  have R9 : Raw K mg "_law_seven" "_law_seven" s__law_seven ["_law_number"] := ⟨f9, _, fun_mk (st := s__law_seven) l9 c9 k9, (fun_mk (st := s__law_seven) l9 c9 k9).binds fun _ _ _ _ _ _ us hl => match us, hl with | [_], _ => rfl, PySem.W.mg_of X G a9⟩
  have R10 : Raw K mg "_law_text_by" "_law_text_by" s__law_text_by ["_law_cell", "_law_size"] := ⟨f10, _, fun_mk (st := s__law_text_by) l10 c10 k10, (fun_mk (st := s__law_text_by) l10 c10 k10).binds fun _ _ _ _ _ _ us hl => match us, hl with | [_, _], _ => rfl, PySem.W.mg_of X G a10⟩
  have R11 : Raw K mg "_law_refused" "_law_refused" s__law_refused ["_law_thing", "_law_reads"] := ⟨f11, _, fun_mk (st := s__law_refused) l11 c11 k11, (fun_mk (st := s__law_refused) l11 c11 k11).binds fun _ _ _ _ _ _ us hl => match us, hl with | [_, _], _ => rfl, PySem.W.mg_of X G a11⟩
  have T : Txt K mg ⟨0, x0, x1, x2⟩ := ⟨⟨PySem.W.mg_of X G u0_1, u0_2, u0_3, u0_4, u0_5, u0_6, ⟨u0_8, u0_9, u0_4, u0_10, u0_11, q1, q2, u0_12⟩, u0_7⟩, ⟨PySem.W.mg_of X G u1_1, u1_2, u1_3, u1_4, u1_5, u1_6, ⟨u1_8, u1_9, u1_4, u1_10, u1_11, q1, q2, u1_12⟩, u1_7⟩, ⟨PySem.W.mg_of X G u2_1, u2_2, u2_3, u2_4, u2_5, u2_6, ⟨u2_8, u2_9, u2_4, u2_10, u2_11, q1, q2, u2_12⟩, u2_7⟩, p0_0, p0_2, p1_0, p1_2, p2_0, p2_2, PySem.W.mg_none_of X G z_ValueError, PySem.W.mg_none_of X G z_all, PySem.W.mg_none_of X G z_bool, PySem.W.mg_none_of X G z_int, PySem.W.mg_none_of X G z_isinstance, PySem.W.mg_none_of X G z_len, PySem.W.mg_none_of X G z_list, PySem.W.mg_none_of X G z_ord, PySem.W.mg_none_of X G z_range, PySem.W.mg_none_of X G z_str, PySem.W.mg_none_of X G z_tuple, ⟨_, PySem.W.mg_of X G v0⟩, ⟨_, PySem.W.mg_of X G v1⟩, R0, R1, R2, R3, R4, R5, R6, R7, R8, R9, R10, R11⟩
  refine ⟨_, fun s v => .of_eq rfl, fun base _ _ => ok_law (fun_mk (st := s_law) l12 c12 k12) T⟩

end Cg
open PySem PySem.W PyProof.Rows in
set_option maxRecDepth 100000 in
set_option maxHeartbeats 0 in
theorem PySem.Challenge.cw_crcgate_k04_letters_holds : PySem.Challenge.rw_crcgate_k04_letters.Holds := by
  w_on; o_law; k_head; (case hw => w_witness2)
  k_fill
  refine L2.walk_of (l := PySem.Challenge.rw_crcgate_k04_letters) (n := 63) (k := 5) (x := "_law_script") (CX := fun w => L2.CX PySem.Challenge.rw_crcgate_k04_letters.prog w) (sp := fun w => Cg.sp_law _) rfl (by decide) rfl ⟨rfl, by decide, by decide⟩ (fun w h Y => PySem.W.kIn_of Y) ?F (fun _ _ a ns hl _ hS => ⟨a, ns, rfl, hS, hl, fun _ => rfl⟩) (fun _ _ _ _ _ z => Cg.cx_none z)
  case F =>
    intro w mg fa h KX G hmg
    refine' Cg.all_mk KX G hmg ?a0 ?l0 ?c0 ?k0 ?a1 ?l1 ?c1 ?k1 ?a2 ?l2 ?c2 ?k2 ?a3 ?l3 ?c3 ?k3 ?a4 ?l4 ?c4 ?k4 ?a5 ?l5 ?c5 ?k5 ?a6 ?l6 ?c6 ?k6 ?a7 ?l7 ?c7 ?k7 ?a8 ?l8 ?c8 ?k8 ?a9 ?l9 ?c9 ?k9 ?a10 ?l10 ?c10 ?k10 ?a11 ?l11 ?c11 ?k11 ?a12 ?l12 ?c12 ?k12 ?u0_1 ?u0_2 ?u0_3 ?u0_4 ?u0_5 ?u0_6 ?u0_7 ?u0_8 ?u0_9 ?u0_10 ?u0_11 ?u0_12 ?u1_1 ?u1_2 ?u1_3 ?u1_4 ?u1_5 ?u1_6 ?u1_7 ?u1_8 ?u1_9 ?u1_10 ?u1_11 ?u1_12 ?u2_1 ?u2_2 ?u2_3 ?u2_4 ?u2_5 ?u2_6 ?u2_7 ?u2_8 ?u2_9 ?u2_10 ?u2_11 ?u2_12 ?q1 ?q2 ?p0_0 ?p0_2 ?p1_0 ?p1_2 ?p2_0 ?p2_2 ?z_ValueError ?z_all ?z_bool ?z_int ?z_isinstance ?z_len ?z_list ?z_ord ?z_range ?z_str ?z_tuple ?v0 ?v1
    (case a0 => k_is)
    (case l0 => k_is)
    (case c0 => k_is)
    (case k0 => k_is)
    (case a1 => k_is)
    (case l1 => k_is)
    (case c1 => k_is)
    (case k1 => k_is)
    (case a2 => k_is)
    (case l2 => k_is)
    (case c2 => k_is)
    (case k2 => k_is)
    (case a3 => k_is)
    (case l3 => k_is)
    (case c3 => k_is)
    (case k3 => k_is)
    (case a4 => k_is)
    (case l4 => k_is)
    (case c4 => k_is)
    (case k4 => k_is)
    (case a5 => k_is)
    (case l5 => k_is)
    (case c5 => k_is)
    (case k5 => k_is)
    (case a6 => k_is)
    (case l6 => k_is)
    (case c6 => k_is)
    (case k6 => k_is)
    (case a7 => k_is)
    (case l7 => k_is)
    (case c7 => k_is)
    (case k7 => k_is)
    (case a8 => k_is)
    (case l8 => k_is)
    (case c8 => k_is)
    (case k8 => k_is)
    (case a9 => k_is)
    (case l9 => k_is)
    (case c9 => k_is)
    (case k9 => k_is)
    (case a10 => k_is)
    (case l10 => k_is)
    (case c10 => k_is)
    (case k10 => k_is)
    (case a11 => k_is)
    (case l11 => k_is)
    (case c11 => k_is)
    (case k11 => k_is)
    (case a12 => k_is)
    (case l12 => k_is)
    (case c12 => k_is)
    (case k12 => k_is)
    (case u0_1 => k_is)
    (case u0_2 => k_exc)
    (case u0_3 => k_is)
    (case u0_4 => k_is)
    (case u0_5 => k_is)
    (case u0_6 => k_is)
    (case u0_7 => k_is)
    (case u0_8 => k_is)
    (case u0_9 => k_is)
    (case u0_10 => k_is)
    (case u0_11 => k_is)
    (case u0_12 => k_is)
    (case u1_1 => k_is)
    (case u1_2 => k_exc)
    (case u1_3 => k_is)
    (case u1_4 => k_is)
    (case u1_5 => k_is)
    (case u1_6 => k_is)
    (case u1_7 => k_is)
    (case u1_8 => k_is)
    (case u1_9 => k_is)
    (case u1_10 => k_is)
    (case u1_11 => k_is)
    (case u1_12 => k_is)
    (case u2_1 => k_is)
    (case u2_2 => k_exc)
    (case u2_3 => k_is)
    (case u2_4 => k_is)
    (case u2_5 => k_is)
    (case u2_6 => k_is)
    (case u2_7 => k_is)
    (case u2_8 => k_is)
    (case u2_9 => k_is)
    (case u2_10 => k_is)
    (case u2_11 => k_is)
    (case u2_12 => k_is)
    (case q1 => k_is)
    (case q2 => k_is)
    (case p0_0 => first | rfl | k_is)
    (case p0_2 => first | rfl | k_is)
    (case p1_0 => first | rfl | k_is)
    (case p1_2 => first | rfl | k_is)
    (case p2_0 => first | rfl | k_is)
    (case p2_2 => first | rfl | k_is)
    (case z_ValueError => k_is)
    (case z_all => k_is)
    (case z_bool => k_is)
    (case z_int => k_is)
    (case z_isinstance => k_is)
    (case z_len => k_is)
    (case z_list => k_is)
    (case z_ord => k_is)
    (case z_range => k_is)
    (case z_str => k_is)
    (case z_tuple => k_is)
    (case v0 => k_is)
    (case v1 => k_is)
