import PyProof.Rows.All
import Wide.All
import OpenK.AllK
import Wide.FinOn
import HandS.ForMost
import HandS.ForExc
import HandS.IsInst
import HandS.Zip
import HandS.Evl
import HandS.ExcIs
import HandS.SetFor
import HandS.DictComp
import PySem.Challenge.RW_crcgate_k06_refusals
set_option Elab.async false
set_option linter.all false
set_option maxRecDepth 100000
set_option maxHeartbeats 4000000
/-! ## Pre: our own words over the hand layer: rows of iv, defs of the top -/
namespace Cg
open PySem PySem.Spec PyProof.Rows L2 Evl

abbrev iv (ns : List Int) : List V := ns.map V.int
theorem iv_len (ns : List Int) : (iv ns).length = ns.length := List.length_map ..
theorem iv_at {ns : List Int} {i : Nat} {x : V} (h : (iv ns)[i]? = some x) : ∃ n, ns[i]? = some n ∧ x = V.int n := by
  rw [List.getElem?_map] at h
  cases e : ns[i]? with
  | none => rw [e] at h; cases h
  | some n => rw [e] at h; exact ⟨n, rfl, (Option.some.inj h).symm⟩
theorem iv_get {ns : List Int} {i : Nat} {n : Int} (h : ns[i]? = some n) : (iv ns)[i]? = some (V.int n) := by
  rw [List.getElem?_map, h]; rfl
theorem iv_inj {xs ys : List Int} (h : iv xs = iv ys) : xs = ys := by
  induction xs generalizing ys with
  | nil => cases ys with
    | nil => rfl
    | cons y r => cases h
  | cons x r ih => cases ys with
    | nil => cases h
    | cons y s =>
      have e1 : V.int x = V.int y := (List.cons.inj h).1
      have e2 : iv r = iv s := (List.cons.inj h).2
      rw [V.int.inj e1, ih e2]

theorem b_list : bootBuiltins "list" = some (.type "list") := by decide +kernel
theorem b_int : bootBuiltins "int" = some (.type "int") := by decide +kernel
theorem b_bool : bootBuiltins "bool" = some (.type "bool") := by decide +kernel
theorem b_str : bootBuiltins "str" = some (.type "str") := by decide +kernel
theorem b_tuple : bootBuiltins "tuple" = some (.type "tuple") := by decide +kernel
theorem b_ValueError : bootBuiltins "ValueError" = some (.type "ValueError") := by decide +kernel
theorem b_len : bootBuiltins "len" = some (.builtin "len") := PySem.boot_len
theorem b_isinstance : bootBuiltins "isinstance" = some (.builtin "isinstance") := by decide +kernel
theorem b_max : bootBuiltins "max" = some (.builtin "max") := by decide +kernel
theorem b_min : bootBuiltins "min" = some (.builtin "min") := by decide +kernel
theorem b_all : bootBuiltins "all" = some (.builtin "all") := by decide +kernel
theorem b_sum : bootBuiltins "sum" = some (.builtin "sum") := by decide +kernel
theorem b_ord : bootBuiltins "ord" = some (.builtin "ord") := by decide +kernel
theorem b_chr : bootBuiltins "chr" = some (.builtin "chr") := by decide +kernel
def rInt1 : List V → Hp → VK → Prop := fun xs H Q => (∃ i, xs = [.int i] ∧ Q (.int i) H) ∨ ∃ k, xs = [.bl k] ∧ Q (.int (if k then 1 else 0)) H
def rMin2 : List V → Hp → VK → Prop := fun xs H Q => ∃ i j, xs = [.int i, .int j] ∧ Q (.int (if j < i then j else i)) H
/-! ### defs of the top -/
def Raw (K : PySem.W.Frag) (mg : Str → Option Value) (name qual : Str) (st : Stmt) (ps : List Str) : Prop := ∃ f fd, Fun K name qual st f fd ∧ Binds K fd ps [] ∧ mg name = some (.ref f)
def Has (P : Program) (w : World) (K : PySem.W.Frag) (mg : Str → Option Value) (base : Heap) (k : Nat) (name : Str) (ps : List Str) (sp : Sp) : Prop :=
  ∃ f fd, FnOk P w K mg base (L2.CX P w) k f fd ps sp ∧ mg name = some (.ref f) ∧ PySem.W.keepIn K (.ref f) = true ∧ Binds K fd ps []
section
variable {P : Program} {w : World} {K : PySem.W.Frag} {mg : Str → Option Value} {base : Heap}
theorem Raw.ok {x qual : Str} {st : Stmt} {N ps : List Str} {k : Nat} {sp : Sp} (R : Raw K mg x qual st ps) (S : FnScope N ps (defScope st)) (len : ∀ vs H Q E, sp vs H Q E → vs.length = ps.length)
    (hbody : ∀ (f : Addr) (cdv : Value) (A : Around) (outer : List Env) (s : Shared) (H : Hp) (vs : List V) (Q : VK) (E : XK), Room k (A.deeper (envOfC qual (defScope st) s.heap.objs.size f cdv)) → sp vs H Q E →
      ∃ t, PSs (cxOf (L2.CX P w) P w K mg base N qual (defScope st) f cdv A outer s H E) (defBody st) t ∧ t { nx := fun _ H' => Q .non H', rt := Q } (start N vs) H) : Has P w K mg base (k + 1) x ps sp := by
  obtain ⟨f, fd, F, b, g⟩ := R
  exact ⟨f, fd, F.okX S len fun cdv A outer s H vs Q E hr h => hbody f cdv A outer s H vs Q E hr h, g, F.kp, b⟩
end
section
variable {X : Cx} {k : Nat} {ps : List Str} {sp : Sp} {E : XK} {x : Str} {p pos : Pos} {e : Expr} {es : List Expr} {t : TA}
theorem pe_callH (F : Has X.prog X.w X.K X.mg X.base k x ps sp) (hr : Room k X.A) (hx : Passes (L2.CX X.prog X.w) X E) (ha : PA X (e :: es) t) (hg : Gl X x := by rfl) (hdb : (x == ("__debug__" : Str)) = false := by decide)
    (he : starEach (e :: es) X.env = (false, eval e X.env) :: starEach es X.env := by rfl) (hpl : (backTo pos (starEach es X.env)).any (·.1) = false := by rfl) : PE X (.Call (.Name x p) (e :: es) [] pos) (tCall sp [] E t) := by
  obtain ⟨f, fd, F, g, kp, b⟩ := F
  exact pe_call F hr hg g kp b .nil hx ha hdb he hpl
end

theorem op_eqII : OpR X (compareOp .Eq) (rI0 fun i j => .bl (decide (i = j))) := opB0 fun _ _ _ _ _ _ _ q => eq_int (by rw [Bool.beq_eq_decide_eq]; exact q)
theorem op_neII : OpR X (compareOp .NotEq) (rI0 fun i j => .bl (!decide (i = j))) := opB0 fun _ _ _ _ _ _ _ q => ne_int (by rw [bne, Bool.beq_eq_decide_eq]; exact q)

theorem kk_isi (K) (h : X.K = K := by rfl) : CallR X (.builtin "isinstance") (rIsi K) := h ▸ call_isi
theorem kk_len (K) (h : X.K = K := by rfl) : CallR X (.builtin "len") (rLenS K) := h ▸ call_len_seq
theorem kk_list (K) (h : X.K = K := by rfl) : CallR X (.type "list") (rListS K) := h ▸ call_list_of
theorem kk_all (K) (hc : X.calm = true) (h : X.K = K := by rfl) : CallR X (.builtin "all") (rAll K) := h ▸ cr_all hc
theorem kk_sum (K) (hc : X.calm = true) (h : X.K = K := by rfl) : CallR X (.builtin "sum") (rSum K) := h ▸ cr_sum hc
theorem kk_int : CallR X (.type "int") rInt1 := call_int1
theorem kk_max (hc : X.calm = true) : CallR X (.builtin "max") rMax2 := call_max2 hc
theorem kk_min (hc : X.calm = true) : CallR X (.builtin "min") rMin2 := call_min2 hc
theorem kk_ixl (K) (h : X.K = K := by rfl) : IxR X (rIxL K) := h ▸ ix_list
theorem kk_ixt (K) (h : X.K = K := by rfl) : IxR X (rIxT K) := h ▸ ix_tup
theorem kk_sl (K) (h : X.K = K := by rfl) : SlR X (rSlL K) := h ▸ sl_list
theorem kk_in (K) (h : X.K = K := by rfl) : OpR X (compareOp .In) (rIn K false) := h ▸ op_in_seq
theorem kk_ni (K) (h : X.K = K := by rfl) : OpR X (compareOp .NotIn) (rIn K true) := h ▸ op_notIn_seq
theorem kk_eqD (K) (hu : X.A.units + 64 < cLine) (h : X.K = K := by rfl) : OpR X (compareOp .Eq) (rEqD K) := h ▸ op_eqD hu
theorem kk_neD (K) (hu : X.A.units + 64 < cLine) (h : X.K = K := by rfl) : OpR X (compareOp .NotEq) (rNeD K) := h ▸ op_neD hu

theorem cx_none {P : Program} {w : World} {H : Hp} {s : Shared} {e : Value} {s' : Shared} (z : L2.CX P w [] H s (fun _ _ _ => False) e s') : False := by
  obtain ⟨_, _, _, _, _, _, _, _, _, _, _, _, q⟩ := z
  exact q.elim
theorem pe_globI {X : Cx} {x : Str} {n : Int} {pos : Pos} (h : ∃ t, X.mg x = some (.int n t)) (hg : Gl X x := by rfl) (hd : (x == ("__debug__" : Str)) = false := by decide) : PE X (.Name x pos) (tC (.int n)) := by
  obtain ⟨t, h⟩ := h
  exact pe_glob hg h ⟨t, rfl⟩ hd
/-! ### errors of the program -/
abbrev veBase : List Value := [.type "ValueError", .type "Exception", .type "BaseException", .type "object"]
structure ExcT (K : PySem.W.Frag) (mg : Str → Option Value) (x : Str) (C : Addr) : Prop where
  g : mg x = some (.ref C)
  x : PySem.W.excIn K C veBase "ValueError.__new__" = true
  k : PySem.W.keepIn K (.ref C) = true
  b : PySem.W.subIn K (.ref C) (.type "BaseException") = some true
  t : PySem.W.typeIn K (.ref C) = some (.type "type")
  i : PySem.W.isClsIn K C = true
  c : ExcC K C
  v : PySem.W.subIn K (.ref C) (.type "ValueError") = some true
theorem ExcT.r {X : Cx} {x : Str} {C : Addr} (E : ExcT X.K X.mg x C) : Raises X (.ref C) := raises_own E.b E.t
theorem ExcT.exm {K : PySem.W.Frag} {mg : Str → Option Value} {x : Str} {C : Addr} {cls : Value} {b : Bool} (E : ExcT K mg x C) (h : PySem.W.subIn K cls (.ref C) = some b) : PySem.W.exmOne K cls (.ref C) = some b := PySem.W.exm_ref E.b E.c.hd E.t h
theorem ExcT.kitV {K : PySem.W.Frag} {mg : Str → Option Value} {x : Str} {C : Addr} (E : ExcT K mg x C) : PySem.W.kitOne K (.ref C) (.type "ValueError") = some true := by
  have m : PySem.W.kitMeta "ValueError" = true := by decide +kernel
  have n : ((Value.ref C : Value) == .type "ValueError") = false := rfl
  unfold PySem.W.kitOne
  rw [n]
  unfold PySem.W.kitCls
  rw [if_neg Bool.false_ne_true]
  show (if PySem.W.kitMeta "ValueError" = true then PySem.W.subIn K (.ref C) (.type "ValueError") else none) = some true
  rw [if_pos m]
  exact E.v
theorem ExcT.kit {K : PySem.W.Frag} {mg : Str → Option Value} {x : Str} {C D : Addr} {b : Bool} (E : ExcT K mg x C) (h : PySem.W.subIn K (.ref D) (.ref C) = some b) (ne : b = false → C ≠ D) : PySem.W.kitOne K (.ref D) (.ref C) = some b := by
  unfold PySem.W.kitOne
  by_cases e : D = C
  · subst e
    have z : ((Value.ref D : Value) == .ref D) = true := by simp
    rw [z, if_pos rfl]
    cases b with
    | true => rfl
    | false => exact absurd rfl (ne rfl)
  · have z : ((Value.ref D : Value) == .ref C) = false := by simpa using e
    rw [z, if_neg Bool.false_ne_true]
    unfold PySem.W.kitCls
    have e2 : ((PySem.W.clsIn K C).isSome && PySem.W.typeIn K (.ref C) == some (.type "type")) = true := by
      have h2' : (PySem.W.clsIn K C).isSome = true := E.i
      rw [h2', E.t] <;> rfl
    show (if ((PySem.W.clsIn K C).isSome && PySem.W.typeIn K (.ref C) == some (.type "type")) = true then PySem.W.subIn K (.ref D) (.ref C) else none) = some b
    rw [if_pos e2]
    exact h
/-- isinstance(e, c) in an except suite -/
def rIsX (K : PySem.W.Frag) (a : Addr) (cls : Value) (d : Option Addr) : List V → Hp → VK → Prop := fun xs H Q => ∃ D, cls = .ref D ∧ d = none ∧ ExcC K D ∧ rIsE K D a xs H Q
theorem call_isX {X : Cx} {a : Addr} {cls : Value} {d : Option Addr} {oe : Obj} {pn : List (Addr × Obj)} (hz : Zc cls d oe) (hf : ∃ vs, oe.data = .fields vs) : CallR (X.suite a ((a, oe) :: pn)) (.builtin "isinstance") (rIsX X.K a cls d) := by
  intro pins s σ H xs us Q I r h
  obtain ⟨D, rfl, rfl, C, h⟩ := h
  exact call_isE C hz hf pins s σ H xs us Q I r h
section
variable {X : Cx} {k : Nat} {ps : List Str} {sp : Sp} {E : L2.St → XK} {x : Str} {p pos : Pos} {e : Expr} {es : List Expr} {t : TA}
theorem pe_callHS (F : Has X.prog X.w X.K X.mg X.base k x ps sp) (hr : Room k X.A) (hx : ∀ σ, PassesAt (L2.CX X.prog X.w) X σ (E σ)) (ha : PA X (e :: es) t) (hg : Gl X x := by rfl) (hdb : (x == ("__debug__" : Str)) = false := by decide)
    (he : starEach (e :: es) X.env = (false, eval e X.env) :: starEach es X.env := by rfl) (hpl : (backTo pos (starEach es X.env)).any (·.1) = false := by rfl) : PE X (.Call (.Name x p) (e :: es) [] pos) (tCallS sp E t) := by
  obtain ⟨f, fd, F, g, kp, b⟩ := F
  exact pe_callS F hr hg g kp b hx ha hdb he hpl
end
/-! ### what evaluates to what: a list, new or old -/
def EvR (te : TE) (σ : L2.St) (H : Hp) (xs : List V) : Prop := ∀ H1, Ex H H1 → ∀ Q : VK, (∀ p H2, Ex H1 H2 → H2 p = some (.lst xs) → Q (.ref p) H2) → te σ H1 Q
section
variable {K : PySem.W.Frag} {σ : L2.St} {H H' : Hp} {ta tb te tx : TE} {t u : TT} {x y z v : V} {r : R2} {xs ys : List V}
theorem Ex.at {a : Addr} {o : HO} (e : Ex H H') (h : H a = some o) : H' a = some o := e a o h
theorem er_var {i : Nat} {a : Addr} (h : σ[i]? = some (some (.ref a))) (hl : H a = some (.lst xs)) : EvR (tVar i) σ H xs := fun H1 e _ q => ⟨_, h, q a H1 (Ex.refl H1) (e _ _ hl)⟩
theorem er_ev {a : Addr} (h : Ev te σ H (.ref a)) (hl : H a = some (.lst xs)) : EvR te σ H xs := fun H1 e Q q => h H1 e Q fun H2 e2 => q a H2 e2 (e2 _ _ (e _ _ hl))
theorem er_L (h : EvL te σ H xs) : EvR te σ H xs := fun H1 e Q q => h H1 e Q fun p H2 _ e2 h2 => q p H2 e2 h2
theorem EvR.is (h : EvR te σ H xs) (e : xs = ys) : EvR te σ H ys := e ▸ h
theorem el_is (h : EvL te σ H xs) (e : xs = ys) : EvL te σ H ys := e ▸ h
theorem el_cat (ha : EvR ta σ H xs) (hb : EvR tb σ H ys) (hz : xs.length + ys.length ≤ 10000000) : EvL (tOp rCat ta tb) σ H (xs ++ ys) := fun H1 e Q q =>
  ha H1 e _ fun a H2 e2 h2 => hb H2 (e.trans e2) _ fun b H3 e3 h3 => ⟨a, b, xs, ys, rfl, rfl, e3 _ _ h2, h3, Nat.le_trans hz (by decide), fun p hp => q p _ (fresh_back (e2.trans e3) hp) ((e2.trans e3).trans (Ex.new hp)) upd_same⟩
theorem el_rep {k : Int} {x : V} (ha : EvR ta σ H [x]) (hb : Ev tb σ H (.int k)) (hk : k ≤ 10000000 ∧ -10000000 ≤ k) : EvL (tOp rRep ta tb) σ H (List.replicate k.toNat x) := fun H1 e Q q =>
  ha H1 e _ fun a H2 e2 h2 => hb H2 (e.trans e2) _ fun H3 e3 => ⟨a, k, [x], rfl, rfl, e3 _ _ h2, by omega, by omega, by
    show [x].length * k.toNat ≤ 2 ^ 24
    rw [List.length_singleton]; omega, fun p hp => by
    have z : (List.replicate k.toNat [x]).flatten = List.replicate k.toNat x := by
      generalize k.toNat = n
      induction n with
      | zero => rfl
      | succ n ih => rw [List.replicate_succ, List.replicate_succ, List.flatten_cons, ih]; rfl
    refine q p _ (fresh_back (e2.trans e3) hp) ((e2.trans e3).trans (Ex.new hp)) ?_
    rw [z]
    exact upd_same⟩
theorem ev_lenR (ha : EvR ta σ H xs) : Ev (tCB (rLenS K) (tCons ta tNil)) σ H (.int (xs.length : Int)) := fun H1 e Q q =>
  ha H1 e _ fun p H2 e2 h2 => ⟨p, xs, rfl, Or.inl (sq_of h2), q H2 e2⟩
theorem el_listR (ha : EvR ta σ H xs) : EvL (tCB (rListS K) (tCons ta tNil)) σ H xs := fun H1 e Q q =>
  ha H1 e _ fun p H2 e2 h2 => ⟨p, xs, rfl, Or.inl (sq_of h2), fun l hl => q l _ (fresh_back e2 hl) (e2.trans (Ex.new hl)) upd_same⟩
theorem ev_ixR {i : Int} (ha : EvR ta σ H xs) (hb : Ev tb σ H (.int i)) (hv : atI xs i = some v) : Ev (tOp (rIxL K) ta tb) σ H v := fun H1 e Q q =>
  ha H1 e _ fun p H2 e2 h2 => hb H2 (e.trans e2) _ fun H3 e3 => ⟨p, xs, i, v, rfl, rfl, sq_of (e3 _ _ h2), hv, q H3 (e2.trans e3)⟩
theorem el_slR {tl th : TO} {lo hi : Option Int} (h : EvR te σ H xs) (h1 : EvO tl σ H lo) (h2 : EvO th σ H hi) : EvL (tSl (rSlL K) te tl th) σ H (cutV xs lo hi) := fun H1 e _ q =>
  h H1 e _ fun a H2 e2 hs => h1 H2 (e.trans e2) _ fun H3 e3 => h2 H3 ((e.trans e2).trans e3) _ fun H4 e4 =>
    ⟨a, xs, rfl, sq_of ((e3.trans e4) _ _ hs), fun p hp => q p _ (fresh_back ((e2.trans e3).trans e4) hp) (((e2.trans e3).trans e4).trans (Ex.new hp)) upd_same⟩
theorem ev_sumR {ns : List Int} (ha : EvR ta σ H (iv ns)) : Ev (tCB (rSum K) (tCons ta tNil)) σ H (.int ns.sum) := fun H1 e Q q =>
  ha H1 e _ fun p H2 e2 h2 => ⟨p, ns, rfl, sq_of h2, q H2 e2⟩
theorem ev_allR {bs : List Bool} (ha : EvR ta σ H (bs.map V.bl)) : Ev (tCB (rAll K) (tCons ta tNil)) σ H (.bl (bs.all id)) := fun H1 e Q q =>
  ha H1 e _ fun p H2 e2 h2 => ⟨p, bs, rfl, sq_of h2, q H2 e2⟩
theorem dpAll_iv : ∀ (ns : List Int), DpAll K H (iv ns) (ns.map PyData.int)
  | [] => .nil
  | n :: r => .cons (.int n) (dpAll_iv r)
theorem dp_row {a : Addr} {ns : List Int} (h : H a = some (.lst (iv ns))) : Dp K H (.ref a) (.list (ns.map PyData.int)) := .lst (sq_of h) (dpAll_iv ns)
theorem shaped_row (ns : List Int) : SeqAt.shaped (.list (ns.map PyData.int)) = true := by
  induction ns with
  | nil => rfl
  | cons n r ih => exact ih
theorem eqv_rows (xs ys : List Int) : PyData.eqv (.list (xs.map PyData.int)) (.list (ys.map PyData.int)) = decide (xs = ys) := by
  rw [PyData.eqv]
  induction xs generalizing ys with
  | nil => cases ys with
    | nil => rfl
    | cons y r => rfl
  | cons x r ih => cases ys with
    | nil => rfl
    | cons y t =>
      rw [List.map_cons, List.map_cons, PyData.eqvAll, ih, PyData.eqv]
      by_cases h1 : x = y
      · subst h1
        by_cases h2 : r = t
        · subst h2; simp
        · simp [h2]
      · simp [h1]
theorem ev_eqR {xs ys : List Int} (ha : EvR ta σ H (iv xs)) (hb : EvR tb σ H (iv ys)) : Ev (tOp (rEqD K) ta tb) σ H (.bl (decide (xs = ys))) := fun H1 e Q q =>
  ha H1 e _ fun p H2 e2 h2 => hb H2 (e.trans e2) _ fun p' H3 e3 h3 => ⟨_, _, dp_row (e3 _ _ h2), dp_row h3, shaped_row _, shaped_row _, by
    rw [eqv_rows]
    exact q H3 (e2.trans e3)⟩
theorem ev_neR {xs ys : List Int} (ha : EvR ta σ H (iv xs)) (hb : EvR tb σ H (iv ys)) : Ev (tOp (rNeD K) ta tb) σ H (.bl (!decide (xs = ys))) := fun H1 e Q q =>
  ha H1 e _ fun p H2 e2 h2 => hb H2 (e.trans e2) _ fun p' H3 e3 h3 => ⟨_, _, dp_row (e3 _ _ h2), dp_row h3, shaped_row _, shaped_row _, by
    rw [eqv_rows]
    exact q H3 (e2.trans e3)⟩
theorem inV_iv (x : Int) (ns : List Int) : inV (.int x) (iv ns) = decide (x ∈ ns) := by
  induction ns with
  | nil => rfl
  | cons n r ih =>
    show (eqV (V.int n) (V.int x) || inV (.int x) (iv r)) = _
    rw [ih]
    show (n == x || decide (x ∈ r)) = _
    by_cases h : n = x
    · subst h; simp
    · have h' : ¬ x = n := fun e => h e.symm
      simp [h, h']
theorem flat_iv (ns : List Int) : (iv ns).all flatV = true := by
  induction ns with
  | nil => rfl
  | cons n r ih => exact ih
theorem ev_inR {i : Int} {ns : List Int} (ha : Ev ta σ H (.int i)) (hb : EvR tb σ H (iv ns)) : Ev (tOp (rIn K false) ta tb) σ H (.bl (decide (i ∈ ns))) := fun H1 e Q q =>
  ha H1 e _ fun H2 e2 => hb H2 (e.trans e2) _ fun p H3 e3 h3 => ⟨p, _, rfl, Or.inl (sq_of h3), rfl, flat_iv ns, by
    rw [if_neg (by decide), inV_iv]
    exact q H3 (e2.trans e3)⟩
theorem ev_niR {i : Int} {ns : List Int} (ha : Ev ta σ H (.int i)) (hb : EvR tb σ H (iv ns)) : Ev (tOp (rIn K true) ta tb) σ H (.bl (!decide (i ∈ ns))) := fun H1 e Q q =>
  ha H1 e _ fun H2 e2 => hb H2 (e.trans e2) _ fun p H3 e3 h3 => ⟨p, _, rfl, Or.inl (sq_of h3), rfl, flat_iv ns, by
    rw [if_pos rfl, inV_iv]
    exact q H3 (e2.trans e3)⟩
theorem ev_isi {n : String} {tv : Value} {b : Bool} (ha : Ev ta σ H x) (ht : TyX K H x tv) (hm : ∀ H1, Ex H H1 → TyX K H1 x tv) (hb : PySem.W.kitOne K tv (.type n) = some b) : Ev (tCB (rIsi K) (tCons ta (tCons (tC (.ty n)) tNil))) σ H (.bl b) := fun H1 e Q q =>
  ha H1 e _ fun H2 e2 => ⟨x, .ty n, tv, .type n, b, rfl, .ty n, hm H2 (e.trans e2), hb, q H2 e2⟩
def tyName : V → Option String
  | .non => some "NoneType" | .bl _ => some "bool" | .int _ => some "int" | .str _ => some "str" | _ => none
theorem tyx_flat {s : String} (h : tyName x = some s) : TyX K H x (.type s) := by
  cases x with
  | non => cases h; exact .base .non
  | bl b => cases h; exact .base (.bl b)
  | int i => cases h; exact .base (.int i)
  | str z => cases h; exact .base (.str z)
  | byt _ => cases h
  | flt _ => cases h
  | ref _ => cases h
  | ty _ => cases h
theorem kit_list_list : kitB "list" "list" = some true := by decide +kernel
theorem kit_int_int : kitB "int" "int" = some true := by decide +kernel
theorem kit_int_bool : kitB "int" "bool" = some false := by decide +kernel
theorem kit_bool_int : kitB "bool" "int" = some true := by decide +kernel
theorem kit_bool_bool : kitB "bool" "bool" = some true := by decide +kernel
theorem kit_str_str : kitB "str" "str" = some true := by decide +kernel
theorem kit_list_int : kitB "list" "int" = some false := by decide +kernel
theorem kit_list_bool : kitB "list" "bool" = some false := by decide +kernel
theorem kit_list_str : kitB "list" "str" = some false := by decide +kernel
theorem kit_tuple_tuple : kitB "tuple" "tuple" = some true := by decide +kernel
theorem kit_tuple_list : kitB "tuple" "list" = some false := by decide +kernel
theorem kit_int_list : kitB "int" "list" = some false := by decide +kernel
theorem kit_str_list : kitB "str" "list" = some false := by decide +kernel
theorem kit_NoneType_list : kitB "NoneType" "list" = some false := by decide +kernel
theorem kit_bool_list : kitB "bool" "list" = some false := by decide +kernel
theorem kit_dict_list : kitB "dict" "list" = some false := by decide +kernel
theorem kit_NoneType_int : kitB "NoneType" "int" = some false := by decide +kernel
theorem kit_str_int : kitB "str" "int" = some false := by decide +kernel
theorem kit_tuple_int : kitB "tuple" "int" = some false := by decide +kernel
theorem kit_dict_int : kitB "dict" "int" = some false := by decide +kernel
theorem kit_int_str : kitB "int" "str" = some false := by decide +kernel
theorem kit_bool_str : kitB "bool" "str" = some false := by decide +kernel
theorem kit_NoneType_str : kitB "NoneType" "str" = some false := by decide +kernel
theorem kit_tuple_str : kitB "tuple" "str" = some false := by decide +kernel
theorem ev_isiF {n s : String} {b : Bool} (ha : Ev ta σ H x) (ht : tyName x = some s) (hb : kitB s n = some b) : Ev (tCB (rIsi K) (tCons ta (tCons (tC (.ty n)) tNil))) σ H (.bl b) :=
  ev_isi ha (tyx_flat ht) (fun _ _ => tyx_flat ht) (kit_ty hb)
theorem ev_isiR {n : String} {b : Bool} (ha : EvR ta σ H xs) (hb : kitB "list" n = some b) : Ev (tCB (rIsi K) (tCons ta (tCons (tC (.ty n)) tNil))) σ H (.bl b) := fun H1 e Q q =>
  ha H1 e _ fun p H2 e2 h2 => ⟨.ref p, .ty n, .type "list", .type n, b, rfl, .ty n, .base (.lst h2), kit_ty hb, q H2 e2⟩
theorem ev_intB {b : Bool} (ha : Ev ta σ H (.bl b)) : Ev (tCB rInt1 (tCons ta tNil)) σ H (.int (if b then 1 else 0)) := fun H1 e Q q =>
  ha H1 e _ fun H2 e2 => Or.inr ⟨b, rfl, q H2 e2⟩
theorem ev_min2 {i j : Int} (ha : Ev ta σ H (.int i)) (hb : Ev tb σ H (.int j)) : Ev (tCB rMin2 (tCons ta (tCons tb tNil))) σ H (.int (if j < i then j else i)) := fun H1 e Q q =>
  ha H1 e _ fun H2 e2 => hb H2 (e.trans e2) _ fun H3 e3 => ⟨i, j, rfl, q H3 (e2.trans e3)⟩
theorem ev_cmp {p : Int → Int → Bool} {i j : Int} (ha : Ev ta σ H (.int i)) (hb : Ev tb σ H (.int j)) : Ev (tCmp p ta tb) σ H (.bl (p i j)) := fun H1 e Q q =>
  ha H1 e _ fun H2 e2 => hb H2 (e.trans e2) _ fun H3 e3 => ⟨i, j, rfl, rfl, q H3 (e2.trans e3)⟩
/-! rows of ints -/
theorem el_catI {xs ys : List Int} (ha : EvR ta σ H (iv xs)) (hb : EvR tb σ H (iv ys)) (hz : xs.length + ys.length ≤ 10000000) : EvL (tOp rCat ta tb) σ H (iv (xs ++ ys)) :=
  el_is (el_cat ha hb (by rw [iv_len, iv_len]; exact hz)) (List.map_append ..).symm
theorem el_oneI {n : Int} (h : Ev te σ H (.int n)) : EvL (tLst (tCons te tNil)) σ H (iv [n]) := el_lst (ea_cons h ea_nil) (by show 1 ≤ _; decide)
theorem el_nilI : EvL (tLst tNil) σ H (iv []) := el_lst ea_nil (Nat.zero_le _)
theorem el_repI {k n : Int} (ha : Ev ta σ H (.int n)) (hb : Ev tb σ H (.int k)) (hk : k ≤ 10000000 ∧ -10000000 ≤ k) : EvL (tOp rRep (tLst (tCons ta tNil)) tb) σ H (iv (List.replicate k.toNat n)) :=
  el_is (el_rep (x := .int n) (er_L (el_oneI ha)) hb hk) (List.map_replicate ..).symm
theorem el_repN {k : Nat} {n : Int} (ha : Ev ta σ H (.int n)) (hb : Ev tb σ H (.int (k : Int))) (hk : k ≤ 10000000) : EvL (tOp rRep (tLst (tCons ta tNil)) tb) σ H (iv (List.replicate k n)) :=
  el_is (el_repI ha hb (by omega)) (by rw [Int.toNat_natCast])
theorem cutV_iv (xs : List Int) (lo hi : Option Int) : cutV (iv xs) lo hi = iv ((xs.drop (HT.sIx xs.length 0 lo)).take (HT.sIx xs.length xs.length hi - HT.sIx xs.length 0 lo)) := by
  unfold cutV
  rw [iv_len]
  unfold iv
  rw [List.map_take, List.map_drop]
theorem el_slFromI {xs : List Int} {n : Int} (h : EvR te σ H (iv xs)) (h1 : Ev tx σ H (.int n)) (h0 : 0 ≤ n) : EvL (tSl (rSlL K) te (tPart tx) tNoPart) σ H (iv (xs.drop n.toNat)) :=
  el_is (el_slR h (eo_some h1) eo_none) (by
    rw [cutV_iv, show n = ((n.toNat : Nat) : Int) by omega, HT.sIx_nat, HT.sIx_none, Int.toNat_natCast]
    congr 1
    rw [List.take_of_length_le (by rw [List.length_drop]; omega)]
    by_cases hc : n.toNat ≤ xs.length
    · rw [Nat.min_eq_left hc]
    · rw [Nat.min_eq_right (by omega), List.drop_of_length_le (Nat.le_refl _), List.drop_of_length_le (by omega)])
theorem el_slToI {xs : List Int} {n : Int} (h : EvR te σ H (iv xs)) (h1 : Ev tx σ H (.int n)) (h0 : 0 ≤ n) : EvL (tSl (rSlL K) te tNoPart (tPart tx)) σ H (iv (xs.take n.toNat)) :=
  el_is (el_slR h eo_none (eo_some h1)) (by
    rw [cutV_iv, show n = ((n.toNat : Nat) : Int) by omega, HT.sIx_nat, HT.sIx_none, Int.toNat_natCast, List.drop_zero, Nat.sub_zero]
    congr 1
    by_cases hc : n.toNat ≤ xs.length
    · rw [Nat.min_eq_left hc]
    · rw [Nat.min_eq_right (by omega), List.take_of_length_le (Nat.le_refl _), List.take_of_length_le (by omega)])
theorem ev_lenI {xs : List Int} (ha : EvR ta σ H (iv xs)) : Ev (tCB (rLenS K) (tCons ta tNil)) σ H (.int (xs.length : Int)) := ev_is (ev_lenR ha) (by rw [iv_len])
theorem at_iv {xs : List Int} {i n : Int} (h : atI xs i = some n) : atI (iv xs) i = some (.int n) := by
  unfold atI at h ⊢
  rw [iv_len]
  cases e : ixN xs.length i with
  | none => rw [e] at h; cases h
  | some j =>
    rw [e] at h
    exact iv_get h
theorem ev_ixI {xs : List Int} {i n : Int} (ha : EvR ta σ H (iv xs)) (hb : Ev tb σ H (.int i)) (hv : atI xs i = some n) : Ev (tOp (rIxL K) ta tb) σ H (.int n) := ev_ixR ha hb (at_iv hv)
theorem ev_mod {g : Int → Int → V} {C : Int → Int → Prop} {i j : Int} (ha : Ev ta σ H (.int i)) (hb : Ev tb σ H (.int j)) (hc : C i j) : Ev (tOp (rI C g) ta tb) σ H (g i j) := ev_op ha hb (rv_I hc)
theorem ev_i0 {g : Int → Int → V} {i j : Int} (ha : Ev ta σ H (.int i)) (hb : Ev tb σ H (.int j)) : Ev (tOp (rI0 g) ta tb) σ H (g i j) := ev_op ha hb rv_I0
theorem ev_eqS (ha : Ev ta σ H x) (hb : Ev tb σ H y) (h : scal x y = true) : Ev (tOp rEq ta tb) σ H (.bl (decide (x = y))) := ev_op ha hb (rv_eq h)
theorem ev_neS (ha : Ev ta σ H x) (hb : Ev tb σ H y) (h : scal x y = true) : Ev (tOp rNe ta tb) σ H (.bl (!decide (x = y))) := ev_op ha hb (rv_ne h)
theorem ev_one (h : Ev te σ H x) : Ev te σ H x := h
theorem ev_chain {g g' : Int → Int → Bool} {tc : TE} {i j k : Int} (ha : Ev ta σ H (.int i)) (hb : Ev tb σ H (.int j)) (hc : Ev tc σ H (.int k)) :
    Ev (tChain (rI0 fun i j => .bl (g i j)) (rI0 fun i j => .bl (g' i j)) ta tb tc) σ H (.bl (g i j && g' j k)) := fun H1 e Q q =>
  ha H1 e _ fun H2 e2 => hb H2 (e.trans e2) _ fun H3 e3 => ⟨i, j, rfl, rfl, g i j, rfl, by
    cases hg : g i j with
    | true =>
      rw [hg] at q
      refine iteT ?_
      exact hc H3 ((e.trans e2).trans e3) _ fun H4 e4 => ⟨j, k, rfl, rfl, q H4 ((e2.trans e3).trans e4)⟩
    | false =>
      rw [hg] at q
      refine iteF ?_
      exact q H3 (e2.trans e3)⟩
/-! arguments of which some are lists -/
def EvAP (t : TA) (σ : L2.St) (H : Hp) (P : List V → Hp → Prop) : Prop := ∀ H1, Ex H H1 → ∀ Q : List V → Hp → Prop, (∀ vs H2, Ex H1 H2 → P vs H2 → Q vs H2) → t σ H1 Q
theorem eap_nil : EvAP tNil σ H (fun vs _ => vs = []) := fun H1 _ _ q => q [] H1 (Ex.refl H1) rfl
theorem eap_ev {tr : TA} {P : List V → Hp → Prop} (h : Ev te σ H v) (hr : EvAP tr σ H P) : EvAP (tCons te tr) σ H (fun vs H' => ∃ r, vs = v :: r ∧ P r H') := fun H1 e Q q =>
  h H1 e _ fun H2 e2 => hr H2 (e.trans e2) _ fun vs H3 e3 h3 => q _ H3 (e2.trans e3) ⟨vs, rfl, h3⟩
theorem eap_er {tr : TA} {P : List V → Hp → Prop} (h : EvR te σ H xs) (hr : EvAP tr σ H P) : EvAP (tCons te tr) σ H (fun vs H' => ∃ p r, vs = .ref p :: r ∧ H' p = some (.lst xs) ∧ P r H') := fun H1 e Q q =>
  h H1 e _ fun p H2 e2 h2 => hr H2 (e.trans e2) _ fun vs H3 e3 h3 => q _ H3 (e2.trans e3) ⟨p, vs, rfl, e3 _ _ h2, h3⟩
/-- a written list of lists, and one of them -/
def EvLs (t : TA) (σ : L2.St) (H : Hp) (xss : List (List V)) : Prop := EvAP t σ H (fun vs H' => ∃ ps : List Addr, vs = ps.map V.ref ∧ ps.length = xss.length ∧ ∀ (i : Nat) (p : Addr) (xs : List V), ps[i]? = some p → xss[i]? = some xs → H' p = some (.lst xs))
theorem els_nil : EvLs tNil σ H [] := fun H1 _ _ q => q [] H1 (Ex.refl H1) ⟨[], rfl, rfl, fun i p xs h => by simp at h⟩
theorem els_cons {tr : TA} {xss : List (List V)} (h : EvR te σ H xs) (hr : EvLs tr σ H xss) : EvLs (tCons te tr) σ H (xs :: xss) := fun H1 e Q q =>
  h H1 e _ fun p H2 e2 h2 => hr H2 (e.trans e2) _ fun vs H3 e3 ⟨ps, ev, el, hp⟩ => q _ H3 (e2.trans e3) ⟨p :: ps, by rw [ev]; rfl, by rw [List.length_cons, el]; rfl, fun i p' xs' h1 h3 => by
    cases i with
    | zero =>
      have a1 : p = p' := Option.some.inj h1
      have a2 : xs = xs' := Option.some.inj h3
      subst a1 a2
      exact e3 _ _ h2
    | succ i => exact hp i p' xs' h1 h3⟩
theorem er_pick {t : TA} {xss : List (List V)} {i : Int} {j : Nat} (h : EvLs t σ H xss) (hb : Ev tb σ H (.int i)) (ei : i = (j : Int)) (hj : xss[j]? = some xs) (hz : xss.length ≤ 1000) : EvR (tOp (rIxL K) (tLst t) tb) σ H xs := fun H1 e Q q =>
  h H1 e _ fun vs H2 e2 ⟨ps, ev, el, hp⟩ => by
    subst ev
    have hjl : j < xss.length := (List.getElem?_eq_some_iff.mp hj).1
    have hjp : j < ps.length := by omega
    refine ⟨by rw [List.length_map, el]; exact Nat.le_trans hz (by decide), fun p hpn => hb _ ((e.trans e2).trans (Ex.new hpn)) _ fun H3 e3 => ⟨p, ps.map V.ref, i, .ref ps[j], rfl, rfl, sq_of (e3 _ _ upd_same), ?_, ?_⟩⟩
    · rw [ei]
      exact atI_nat (by rw [List.getElem?_map, List.getElem?_eq_getElem hjp]; rfl)
    · exact q ps[j] H3 ((e2.trans (Ex.new hpn)).trans e3) (e3 _ _ (Ex.new hpn _ _ (hp j ps[j] xs (List.getElem?_eq_getElem hjp) hj)))
/-- a call that gives a new list -/
theorem el_callP {sp : Sp} {dvs : List V} {E : XK} {targs : TA} {P : List V → Hp → Prop} (h : EvAP targs σ H P) (k : ∀ vs H1, Ex H H1 → P vs H1 → ∀ Q : VK, RetL xs H1 Q → sp (vs ++ dvs) H1 Q E) : EvL (tCall sp dvs E targs) σ H xs := fun H1 e Q q =>
  h H1 e _ fun vs H2 e2 p => k vs H2 (e.trans e2) p Q fun a H3 n3 e3 h3 => q a H3 (fresh_back e2 n3) (e2.trans e3) h3
theorem ev_isiTup {n : String} {b : Bool} {a : Addr} (ha : Ev ta σ H (.ref a)) (h : H a = some (.tup xs)) (hb : kitB "tuple" n = some b) : Ev (tCB (rIsi K) (tCons ta (tCons (tC (.ty n)) tNil))) σ H (.bl b) := fun H1 e Q q =>
  ha H1 e _ fun H2 e2 => ⟨.ref a, .ty n, .type "tuple", .type n, b, rfl, .ty n, .base (.tup (e2 _ _ (e _ _ h))), kit_ty hb, q H2 e2⟩
theorem ev_lenTup {a : Addr} (ha : Ev ta σ H (.ref a)) (h : H a = some (.tup xs)) : Ev (tCB (rLenS K) (tCons ta tNil)) σ H (.int (xs.length : Int)) := fun H1 e Q q =>
  ha H1 e _ fun H2 e2 => ⟨a, xs, rfl, Or.inr (st_of (e2 _ _ (e _ _ h))), q H2 e2⟩
theorem ev_ixTup {a : Addr} {i : Int} {j : Nat} (ha : Ev ta σ H (.ref a)) (h : H a = some (.tup xs)) (hb : Ev tb σ H (.int i)) (ei : i = (j : Int)) (hv : xs[j]? = some v) : Ev (tOp (rIxT K) ta tb) σ H v := fun H1 e Q q =>
  ha H1 e _ fun H2 e2 => hb H2 (e.trans e2) _ fun H3 e3 => ⟨a, xs, i, v, rfl, rfl, st_of (e3 _ _ (e2 _ _ (e _ _ h))), by rw [ei]; exact atI_nat hv, q H3 (e2.trans e3)⟩
/-! a call with arguments of which some are lists -/
theorem q_asgP {i : Nat} {sp : Sp} {dvs : List V} {E : XK} {targs : TA} {tz : TS} {D : Ends} {P : List V → Hp → Prop} (h : EvAP targs σ H P) (k : ∀ vs H1, Ex H H1 → P vs H1 → sp (vs ++ dvs) H1 (fun v H2 => tz D (σ.set i (some v)) H2) E) : tSeq (tAsg (tCall sp dvs E targs) (gName i)) tz D σ H :=
  h H (Ex.refl H) _ fun vs H1 e p => k vs H1 e p
theorem s_retP {sp : Sp} {dvs : List V} {E : XK} {targs : TA} {D : Ends} {P : List V → Hp → Prop} (h : EvAP targs σ H P) (k : ∀ vs H1, Ex H H1 → P vs H1 → sp (vs ++ dvs) H1 (fun v H2 => D.rt v H2) E) : tRet (tCall sp dvs E targs) D σ H :=
  h H (Ex.refl H) _ fun vs H1 e p => k vs H1 e p
/-! a call within a try -/
theorem s_dropS {sp : Sp} {vs : List V} {E : L2.St → XK} {targs : TA} {D : Ends} (h : EvA targs σ H vs) (k : ∀ H1, Ex H H1 → sp vs H1 (fun _ H2 => D.nx σ H2) (E σ)) : tDrop (tCallS sp E targs) D σ H :=
  h H (Ex.refl H) _ fun H1 e => k H1 e
/-! a call: the callee's promise in the reader's hand -/
theorem q_asgC {i : Nat} {sp : Sp} {dvs vs : List V} {E : XK} {targs : TA} {tz : TS} {D : Ends} (h : EvA targs σ H vs) (k : ∀ H1, Ex H H1 → sp (vs ++ dvs) H1 (fun v H2 => tz D (σ.set i (some v)) H2) E) : tSeq (tAsg (tCall sp dvs E targs) (gName i)) tz D σ H :=
  h H (Ex.refl H) _ fun H1 e => k H1 e
/-! the reading itself, step by step -/
theorem q_asgW {i : Nat} {tz : TS} {D : Ends} (h : te σ H (fun v H2 => tz D (σ.set i (some v)) H2)) : tSeq (tAsg te (gName i)) tz D σ H := h
theorem s_asgW {i : Nat} {D : Ends} (h : te σ H (fun v H2 => D.nx (σ.set i (some v)) H2)) : tAsg te (gName i) D σ H := h
theorem tup2_go {i j : Nat} {a : Addr} {x y : V} {D : L2.St → Hp → Prop} (hs : SqT K H a [x, y]) (k : D ((σ.set i (some x)).set j (some y)) H) : gTup K 2 (gCons (gName i) (gCons (gName j) gNil)) (.ref a) σ H D :=
  ⟨a, [x, y], rfl, hs, rfl, x, [y], rfl, y, [], rfl, rfl, k⟩
theorem q_asgG {g : TG} {tz : TS} {D : Ends} (h : te σ H (fun v H1 => g v σ H1 (tz D))) : tSeq (tAsg te g) tz D σ H := h
theorem op_go {Q : VK} (h : ta σ H (fun x H1 => tb σ H1 fun y H2 => r x y H2 Q)) : tOp r ta tb σ H Q := h
theorem call_go {sp : Sp} {dvs : List V} {E : XK} {t : TA} {Q : VK} (h : t σ H (fun vs H1 => sp (vs ++ dvs) H1 Q E)) : tCall sp dvs E t σ H Q := h
theorem ev_go {Q : VK} (h : Ev te σ H v) (k : ∀ H2, Ex H H2 → Q v H2) : te σ H Q := h H (Ex.refl H) Q k
theorem er_go {Q : VK} (h : EvR te σ H xs) (k : ∀ p H2, Ex H H2 → H2 p = some (.lst xs) → Q (.ref p) H2) : te σ H Q := h H (Ex.refl H) Q k
theorem el_go {Q : VK} (h : EvL te σ H xs) (k : ∀ p H2, H p = none → Ex H H2 → H2 p = some (.lst xs) → Q (.ref p) H2) : te σ H Q := h H (Ex.refl H) Q k
theorem ea_go {t : TA} {vs : List V} {Q : List V → Hp → Prop} (h : EvA t σ H vs) (k : ∀ H2, Ex H H2 → Q vs H2) : t σ H Q := h H (Ex.refl H) Q k
theorem s_asgC {i : Nat} {sp : Sp} {dvs vs : List V} {E : XK} {targs : TA} {D : Ends} (h : EvA targs σ H vs) (k : ∀ H1, Ex H H1 → sp (vs ++ dvs) H1 (fun v H2 => D.nx (σ.set i (some v)) H2) E) : tAsg (tCall sp dvs E targs) (gName i) D σ H :=
  h H (Ex.refl H) _ fun H1 e => k H1 e
theorem q_dropC {sp : Sp} {dvs vs : List V} {E : XK} {targs : TA} {tz : TS} {D : Ends} (h : EvA targs σ H vs) (k : ∀ H1, Ex H H1 → sp (vs ++ dvs) H1 (fun _ H2 => tz D σ H2) E) : tSeq (tDrop (tCall sp dvs E targs)) tz D σ H :=
  h H (Ex.refl H) _ fun H1 e => k H1 e
theorem s_retC {sp : Sp} {dvs vs : List V} {E : XK} {targs : TA} {D : Ends} (h : EvA targs σ H vs) (k : ∀ H1, Ex H H1 → sp (vs ++ dvs) H1 (fun v H2 => D.rt v H2) E) : tRet (tCall sp dvs E targs) D σ H :=
  h H (Ex.refl H) _ fun H1 e => k H1 e
theorem ea_one (h : Ev te σ H x) : EvA (tCons te tNil) σ H [x] := ea_cons h ea_nil
theorem ea_two (h : Ev ta σ H x) (h2 : Ev tb σ H y) : EvA (tCons ta (tCons tb tNil)) σ H [x, y] := ea_cons h (ea_cons h2 ea_nil)
/-- what is put together of an old heap and one list of one's own -/
theorem q_app1 {tz : TS} {D : Ends} {B : Hp} {l : Addr} {ws : List V} (hb : B l = none) (eb : Ex B H) (hl : H l = some (.lst ws)) (ha : Ev ta σ H (.ref l)) (h : Ev te σ H v) (hz : ws.length < 10000000)
    (k : ∀ H1, Ex B H1 → (∀ a o, a ≠ l → H a = some o → H1 a = some o) → H1 l = some (.lst (ws ++ [v])) → tz D σ H1) : tSeq (tDrop (tBM K "list" rAppend ta (tCons te tNil))) tz D σ H :=
  ha H (Ex.refl H) _ fun H1 e1 => ⟨Or.inl ⟨rfl, ws, sq_of (e1 l _ hl)⟩, h H1 e1 _ fun H2 e2 => ⟨l, ws, v, rfl, rfl, e2 l _ (e1 l _ hl), Nat.lt_of_lt_of_le hz (by decide),
    k _ (Ex.mut (eb.trans (e1.trans e2)) hb) (fun a o n ho => by rw [upd_ne n]; exact (e1.trans e2) _ _ ho) upd_same⟩⟩
theorem s_app1 {D : Ends} {B : Hp} {l : Addr} {ws : List V} (hb : B l = none) (eb : Ex B H) (hl : H l = some (.lst ws)) (ha : Ev ta σ H (.ref l)) (h : Ev te σ H v) (hz : ws.length < 10000000)
    (k : ∀ H1, Ex B H1 → (∀ a o, a ≠ l → H a = some o → H1 a = some o) → H1 l = some (.lst (ws ++ [v])) → D.nx σ H1) : tDrop (tBM K "list" rAppend ta (tCons te tNil)) D σ H :=
  ha H (Ex.refl H) _ fun H1 e1 => ⟨Or.inl ⟨rfl, ws, sq_of (e1 l _ hl)⟩, h H1 e1 _ fun H2 e2 => ⟨l, ws, v, rfl, rfl, e2 l _ (e1 l _ hl), Nat.lt_of_lt_of_le hz (by decide),
    k _ (Ex.mut (eb.trans (e1.trans e2)) hb) (fun a o n ho => by rw [upd_ne n]; exact (e1.trans e2) _ _ ho) upd_same⟩⟩
theorem iv_snoc (ws : List Int) (n : Int) : iv ws ++ [V.int n] = iv (ws ++ [n]) := (List.map_append (l₁ := ws) (l₂ := [n]) (f := V.int)).symm
theorem q_appI {tz : TS} {D : Ends} {B : Hp} {l : Addr} {ws : List Int} {n : Int} (hb : B l = none) (eb : Ex B H) (hl : H l = some (.lst (iv ws))) (ha : Ev ta σ H (.ref l)) (h : Ev te σ H (.int n)) (hz : ws.length < 10000000)
    (k : ∀ H1, Ex B H1 → (∀ a o, a ≠ l → H a = some o → H1 a = some o) → H1 l = some (.lst (iv (ws ++ [n]))) → tz D σ H1) : tSeq (tDrop (tBM K "list" rAppend ta (tCons te tNil))) tz D σ H :=
  q_app1 hb eb hl ha h (by rw [iv_len]; exact hz) fun H1 e1 e2 h1 => k H1 e1 e2 (by rw [h1, iv_snoc])
theorem s_appI {D : Ends} {B : Hp} {l : Addr} {ws : List Int} {n : Int} (hb : B l = none) (eb : Ex B H) (hl : H l = some (.lst (iv ws))) (ha : Ev ta σ H (.ref l)) (h : Ev te σ H (.int n)) (hz : ws.length < 10000000)
    (k : ∀ H1, Ex B H1 → (∀ a o, a ≠ l → H a = some o → H1 a = some o) → H1 l = some (.lst (iv (ws ++ [n]))) → D.nx σ H1) : tDrop (tBM K "list" rAppend ta (tCons te tNil)) D σ H :=
  s_app1 hb eb hl ha h (by rw [iv_len]; exact hz) fun H1 e1 e2 h1 => k H1 e1 e2 (by rw [h1, iv_snoc])
/-- xs[j] = e, in a list of one's own -/
theorem q_setI {tz : TS} {D : Ends} {B : Hp} {l : Addr} {ws : List Int} {n i : Int} {j : Nat} (hb : B l = none) (eb : Ex B H) (hl : H l = some (.lst (iv ws))) (h : Ev te σ H (.int n)) (ha : Ev ta σ H (.ref l)) (hi : Ev tb σ H (.int i)) (ei : i = (j : Int)) (hj : j < ws.length)
    (k : ∀ H1, Ex B H1 → (∀ a o, a ≠ l → H a = some o → H1 a = some o) → H1 l = some (.lst (iv (ws.set j n))) → tz D σ H1) : tSeq (tAsg te (gSub ta tb rSetL)) tz D σ H :=
  h H (Ex.refl H) _ fun H1 e1 => ha H1 e1 _ fun H2 e2 => hi H2 (e1.trans e2) _ fun H3 e3 => ⟨l, iv ws, i, j, rfl, rfl, ((e1.trans e2).trans e3) l _ hl, by rw [ei, iv_len]; exact ixN_nat hj, by
    refine k _ (Ex.mut (eb.trans ((e1.trans e2).trans e3)) hb) (fun a o n ho => by rw [upd_ne n]; exact ((e1.trans e2).trans e3) _ _ ho) ?_
    rw [upd_same]
    unfold iv
    rw [List.map_set]⟩
theorem s_setI {D : Ends} {B : Hp} {l : Addr} {ws : List Int} {n i : Int} {j : Nat} (hb : B l = none) (eb : Ex B H) (hl : H l = some (.lst (iv ws))) (h : Ev te σ H (.int n)) (ha : Ev ta σ H (.ref l)) (hi : Ev tb σ H (.int i)) (ei : i = (j : Int)) (hj : j < ws.length)
    (k : ∀ H1, Ex B H1 → (∀ a o, a ≠ l → H a = some o → H1 a = some o) → H1 l = some (.lst (iv (ws.set j n))) → D.nx σ H1) : tAsg te (gSub ta tb rSetL) D σ H :=
  h H (Ex.refl H) _ fun H1 e1 => ha H1 e1 _ fun H2 e2 => hi H2 (e1.trans e2) _ fun H3 e3 => ⟨l, iv ws, i, j, rfl, rfl, ((e1.trans e2).trans e3) l _ hl, by rw [ei, iv_len]; exact ixN_nat hj, by
    refine k _ (Ex.mut (eb.trans ((e1.trans e2).trans e3)) hb) (fun a o n ho => by rw [upd_ne n]; exact ((e1.trans e2).trans e3) _ _ ho) ?_
    rw [upd_same]
    unfold iv
    rw [List.map_set]⟩
/-- for i, x in enumerate(xs) -/
theorem s_forEn {D : Ends} {tu : TS} {a : Addr} {j1 j2 : Nat} {xs : List V} (h : Ev ta σ H (.ref a)) (hx : H a = some (.lst xs)) (Pv : Nat → L2.St → Hp → Prop) (h0 : ∀ H1, Ex H H1 → Pv 0 σ H1) (hl : ∀ i σ' H', i ≤ xs.length → Pv i σ' H' → SqL K H' a xs)
    (hs : ∀ i x σ' H', xs[i]? = some x → Pv i σ' H' → ∀ H2, Ex H' H2 → tu { D with nx := Pv (i + 1), ct := Pv (i + 1), bk := D.nx } ((σ'.set j1 (some (.int (i : Int)))).set j2 (some x)) H2) (hd : ∀ σ' H', Pv xs.length σ' H' → D.nx σ' H') :
    tFor (iEnum K (tCons ta tNil)) (gTup K 2 (gCons (gName j1) (gCons (gName j2) gNil))) tu D σ H := h H (Ex.refl H) _ fun H1 e1 => ⟨a, xs, rfl, sq_of (e1 _ _ hx), by
  refine ⟨fun i m σ' H' => i + m = xs.length ∧ Pv i σ' H', ⟨xs.length, Nat.zero_add _, h0 H1 e1⟩, ?_⟩
  rintro i m σ' H' ⟨em, p⟩
  have q := hl i σ' H' (by omega) p
  by_cases hi : i < xs.length
  · refine .inr ⟨⟨xs, xs[i], q, List.getElem?_eq_getElem hi⟩, Pv (i + 1), fun σ2 H2 hN => ⟨m - 1, by omega, by omega, hN⟩, fun x H2 hy => ?_⟩
    obtain ⟨T, x1, rfl, nT, rfl, f1⟩ := hy
    have ex1 : x1 = xs[i] := Option.some.inj ((f1 _ q).symm.trans (List.getElem?_eq_getElem hi))
    subst ex1
    exact ⟨T, [.int (i : Int), xs[i]], rfl, .inl (.inl upd_same), rfl, .int (i : Int), [xs[i]], rfl, xs[i], [], rfl, rfl, hs i _ σ' H' (List.getElem?_eq_getElem hi) p _ (Ex.new nT)⟩
  · have e : i = xs.length := by omega
    subst e
    exact .inl ⟨⟨xs, q, Nat.le_refl _⟩, hd σ' H' p⟩⟩
theorem q_forEn {D : Ends} {tu tz : TS} {a : Addr} {j1 j2 : Nat} {xs : List V} (h : Ev ta σ H (.ref a)) (hx : H a = some (.lst xs)) (Pv : Nat → L2.St → Hp → Prop) (h0 : ∀ H1, Ex H H1 → Pv 0 σ H1) (hl : ∀ i σ' H', i ≤ xs.length → Pv i σ' H' → SqL K H' a xs)
    (hs : ∀ i x σ' H', xs[i]? = some x → Pv i σ' H' → ∀ H2, Ex H' H2 → tu { D with nx := Pv (i + 1), ct := Pv (i + 1), bk := tz D } ((σ'.set j1 (some (.int (i : Int)))).set j2 (some x)) H2) (hd : ∀ σ' H', Pv xs.length σ' H' → tz D σ' H') :
    tSeq (tFor (iEnum K (tCons ta tNil)) (gTup K 2 (gCons (gName j1) (gCons (gName j2) gNil))) tu) tz D σ H := s_forEn (D := { D with nx := tz D }) h hx Pv h0 hl hs hd
/-! comprehensions over rows -/
theorem yes_go {A B : Hp → Prop} (h : A H) : tYes σ H (fun b H3 => if b = true then A H3 else B H3) := by
  show (if true = true then A H else B H)
  rw [if_pos rfl]
  exact h
theorem el_lcMap {tl : TE} {j : Nat} {vs : List Nat} (g : V → V) (h : EvR tl σ H xs) (hz : xs.length ≤ 1000000) (hw : ∀ x, wipe ((wipe σ vs).set j (some x)) vs = wipe σ vs)
    (he : ∀ (i : Nat) (x : V) H1, Ex H H1 → xs[i]? = some x → Ev te ((wipe σ vs).set j (some x)) H1 (g x)) :
    EvL (tLc (iList K tl) (gName j) tYes te vs) σ H (xs.map g) := fun H0 e Q q => h H0 e _ fun a H1 e1 hx => ⟨a, rfl, ⟨xs, sq_of hx⟩, fun Dl hD =>
  lc_list (xs := xs) (fun i H' => Ex H1 H' ∧ H' Dl = some (.lst ((xs.map g).take i))) ⟨Ex.new hD, by rw [List.take_zero]; exact upd_same⟩ (fun i H' _ p => sq_of (p.1 a _ hx)) (fun i x H' hi p => ⟨hw x, by
    refine yes_go ?_
    refine he i x H1 (e.trans e1) hi H' p.1 _ fun H4 e4 => ⟨_, e4 Dl _ p.2, ?_, Ex.mut (p.1.trans e4) hD, ?_⟩
    · have z := (List.getElem?_eq_some_iff.mp hi).1
      rw [List.length_take, List.length_map]
      show _ < 2 ^ 24
      omega
    · have z : (xs.map g)[i]? = some (g x) := by rw [List.getElem?_map, hi]; rfl
      rw [List.take_add_one, z]
      exact upd_same⟩)
    (fun H' p => q Dl H' (fresh_back e1 hD) (e1.trans p.1) (by
      have z := p.2
      rw [List.take_of_length_le (by rw [List.length_map]; exact Nat.le_refl _)] at z
      exact z))⟩
theorem el_lcRg {ta : TA} {j : Nat} {vs : List Nat} {n : Int} (g : Nat → V) (h : EvA ta σ H [.int n]) (hn : 0 ≤ n ∧ n ≤ 1000000) (hw : ∀ x, wipe ((wipe σ vs).set j (some x)) vs = wipe σ vs)
    (he : ∀ (i : Nat) H1, Ex H H1 → (i : Int) < n → Ev te ((wipe σ vs).set j (some (.int (i : Int)))) H1 (g i)) :
    EvL (tLc (iRng1 ta) (gName j) tYes te vs) σ H ((List.range n.toNat).map g) := fun H0 e Q q => h H0 e _ fun H1 e1 => ⟨n, rfl, by omega, by omega, fun Dl hD =>
  lc_range (lo := 0) (n := n.toNat) (fun i H' => Ex H1 H' ∧ H' Dl = some (.lst (((List.range n.toNat).map g).take i))) ⟨Ex.new hD, by rw [List.take_zero]; exact upd_same⟩ (fun i H' hi p => by
    have e0 : (0 : Int) + (i : Int) = (i : Int) := Int.zero_add _
    refine ⟨hw _, ?_⟩
    refine yes_go ?_
    rw [e0]
    refine he i H1 (e.trans e1) (by omega) H' p.1 _ fun H4 e4 => ⟨_, e4 Dl _ p.2, ?_, Ex.mut (p.1.trans e4) hD, ?_⟩
    · rw [List.length_take, List.length_map, List.length_range]
      show _ < 2 ^ 24
      omega
    · have z : ((List.range n.toNat).map g)[i]? = some (g i) := by rw [List.getElem?_map, List.getElem?_range hi]; rfl
      rw [List.take_add_one, z]
      exact upd_same) (fun H' p => q Dl H' (fresh_back e1 hD) (e1.trans p.1) (by
      have z := p.2
      rw [List.take_of_length_le (by rw [List.length_map, List.length_range]; exact Nat.le_refl _)] at z
      exact z))⟩
/-- [e for a, b in zip(xs, ys)] -/
theorem el_lcZip {i j : Nat} {vs : List Nat} {xs ys : List V} (g : V → V → V) (ha : EvR ta σ H xs) (hb : EvR tb σ H ys) (hz : xs.length ≤ 1000000) (hw : ∀ x y, wipe (((wipe σ vs).set i (some x)).set j (some y)) vs = wipe σ vs)
    (he : ∀ (k : Nat) (x y : V) H1, Ex H H1 → xs[k]? = some x → ys[k]? = some y → Ev te (((wipe σ vs).set i (some x)).set j (some y)) H1 (g x y)) :
    EvL (tLc (iZip K (tCons ta (tCons tb tNil))) (gTup K 2 (gCons (gName i) (gCons (gName j) gNil))) tYes te vs) σ H (List.zipWith g xs ys) := fun H0 e Q q =>
  ha H0 e _ fun a H1 e1 h1 => hb H1 (e.trans e1) _ fun b H2 e2 h2 => ⟨a, b, xs, ys, rfl, sq_of (e2 _ _ h1), sq_of h2, fun Dl hD => by
    have e02 : Ex H H2 := (e.trans e1).trans e2
    have hA : H2 a = some (.lst xs) := e2 _ _ h1
    refine ⟨fun k m H' => k + m = (List.zipWith g xs ys).length ∧ Ex H2 H' ∧ H' Dl = some (.lst ((List.zipWith g xs ys).take k)), ⟨(List.zipWith g xs ys).length, Nat.zero_add _, Ex.new hD, by rw [List.take_zero]; exact upd_same⟩, ?_⟩
    rintro k m H' ⟨em, p1, p2⟩
    have hl : (List.zipWith g xs ys).length = min xs.length ys.length := List.length_zipWith
    by_cases hk : k < (List.zipWith g xs ys).length
    · have kx : k < xs.length := by omega
      have ky : k < ys.length := by omega
      refine .inr ⟨⟨xs, ys, xs[k], ys[k], sq_of (p1 _ _ hA), sq_of (p1 _ _ h2), List.getElem?_eq_getElem kx, List.getElem?_eq_getElem ky⟩, fun H4 => Ex H2 H4 ∧ H4 Dl = some (.lst ((List.zipWith g xs ys).take (k + 1))), fun H4 hN => ⟨m - 1, by omega, by omega, hN.1, hN.2⟩, fun x H4 hy => ?_⟩
      obtain ⟨T, x1, x2, rfl, nT, rfl, f1, f2⟩ := hy
      have ex1 : x1 = xs[k] := Option.some.inj ((f1 _ (sq_of (p1 _ _ hA))).symm.trans (List.getElem?_eq_getElem kx))
      have ex2 : x2 = ys[k] := Option.some.inj ((f2 _ (sq_of (p1 _ _ h2))).symm.trans (List.getElem?_eq_getElem ky))
      subst ex1 ex2
      refine ⟨T, [xs[k], ys[k]], rfl, .inl (.inl upd_same), rfl, xs[k], [ys[k]], rfl, ys[k], [], rfl, rfl, hw _ _, ?_⟩
      refine yes_go ?_
      refine he k xs[k] ys[k] H2 e02 (List.getElem?_eq_getElem kx) (List.getElem?_eq_getElem ky) _ (p1.trans (Ex.new nT)) _ fun H5 e5 => ⟨_, e5 Dl _ (Ex.new nT _ _ p2), ?_, Ex.mut ((p1.trans (Ex.new nT)).trans e5) hD, ?_⟩
      · rw [List.length_take]
        show _ < 2 ^ 24
        omega
      · have z : (List.zipWith g xs ys)[k]? = some (g xs[k] ys[k]) := by
          rw [List.getElem?_zipWith, List.getElem?_eq_getElem kx, List.getElem?_eq_getElem ky]
        rw [List.take_add_one, z]
        exact upd_same
    · refine .inl ⟨⟨xs, ys, sq_of (p1 _ _ hA), sq_of (p1 _ _ h2), by omega⟩, ?_⟩
      have z := p2
      rw [List.take_of_length_le (by omega)] at z
      exact q Dl H' (fresh_back (e1.trans e2) hD) ((e1.trans e2).trans p1) z⟩
end
end Cg

set_option Elab.async false
set_option linter.all false
set_option maxRecDepth 100000
set_option maxHeartbeats 4000000
/-! ## Pre 2: classes of the program, their methods, what stands at an address and changes -/
namespace Cg
open PySem PySem.Spec PyProof.Rows L2 Evl
structure ClsT (K : PySem.W.Frag) (mg : Str → Option Value) (x : Str) (C : Addr) : Prop where
  cl : Cls K C
  g : mg x = some (.ref C)
def RawM (K : PySem.W.Frag) (C : Addr) (m qual : Str) (st : Stmt) (ps : List Str) : Prop := ∃ f fd, Fun K m qual st f fd ∧ Binds K fd ps [] ∧ Meth K C m f
def RawI (K : PySem.W.Frag) (C : Addr) (qual : Str) (st : Stmt) (ps : List Str) : Prop := ∃ f fd, Fun K "__init__" qual st f fd ∧ Binds K fd ps [] ∧ Mk K C f
def HasM (P : Program) (w : World) (K : PySem.W.Frag) (mg : Str → Option Value) (base : Heap) (k : Nat) (C : Addr) (m : Str) (ps : List Str) (sp : Sp) : Prop :=
  ∃ f fd, FnOk P w K mg base (L2.CX P w) k f fd ps sp ∧ Meth K C m f ∧ Binds K fd ps []
def HasI (P : Program) (w : World) (K : PySem.W.Frag) (mg : Str → Option Value) (base : Heap) (k : Nat) (C : Addr) (ps : List Str) (sp : Sp) : Prop :=
  ∃ f fd, FnOk P w K mg base (L2.CX P w) k f fd ps sp ∧ Mk K C f ∧ Binds K fd ps []
section
variable {P : Program} {w : World} {K : PySem.W.Frag} {mg : Str → Option Value} {base : Heap}
theorem RawM.ok {C : Addr} {m qual : Str} {st : Stmt} {N ps : List Str} {k : Nat} {sp : Sp} (R : RawM K C m qual st ps) (S : FnScope N ps (defScope st)) (len : ∀ vs H Q E, sp vs H Q E → vs.length = ps.length)
    (hbody : ∀ (f : Addr) (cdv : Value) (A : Around) (outer : List Env) (s : Shared) (H : Hp) (vs : List V) (Q : VK) (E : XK), Room k (A.deeper (envOfC qual (defScope st) s.heap.objs.size f cdv)) → sp vs H Q E →
      ∃ t, PSs (cxOf (L2.CX P w) P w K mg base N qual (defScope st) f cdv A outer s H E) (defBody st) t ∧ t { nx := fun _ H' => Q .non H', rt := Q } (start N vs) H) : HasM P w K mg base (k + 1) C m ps sp := by
  obtain ⟨f, fd, F, b, g⟩ := R
  exact ⟨f, fd, F.okX S len fun cdv A outer s H vs Q E hr h => hbody f cdv A outer s H vs Q E hr h, g, b⟩
theorem RawI.ok {C : Addr} {qual : Str} {st : Stmt} {N ps : List Str} {k : Nat} {sp : Sp} (R : RawI K C qual st ps) (S : FnScope N ps (defScope st)) (len : ∀ vs H Q E, sp vs H Q E → vs.length = ps.length)
    (hbody : ∀ (f : Addr) (cdv : Value) (A : Around) (outer : List Env) (s : Shared) (H : Hp) (vs : List V) (Q : VK) (E : XK), Room k (A.deeper (envOfC qual (defScope st) s.heap.objs.size f cdv)) → sp vs H Q E →
      ∃ t, PSs (cxOf (L2.CX P w) P w K mg base N qual (defScope st) f cdv A outer s H E) (defBody st) t ∧ t { nx := fun _ H' => Q .non H', rt := Q } (start N vs) H) : HasI P w K mg base (k + 1) C ps sp := by
  obtain ⟨f, fd, F, b, g⟩ := R
  exact ⟨f, fd, F.okX S len fun cdv A outer s H vs Q E hr h => hbody f cdv A outer s H vs Q E hr h, g, b⟩
end
/-! ### a method's call, an object's making: outside a try, and within one (Z) -/
section
variable {X : Cx} {k : Nat} {C : Addr} {ps : List Str} {sp : Sp} {E : XK} {G : L2.St → XK} {x m : Str} {p pos apos : Pos} {o e : Expr} {es : List Expr} {ta : TE} {t : TA}
theorem pe_methH {pl : Sem Bool} (he : PE X o ta) (c : Cls X.K C) (F : HasM X.prog X.w X.K X.mg X.base k C m ps sp) (hr : Room k X.A) (hx : Passes (L2.CX X.prog X.w) X E) (ha : PA X (e :: es) t)
    (h1 : starEach (e :: es) X.env = (false, eval e X.env) :: starEach es X.env := by rfl) (h2 : (backTo pos (starEach es X.env)).any (·.1) = false := by rfl)
    (h3 : eval (.Call (.Attribute o m apos) (e :: es) [] pos) X.env = (do let ov ← eval o X.env; standAt apos.atName; let (f, first) ← holding [ov] (getMethod ov m pl); callWith pos f first (backTo pos (starEach (e :: es) X.env)) (backToKw pos (keywordEach [] X.env))) := by rfl) :
    PE X (.Call (.Attribute o m apos) (e :: es) [] pos) (tMeth C m sp [] E ta t) := by
  obtain ⟨f, fd, F, hm, b⟩ := F
  exact pe_meth he c hm F hr b .nil hx ha h1 h2 h3
theorem pe_methH0 {pl : Sem Bool} (he : PE X o ta) (c : Cls X.K C) (F : HasM X.prog X.w X.K X.mg X.base k C m ps sp) (hr : Room k X.A) (hx : Passes (L2.CX X.prog X.w) X E)
    (h3 : eval (.Call (.Attribute o m apos) [] [] pos) X.env = (do let ov ← eval o X.env; standAt apos.atName; let (f, first) ← holding [ov] (getMethod ov m pl); callWith pos f first (backTo pos (starEach [] X.env)) (backToKw pos (keywordEach [] X.env))) := by rfl) :
    PE X (.Call (.Attribute o m apos) [] [] pos) (tMeth C m sp [] E ta tNil) := by
  obtain ⟨f, fd, F, hm, b⟩ := F
  exact pe_meth0 he c hm F hr b .nil hx h3
theorem pe_makeH (F : HasI X.prog X.w X.K X.mg X.base k C ps sp) (hr : Room (k + 1) X.A) (g : X.mg x = some (.ref C)) (hx : Passes (L2.CX X.prog X.w) X E) (ha : PA X (e :: es) t) (hg : Gl X x := by rfl) (hdb : (x == ("__debug__" : Str)) = false := by decide)
    (h1 : starEach (e :: es) X.env = (false, eval e X.env) :: starEach es X.env := by rfl) (h2 : (backTo pos (starEach es X.env)).any (·.1) = false := by rfl) : PE X (.Call (.Name x p) (e :: es) [] pos) (tMake C sp [] E t) := by
  obtain ⟨f, fd, F, M, b⟩ := F
  exact pe_make M F hr hg g b .nil hx ha hdb h1 h2
/-- o.m(e, ..) within a try -/
def tMethZ (C : Addr) (m : Str) (sp : Sp) (G : L2.St → XK) (ta : TE) (t : TA) : TE := fun σ H Q => ta σ H fun v H1 => ∃ (a dx : Addr) (fs : List (Str × V)), v = .ref a ∧ (H1 a = some (.ins C dx fs) ∧ fs.lookup m = none) ∧ t σ H1 fun vs H2 => sp (v :: vs) H2 Q (G σ)
theorem pe_methZ {pl : Sem Bool} (he : PE X o ta) (c : Cls X.K C) (F : HasM X.prog X.w X.K X.mg X.base k C m ps sp) (hr : Room k X.A) (hx : ∀ σ, PassesAt (L2.CX X.prog X.w) X σ (G σ)) (ha : PA X (e :: es) t)
    (h1 : starEach (e :: es) X.env = (false, eval e X.env) :: starEach es X.env := by rfl) (h2 : (backTo pos (starEach es X.env)).any (·.1) = false := by rfl)
    (h3 : eval (.Call (.Attribute o m apos) (e :: es) [] pos) X.env = (do let ov ← eval o X.env; standAt apos.atName; let (f, first) ← holding [ov] (getMethod ov m pl); callWith pos f first (backTo pos (starEach (e :: es) X.env)) (backToKw pos (keywordEach [] X.env))) := by rfl) :
    PE X (.Call (.Attribute o m apos) (e :: es) [] pos) (tMethZ C m sp G ta t) := by
  obtain ⟨f, fd, F, hm, b⟩ := F
  constructor
  intro pins s σ H Q I h
  refine PySem.W.methodCall_KW (pl := pl) (thn (he.run pins s σ H _ I h) fun ov s1 hov => ?_) h3
  obtain ⟨v, H1, J, rv, a, dx, fs, rfl, ⟨ea, el⟩, q⟩ := hov
  have eo : ov = Value.ref a := rv
  subst eo
  refine getmeth_ok J ea c hm el ?_
  refine PySem.W.callWith_K (first := [.ref a]) (h₀ := X.base) J.ok.mod.kin hm.kp (thn (ha.run pos pins s1 σ H1 _ J q) fun us s2 hus => ?_) h1 h2
  obtain ⟨vs, H2, J2, r, q2⟩ := hus
  exact ⟨J2.kIn, run_fnS (us := .ref a :: us) (vs := .ref a :: vs) F hr b (hx σ) J2 (.cons rfl r) q2⟩
/-- C(e, ..) within a try -/
def tMakeZ (C : Addr) (sp : Sp) (G : L2.St → XK) (t : TA) : TE := fun σ H Q => t σ H fun vs H1 => ∀ y dy, H1 y = none → H1 dy = none → dy ≠ y →
  sp (.ref y :: vs) (upd (upd H1 dy (.own y)) y (.ins C dy [])) (fun v H2 => v = .non ∧ Q (.ref y) H2) (G σ)
theorem run_makeZ {f : Addr} {fd : FuncData} {pins : List (Addr × Obj)} {σ : L2.St} {H : Hp} {s : Shared} {Q : VK} {us : List Value} {vs : List V} {E : XK} (M : Mk X.K C f) (F : FnOk X.prog X.w X.K X.mg X.base (L2.CX X.prog X.w) k f fd ps sp) (hr : Room (k + 1) X.A) (hb : Binds X.K fd ps [])
    (hx : PassesAt (L2.CX X.prog X.w) X σ E) (I : Inv X pins σ H s) (r : Vals vs us)
    (h : ∀ y dy, H y = none → H dy = none → dy ≠ y → sp (.ref y :: vs) (upd (upd H dy (.own y)) y (.ins C dy [])) (fun v H2 => v = .non ∧ Q (.ref y) H2) E) :
    wpAny (model X.prog X.w) X.A (call (.ref C) us) (EP X pins σ Q) X.xe s := by
  have sz := s.heap.objs.size
  have z := h (s.heap.objs.size + 1) s.heap.objs.size (I.hok.fresh (Nat.le_add_right _ 1)) (I.hok.fresh (Nat.le_refl _)) (Nat.ne_of_lt (Nat.lt_add_one _))
  have J := Inv.made (C := C) I
  have r' : Vals (V.ref (s.heap.objs.size + 1) :: vs) (Value.ref (s.heap.objs.size + 1) :: us) := .cons rfl r
  have len : (Value.ref (s.heap.objs.size + 1) :: us ++ []).length = ps.length := by
    rw [List.append_nil, ← r'.length]
    exact F.len _ _ _ _ z
  have bb := hb _ (Value.ref (s.heap.objs.size + 1) :: us) J.kIn len
  rw [List.append_nil] at bb
  have run := F.run _ X.stack _ _ ⟨Value.ref (s.heap.objs.size + 1) :: us, []⟩ (Value.ref (s.heap.objs.size + 1) :: us) _ _ E (hr.make C us []) (J.env0.make C us []) bb r' z
  refine wpAny_call (make_map (f := f) I.kIn M.makes M.init (beq_iff_eq.mp M.fn) (codeAny_mono run fun out s' ho => ?_))
  cases out with
  | error e => exact hx pins _ _ e s' J ho
  | ok fl =>
    cases fl with
    | next => exact ho.elim
    | brk => exact ho.elim
    | cont => exact ho.elim
    | ret u =>
      obtain ⟨v, H', J3, rv, hv, q⟩ := J.after ho
      cases hv
      exact ⟨rv, V.ref (s.heap.objs.size + 1), H', J3, rfl, q⟩
theorem pe_makeZ (F : HasI X.prog X.w X.K X.mg X.base k C ps sp) (hr : Room (k + 1) X.A) (g : X.mg x = some (.ref C)) (hx : ∀ σ, PassesAt (L2.CX X.prog X.w) X σ (G σ)) (ha : PA X (e :: es) t) (hg : Gl X x := by rfl) (hdb : (x == ("__debug__" : Str)) = false := by decide)
    (h1 : starEach (e :: es) X.env = (false, eval e X.env) :: starEach es X.env := by rfl) (h2 : (backTo pos (starEach es X.env)).any (·.1) = false := by rfl) : PE X (.Call (.Name x p) (e :: es) [] pos) (tMakeZ C sp G t) := by
  obtain ⟨f, fd, F, M, b⟩ := F
  constructor
  intro pins s σ H Q I h
  refine wpAny_Call_Name_kw (ld_glob I hg g ?_ hdb)
  refine PySem.W.callWith_K (h₀ := X.base) I.ok.mod.kin M.kp (thn (ha.run pos pins s σ H _ I h) fun us s1 hus => ?_) h1 h2
  obtain ⟨vs, H1, J, r, q⟩ := hus
  exact ⟨J.kIn, run_makeZ M F hr b (hx σ) J r q⟩
end
theorem kk_count (K) {X : Cx} (h : X.K = K := by rfl) : MtR X "list.count" (rCntI K) := h ▸ mt_lcount
/-! ### what changes at one address alone -/
def Kp (l : Addr) (H H' : Hp) : Prop := ∀ a o, a ≠ l → H a = some o → H' a = some o
theorem Kp.refl (l : Addr) (H : Hp) : Kp l H H := fun _ _ _ h => h
theorem Kp.upd {l : Addr} {H : Hp} {o : HO} : Kp l H (upd H l o) := fun a u n h => by rw [upd_ne n]; exact h
theorem Kp.trans {l : Addr} {H H1 H2 : Hp} (a : Kp l H H1) (b : Kp l H1 H2) : Kp l H H2 := fun x o n h => b x o n (a x o n h)
theorem Kp.of {l : Addr} {H H' : Hp} (e : Ex H H') : Kp l H H' := fun a o _ h => e a o h
theorem Kp.ex {l : Addr} {B H H' : Hp} (k : Kp l H H') (hb : B l = none) (e : Ex B H) : Ex B H' := fun a o h => k a o (ne_of_none h hb) (e a o h)
/-! ### fields and methods in a reading -/
section
variable {K : PySem.W.Frag} {σ : L2.St} {H H' : Hp} {ta tb te tx : TE} {t u : TT} {x y z v : V} {xs ys : List V} {a C dx : Addr} {fs : List (Str × V)} {f m : Str}
theorem ev_fld (h : Ev te σ H (.ref a)) (ho : H a = some (.ins C dx fs)) (c : Cls K C) (n : NoAttr K C f) (l : fs.lookup f = some v) : Ev (tFld K te f) σ H v := fun H1 e Q q =>
  h H1 e _ fun H2 e2 => ⟨a, C, dx, fs, v, rfl, e2 _ _ (e _ _ ho), c, n, l, q H2 e2⟩
theorem q_fld {D : Ends} {tz : TS} (h : Ev te σ H v) (hs : Ev ta σ H (.ref a)) (ho : H a = some (.ins C dx fs)) (c : Cls K C) (n : NoAttr K C f) (hl : fs.length < 1000) (k : ∀ H1, Ex H H1 → tz D σ (upd H1 a (.ins C dx (putF f v fs)))) : tSeq (sFld K ta te f) tz D σ H :=
  h H (Ex.refl H) _ fun H1 e1 => hs H1 e1 _ fun H2 e2 => ⟨a, C, dx, fs, rfl, e2 _ _ (e1 _ _ ho), c, n, hl, k H2 (e1.trans e2)⟩
theorem s_fld {D : Ends} (h : Ev te σ H v) (hs : Ev ta σ H (.ref a)) (ho : H a = some (.ins C dx fs)) (c : Cls K C) (n : NoAttr K C f) (hl : fs.length < 1000) (k : ∀ H1, Ex H H1 → D.nx σ (upd H1 a (.ins C dx (putF f v fs)))) : sFld K ta te f D σ H :=
  h H (Ex.refl H) _ fun H1 e1 => hs H1 e1 _ fun H2 e2 => ⟨a, C, dx, fs, rfl, e2 _ _ (e1 _ _ ho), c, n, hl, k H2 (e1.trans e2)⟩
theorem q_fldL {D : Ends} {tz : TS} (h : EvL te σ H xs) (hs : Ev ta σ H (.ref a)) (ho : H a = some (.ins C dx fs)) (c : Cls K C) (n : NoAttr K C f) (hl : fs.length < 1000) (k : ∀ p H1, H p = none → Ex H H1 → H1 p = some (.lst xs) → tz D σ (upd H1 a (.ins C dx (putF f (.ref p) fs)))) : tSeq (sFld K ta te f) tz D σ H :=
  h H (Ex.refl H) _ fun p H1 n1 e1 h1 => hs H1 e1 _ fun H2 e2 => ⟨a, C, dx, fs, rfl, e2 _ _ (e1 _ _ ho), c, n, hl, k p H2 n1 (e1.trans e2) (e2 _ _ h1)⟩
theorem s_fldL {D : Ends} (h : EvL te σ H xs) (hs : Ev ta σ H (.ref a)) (ho : H a = some (.ins C dx fs)) (c : Cls K C) (n : NoAttr K C f) (hl : fs.length < 1000) (k : ∀ p H1, H p = none → Ex H H1 → H1 p = some (.lst xs) → D.nx σ (upd H1 a (.ins C dx (putF f (.ref p) fs)))) : sFld K ta te f D σ H :=
  h H (Ex.refl H) _ fun p H1 n1 e1 h1 => hs H1 e1 _ fun H2 e2 => ⟨a, C, dx, fs, rfl, e2 _ _ (e1 _ _ ho), c, n, hl, k p H2 n1 (e1.trans e2) (e2 _ _ h1)⟩
theorem meth_go {sp : Sp} {dvs : List V} {E : XK} {t : TA} {Q : VK} (h : Ev ta σ H (.ref a)) (ho : H a = some (.ins C dx fs)) (hm : fs.lookup m = none) (k : ∀ H1, Ex H H1 → t σ H1 fun vs H2 => sp (.ref a :: (vs ++ dvs)) H2 Q E) : tMeth C m sp dvs E ta t σ H Q :=
  h H (Ex.refl H) _ fun H1 e => ⟨a, dx, fs, rfl, e _ _ ho, hm, k H1 e⟩
theorem methZ_go {sp : Sp} {G : L2.St → XK} {t : TA} {Q : VK} (h : Ev ta σ H (.ref a)) (ho : H a = some (.ins C dx fs)) (hm : fs.lookup m = none) (k : ∀ H1, Ex H H1 → t σ H1 fun vs H2 => sp (.ref a :: vs) H2 Q (G σ)) : tMethZ C m sp G ta t σ H Q :=
  h H (Ex.refl H) _ fun H1 e => ⟨a, dx, fs, rfl, ⟨e _ _ ho, hm⟩, k H1 e⟩
theorem el_meth {sp : Sp} {dvs : List V} {E : XK} {t : TA} {P : List V → Hp → Prop} (h : Ev ta σ H (.ref a)) (ho : H a = some (.ins C dx fs)) (hm : fs.lookup m = none) (ht : EvAP t σ H P)
    (k : ∀ vs H1, Ex H H1 → P vs H1 → ∀ Q : VK, RetL xs H1 Q → sp (.ref a :: (vs ++ dvs)) H1 Q E) : EvL (tMeth C m sp dvs E ta t) σ H xs := fun H1 e Q q =>
  h H1 e _ fun H2 e2 => ⟨a, dx, fs, rfl, e2 _ _ (e _ _ ho), hm, ht H2 (e.trans e2) _ fun vs H3 e3 p => k vs H3 ((e.trans e2).trans e3) p Q fun l H4 n4 e4 h4 => q l H4 (fresh_back (e2.trans e3) n4) ((e2.trans e3).trans e4) h4⟩
theorem ev_meth {sp : Sp} {dvs : List V} {E : XK} {t : TA} {P : List V → Hp → Prop} (h : Ev ta σ H (.ref a)) (ho : H a = some (.ins C dx fs)) (hm : fs.lookup m = none) (ht : EvAP t σ H P)
    (k : ∀ vs H1, Ex H H1 → P vs H1 → ∀ Q : VK, RetV v H1 Q → sp (.ref a :: (vs ++ dvs)) H1 Q E) : Ev (tMeth C m sp dvs E ta t) σ H v := fun H1 e Q q =>
  h H1 e _ fun H2 e2 => ⟨a, dx, fs, rfl, e2 _ _ (e _ _ ho), hm, ht H2 (e.trans e2) _ fun vs H3 e3 p => k vs H3 ((e.trans e2).trans e3) p Q fun H4 e4 => q H4 ((e2.trans e3).trans e4)⟩
theorem make_go {sp : Sp} {dvs : List V} {E : XK} {t : TA} {Q : VK} {P : List V → Hp → Prop} (ht : EvAP t σ H P)
    (k : ∀ vs H1, Ex H H1 → P vs H1 → ∀ y dy, H1 y = none → H1 dy = none → dy ≠ y → sp (.ref y :: (vs ++ dvs)) (upd (upd H1 dy (.own y)) y (.ins C dy [])) (fun v H2 => v = .non ∧ Q (.ref y) H2) E) : tMake C sp dvs E t σ H Q :=
  ht H (Ex.refl H) _ fun vs H1 e p => k vs H1 e p
theorem ap_go {t : TA} {P : List V → Hp → Prop} {Q : List V → Hp → Prop} (h : EvAP t σ H P) (k : ∀ vs H1, Ex H H1 → P vs H1 → Q vs H1) : t σ H Q := h H (Ex.refl H) Q k
theorem ev_count {ns : List Int} {k : Int} (ha : EvR ta σ H (iv ns)) (hb : Ev tb σ H (.int k)) : Ev (tBM K "list" (rCntI K) ta (tCons tb tNil)) σ H (.int (ns.count k : Nat)) := fun H1 e Q q =>
  ha H1 e _ fun p H2 e2 h2 => ⟨Or.inl ⟨rfl, _, sq_of h2⟩, hb H2 (e.trans e2) _ fun H3 e3 => ⟨p, ns, k, rfl, rfl, sq_of (e3 _ _ h2), q H3 (e2.trans e3)⟩⟩
/-- s_expr of a reading in hand -/
theorem s_dropW {D : Ends} (h : te σ H (fun _ H2 => D.nx σ H2)) : tDrop te D σ H := h
theorem q_dropW {D : Ends} {tz : TS} (h : te σ H (fun _ H2 => tz D σ H2)) : tSeq (tDrop te) tz D σ H := h
theorem s_retW {D : Ends} (h : te σ H (fun v H2 => D.rt v H2)) : tRet te D σ H := h
theorem s_retU {D : Ends} (h : EvU te σ H xs) (k : ∀ p H1, H p = none → Ex H H1 → H1 p = some (.tup xs) → D.rt (.ref p) H1) : tRet te D σ H := h H (Ex.refl H) _ k
/-- [.., ..] of any values, told by what they are -/
theorem el_lstP {t : TA} {Q : VK} {P : List V → Hp → Prop} (h : EvAP t σ H P) (k : ∀ vs H1, Ex H H1 → P vs H1 → vs.length ≤ 100000 ∧ ∀ p, H1 p = none → Q (.ref p) (upd H1 p (.lst vs))) : tLst t σ H Q :=
  h H (Ex.refl H) _ fun vs H1 e p => ⟨sz_of (k vs H1 e p).1, (k vs H1 e p).2⟩
end
end Cg
namespace Cg
open PySem PySem.Spec PyProof.Rows L2 Evl
section
variable {K : PySem.W.Frag} {σ : L2.St} {H H' : Hp} {ta tb tc te : TE} {v : V}
/-- isinstance(e, c) in an except suite, as a value -/
theorem ev_isX {a D : Addr} {c : V} {cv : Value} {b : Bool} (ha : Ev ta σ H (.ref a)) (hc : Ev tc σ H c) (hv : ∀ u, RelV c u → u = cv) (x : ExcC K D) (k : PySem.W.kitOne K (.ref D) cv = some b) : Ev (tCB (rIsX K a (.ref D) none) (tCons ta (tCons tc tNil))) σ H (.bl b) := fun H1 e Q q =>
  ha H1 e _ fun H2 e2 => hc H2 (e.trans e2) _ fun H3 e3 => ⟨D, rfl, rfl, x, c, cv, b, rfl, hv, k, q H3 (e2.trans e3)⟩
theorem ev_isV {mg : Str → Option Value} {x : Str} {a D : Addr} (ha : Ev ta σ H (.ref a)) (T : ExcT K mg x D) : Ev (tCB (rIsX K a (.ref D) none) (tCons ta (tCons (tC (.ty "ValueError")) tNil))) σ H (.bl true) := ev_isX ha ev_c (fun _ h => h) T.c T.kitV
theorem ev_isC {mg : Str → Option Value} {x y : Str} {a D C : Addr} {b : Bool} (ha : Ev ta σ H (.ref a)) (T : ExcT K mg x D) (S : ExcT K mg y C) (h : PySem.W.subIn K (.ref D) (.ref C) = some b) (ne : b = false → C ≠ D) : Ev (tCB (rIsX K a (.ref D) none) (tCons ta (tCons (tC (.ref C)) tNil))) σ H (.bl b) :=
  ev_isX ha ev_c (fun _ h => h) T.c (S.kit h ne)
/-- xs[:-1] -/
theorem el_slInit {xs : List Int} (h : EvR te σ H (iv xs)) (h1 : Ev tb σ H (.int (-1))) : EvL (tSl (rSlL K) te tNoPart (tPart tb)) σ H (iv xs.dropLast) :=
  el_is (el_slR h eo_none (eo_some h1)) (by
    rw [cutV_iv, HT.sIx_none, List.drop_zero, Nat.sub_zero]
    have z : HT.sIx xs.length xs.length (some (-1)) = xs.length - 1 := by
      show (if (-1 : Int) < 0 then ((-1 : Int) + (xs.length : Int)).toNat else min (-1 : Int).toNat xs.length) = _
      rw [if_pos (by decide)]
      omega
    rw [z, List.dropLast_eq_take])
end
end Cg
namespace Cg
open PySem PySem.Spec PyProof.Rows L2 Evl
/-! ### lists that were given and are held: pairs of a list and its copy -/
def HeldAt (H : Hp) (hd : Addr) (L : List Addr) (n : Nat) : Prop := ∃ ts : List Addr, H hd = some (.lst (ts.map V.ref)) ∧ ts.length = n ∧
  ∀ t ∈ ts, ∃ (a b : Addr) (ws : List Int), H t = some (.tup [.ref a, .ref b]) ∧ H a = some (.lst (iv ws)) ∧ H b = some (.lst (iv ws)) ∧ (a ≠ hd ∧ a ∉ L) ∧ (b ≠ hd ∧ b ∉ L)
theorem HeldAt.nil {H : Hp} {hd : Addr} {L : List Addr} (h : H hd = some (.lst [])) : HeldAt H hd L 0 := ⟨[], h, rfl, fun _ z => nomatch z⟩
theorem HeldAt.mono {H H' : Hp} {hd : Addr} {L : List Addr} {n : Nat} (h : HeldAt H hd L n) (e : Ex H H') : HeldAt H' hd L n := by
  obtain ⟨ts, h1, h2, h3⟩ := h
  refine ⟨ts, e _ _ h1, h2, fun t ht => ?_⟩
  obtain ⟨a, b, ws, k1, k2, k3, k4, k5⟩ := h3 t ht
  exact ⟨a, b, ws, e _ _ k1, e _ _ k2, e _ _ k3, k4, k5⟩
theorem HeldAt.more {H : Hp} {hd q : Addr} {L : List Addr} {n : Nat} (h : HeldAt H hd L n) (nq : H q = none) : HeldAt H hd (q :: L) n := by
  obtain ⟨ts, h1, h2, h3⟩ := h
  refine ⟨ts, h1, h2, fun t ht => ?_⟩
  obtain ⟨a, b, ws, k1, k2, k3, k4, k5⟩ := h3 t ht
  have na : a ≠ q := ne_of_none k2 nq
  have nb : b ≠ q := ne_of_none k3 nq
  exact ⟨a, b, ws, k1, k2, k3, ⟨k4.1, fun z => by rcases List.mem_cons.mp z with z | z; exact na z; exact k4.2 z⟩, k5.1, fun z => by rcases List.mem_cons.mp z with z | z; exact nb z; exact k5.2 z⟩
theorem HeldAt.less {H : Hp} {hd q : Addr} {L : List Addr} {n : Nat} (h : HeldAt H hd (q :: L) n) : HeldAt H hd L n := by
  obtain ⟨ts, h1, h2, h3⟩ := h
  refine ⟨ts, h1, h2, fun t ht => ?_⟩
  obtain ⟨a, b, ws, k1, k2, k3, k4, k5⟩ := h3 t ht
  exact ⟨a, b, ws, k1, k2, k3, ⟨k4.1, fun z => k4.2 (List.mem_cons_of_mem _ z)⟩, k5.1, fun z => k5.2 (List.mem_cons_of_mem _ z)⟩
/-- a list that is not held changes -/
theorem HeldAt.kp {H H' : Hp} {hd q : Addr} {L : List Addr} {n : Nat} (h : HeldAt H hd L n) (k : Kp q H H') (hq : q ∈ L) (nq : q ≠ hd) (hv : ∃ xs, H q = some (.lst xs)) : HeldAt H' hd L n := by
  obtain ⟨ts, h1, h2, h3⟩ := h
  obtain ⟨xs, hv⟩ := hv
  refine ⟨ts, k _ _ nq.symm h1, h2, fun t ht => ?_⟩
  obtain ⟨a, b, ws, k1, k2, k3, k4, k5⟩ := h3 t ht
  exact ⟨a, b, ws, k _ _ (ne_of k1 hv (by intro z; cases z)) k1, k _ _ (fun z => k4.2 (z ▸ hq)) k2, k _ _ (fun z => k5.2 (z ▸ hq)) k3, k4, k5⟩
/-- an object that is no list changes -/
theorem HeldAt.kpO {H H' : Hp} {hd q : Addr} {L : List Addr} {n : Nat} {C dx : Addr} {fs : List (Str × V)} (h : HeldAt H hd L n) (k : Kp q H H') (hv : H q = some (.ins C dx fs)) : HeldAt H' hd L n := by
  obtain ⟨ts, h1, h2, h3⟩ := h
  refine ⟨ts, k _ _ (ne_of h1 hv (by intro z; cases z)) h1, h2, fun t ht => ?_⟩
  obtain ⟨a, b, ws, k1, k2, k3, k4, k5⟩ := h3 t ht
  exact ⟨a, b, ws, k _ _ (ne_of k1 hv (by intro z; cases z)) k1, k _ _ (ne_of k2 hv (by intro z; cases z)) k2, k _ _ (ne_of k3 hv (by intro z; cases z)) k3, k4, k5⟩
section
variable {K : PySem.W.Frag} {σ : L2.St} {H H' : Hp} {ta tb tc te : TE} {x y v : V} {tu tz : TS} {D : Ends}
/-- held.append((x, list(x))) -/
theorem q_held {B : Hp} {hd a : Addr} {L : List Addr} {n i j : Nat} {ws : List Int} (hb : B hd = none) (eb : Ex B H) (hh : HeldAt H hd L n) (hL : ∀ z ∈ L, H z ≠ none) (hn : n < 100000) (hv : σ[j]? = some (some (.ref hd))) (hf : σ[i]? = some (some (.ref a))) (ha : H a = some (.lst (iv ws))) (ne : a ≠ hd) (nL : a ∉ L)
    (k : ∀ H1, Ex B H1 → Kp hd H H1 → HeldAt H1 hd L (n + 1) → tz D σ H1) : tSeq (tDrop (tBM K "list" rAppend (tVar j) (tCons (tTup (tCons (tVar i) (tCons (tCB (rListS K) (tCons (tVar i) tNil)) tNil))) tNil))) tz D σ H := by
  obtain ⟨ts, h1, h2, h3⟩ := hh
  refine ⟨_, hv, Or.inl ⟨rfl, _, sq_of h1⟩, _, hf, _, hf, a, iv ws, rfl, Or.inl (sq_of ha), fun b nb => ⟨by show 2 ≤ sizeLine; decide, fun t nt => ⟨hd, ts.map V.ref, .ref t, rfl, rfl, ?_, sz_lt (by rw [List.length_map, h2]; exact hn), ?_⟩⟩⟩
  · exact Ex.new nt _ _ (Ex.new nb _ _ h1)
  · have e1 : Ex H (upd H b (.lst (iv ws))) := Ex.new nb
    have e2 : Ex (upd H b (.lst (iv ws))) (upd (upd H b (.lst (iv ws))) t (.tup [.ref a, .ref b])) := Ex.new nt
    have e12 := e1.trans e2
    have nbh : b ≠ hd := (ne_of_none h1 nb).symm
    have bL : b ∉ L := fun z => hL b z nb
    have nth : t ≠ hd := (ne_of_none (e1 _ _ h1) nt).symm
    refine k _ (Ex.mut (eb.trans e12) hb) (fun z o nz hz => by rw [upd_ne nz]; exact e12 _ _ hz) ⟨ts ++ [t], ?_, by rw [List.length_append, h2]; rfl, fun z hz => ?_⟩
    · rw [upd_same, List.map_append]
      rfl
    · rcases List.mem_append.mp hz with hz | hz
      · obtain ⟨a', b', ws', k1, k2, k3, k4, k5⟩ := h3 z hz
        have nz : z ≠ hd := ne_of k1 h1 (by intro w; cases w)
        exact ⟨a', b', ws', by rw [upd_ne nz]; exact e12 _ _ k1, by rw [upd_ne k4.1]; exact e12 _ _ k2, by rw [upd_ne k5.1]; exact e12 _ _ k3, k4, k5⟩
      · rw [List.mem_singleton] at hz
        subst hz
        exact ⟨a, b, ws, by rw [upd_ne nth, upd_same], by rw [upd_ne ne]; exact e12 _ _ ha, by rw [upd_ne nbh]; exact e2 _ _ upd_same, ⟨ne, nL⟩, nbh, bL⟩
/-- x.append(n), told by what changes -/
theorem q_appK {l : Addr} {ws : List Int} {n : Int} (hl : H l = some (.lst (iv ws))) (ha : Ev ta σ H (.ref l)) (h : Ev te σ H (.int n)) (hz : ws.length < 100000)
    (k : ∀ H1, Kp l H H1 → H1 l = some (.lst (iv (ws ++ [n]))) → tz D σ H1) : tSeq (tDrop (tBM K "list" rAppend ta (tCons te tNil))) tz D σ H :=
  q_app hl ha h (by rw [iv_len]; exact hz) fun H1 e1 => k _ ((Kp.of e1).trans .upd) (by rw [upd_same, iv_snoc])
theorem s_appK {l : Addr} {ws : List Int} {n : Int} (hl : H l = some (.lst (iv ws))) (ha : Ev ta σ H (.ref l)) (h : Ev te σ H (.int n)) (hz : ws.length < 100000)
    (k : ∀ H1, Kp l H H1 → H1 l = some (.lst (iv (ws ++ [n]))) → D.nx σ H1) : tDrop (tBM K "list" rAppend ta (tCons te tNil)) D σ H :=
  s_app hl ha h (by rw [iv_len]; exact hz) fun H1 e1 => k _ ((Kp.of e1).trans .upd) (by rw [upd_same, iv_snoc])
theorem eap_tup2 {tr : TA} {P : List V → Hp → Prop} (ha : Ev ta σ H x) (hb : Ev tb σ H y) (hr : EvAP tr σ H P) : EvAP (tCons (tTup (tCons ta (tCons tb tNil))) tr) σ H (fun vs H' => ∃ (t : Addr) (r : List V), vs = .ref t :: r ∧ H' t = some (.tup [x, y]) ∧ P r H') := fun H1 e Q q =>
  ha H1 e _ fun H2 e2 => hb H2 (e.trans e2) _ fun H3 e3 => ⟨by show 2 ≤ sizeLine; decide, fun t nt => hr _ (((e.trans e2).trans e3).trans (Ex.new nt)) _ fun vs H4 e4 p => q _ H4 (((e2.trans e3).trans (Ex.new nt)).trans e4) ⟨t, vs, rfl, e4 _ _ upd_same, p⟩⟩
/-- a for whose walked thing is read by hand -/
theorem q_forW {g : TG} {tl : TE} (h : tl σ H fun v H1 => ∃ a, v = .ref a ∧ (∃ xs, SqL K H1 a xs) ∧ ∃ W : Nat → Nat → L2.St → Hp → Prop, (∃ m, W 0 m σ H1) ∧ ∀ i m σ H, W i m σ H →
    ((Itl K a).stop i H ∧ tz D σ H) ∨ ((Itl K a).go i H ∧ ∃ N : L2.St → Hp → Prop, (∀ σ' H', N σ' H' → ∃ m', m' < m ∧ W (i + 1) m' σ' H') ∧ ∀ x H', (Itl K a).yld i H x H' → g x σ H' fun σ2 H2 => tu { D with nx := N, ct := N, bk := tz D } σ2 H2)) :
    tSeq (tFor (iList K tl) g tu) tz D σ H := h
end
end Cg
namespace Cg
open PySem PySem.Spec PyProof.Rows L2 Evl
section
variable {K : PySem.W.Frag} {σ : L2.St} {H H' : Hp} {te : TE} {t : TT} {tu tw tz : TS} {D : Ends}
theorem s_ifW (h : t σ H fun b H1 => if b = true then tu D σ H1 else tw D σ H1) : tIfS t tu tw D σ H := h
theorem q_ifW (h : t σ H fun b H1 => if b = true then tu { D with nx := tz D } σ H1 else tw { D with nx := tz D } σ H1) : tSeq (tIfS t tu tw) tz D σ H := h
theorem nb_go {Q : Bool → Hp → Prop} (h : te σ H fun x H1 => ∃ c, x = .bl c ∧ Q (!c) H1) : tNot (tB te) σ H Q := h
theorem or_go {u : TT} {Q : Bool → Hp → Prop} (h : t σ H fun c H1 => if c = true then Q true H1 else u σ H1 Q) : tOr t u σ H Q := h
theorem if_no {p q : Prop} (h : q) : if (!true) = true then p else q := by
  rw [if_neg (by decide)]
  exact h
theorem if_no' {p q : Prop} (h : q) : if false = true then p else q := by
  rw [if_neg (by decide)]
  exact h
theorem if_yes {p q : Prop} (h : p) : if true = true then p else q := by
  rw [if_pos rfl]
  exact h
end
end Cg
namespace Cg
open PySem PySem.Spec PyProof.Rows L2 Evl
/-- a heap but for what stands at one address -/
def but (l : Addr) (H : Hp) : Hp := fun a => if a = l then none else H a
theorem but_same {l : Addr} {H : Hp} : but l H l = none := by
  unfold but
  rw [if_pos rfl]
theorem but_ne {l a : Addr} {H : Hp} (n : a ≠ l) : but l H a = H a := by
  unfold but
  rw [if_neg n]
theorem but_at {l a : Addr} {H : Hp} {o : HO} (n : a ≠ l) (h : H a = some o) : but l H a = some o := by rw [but_ne n, h]
theorem Kp.but {l : Addr} {H H' : Hp} (k : Kp l H H') : Ex (but l H) H' := fun a o h => by
  by_cases c : a = l
  · rw [c, but_same] at h
    cases h
  · rw [but_ne c] at h
    exact k a o c h
theorem but_kp {l : Addr} {H H' : Hp} (e : Ex (but l H) H') : Kp l H H' := fun a o n h => e a o (but_at n h)
end Cg
namespace Cg
open PySem PySem.Spec PyProof.Rows L2 Evl
def FLoop (K : PySem.W.Frag) (a : Addr) (g : TG) (tu : TS) (D : Ends) (σ : L2.St) (H : Hp) : Prop := ∃ W : Nat → Nat → L2.St → Hp → Prop, (∃ m, W 0 m σ H) ∧ ∀ i m σ H, W i m σ H →
  ((Itl K a).stop i H ∧ D.nx σ H) ∨ ((Itl K a).go i H ∧ ∃ N : L2.St → Hp → Prop, (∀ σ' H', N σ' H' → ∃ m', m' < m ∧ W (i + 1) m' σ' H') ∧ ∀ x H', (Itl K a).yld i H x H' → g x σ H' fun σ2 H2 => tu { D with nx := N, ct := N, bk := D.nx } σ2 H2)
section
variable {K : PySem.W.Frag} {σ : L2.St} {H : Hp} {tl : TE} {g : TG} {tu tz : TS} {D : Ends} {a : Addr} {xs : List V}
theorem floop (Pv : Nat → L2.St → Hp → Prop) (h0 : Pv 0 σ H) (hl : ∀ i σ H, i ≤ xs.length → Pv i σ H → SqL K H a xs)
    (hs : ∀ i x σ H, xs[i]? = some x → Pv i σ H → g x σ H fun σ2 H2 => tu { D with nx := Pv (i + 1), ct := Pv (i + 1), bk := D.nx } σ2 H2) (hd : ∀ σ H, Pv xs.length σ H → D.nx σ H) : FLoop K a g tu D σ H := for_list Pv h0 hl hs hd
theorem q_forF (h : tl σ H fun v H1 => ∃ a, v = .ref a ∧ (∃ xs, SqL K H1 a xs) ∧ FLoop K a g tu { D with nx := tz D } σ H1) : tSeq (tFor (iList K tl) g tu) tz D σ H := h
theorem s_forF (h : tl σ H fun v H1 => ∃ a, v = .ref a ∧ (∃ xs, SqL K H1 a xs) ∧ FLoop K a g tu D σ H1) : tFor (iList K tl) g tu D σ H := h
end
end Cg

set_option Elab.async false
set_option linter.all false
set_option maxRecDepth 100000
set_option maxHeartbeats 4000000
/-! ## Pre 3: several except clauses, each with the same name -/
namespace Cg
open PySem PySem.Spec PyProof.Rows L2 Evl
abbrev Suite := Addr → Value → Option Addr → TS
def wManyA (K : PySem.W.Frag) (i : Nat) (Wo : WX) (D : Ends) : List (Value × Suite) → WX
  | [] => Wo
  | (c, ts) :: r => fun cls d σ H => ∃ b, PySem.W.exmOne K cls c = some b ∧
      (b = true → ∀ a, H a = none → ts a cls d { nx := fun τ G => D.nx (τ.set i none) G, rt := D.rt, bk := fun τ G => D.bk (τ.set i none) G, ct := fun τ G => D.ct (τ.set i none) G } (σ.set i (some (.ref a))) H) ∧ (b = false → wManyA K i Wo D r cls d σ H)
inductive HdsA (X : Cx) (n : Str) : List ExceptHandler → List (Value × Suite) → Prop
  | nil : HdsA X n [] []
  | cons {x : Str} {c : Value} {ts : Suite} {st : Stmt} {sts : List Stmt} {np ep : Pos} {hs : List ExceptHandler} {l : List (Value × Suite)} (hc : Names X x c)
      (su : ∀ (a : Addr) (oe : Obj) (cls : Value) (d : Option Addr) (pn : List (Addr × Obj)), Zc cls d oe → (∃ vs, oe.data = .fields vs) → PSs (X.suite a ((a, oe) :: pn)) (st :: sts) (ts a cls d)) (r : HdsA X n hs l) :
      HdsA X n (.ExceptHandler (some (.Name x np)) (some n) (st :: sts) ep :: hs) ((c, ts) :: l)
theorem ps_try_manyA {X : Cx} {n : Str} {i : Nat} {body : List Stmt} {h₀ : ExceptHandler} {hds : List ExceptHandler} {l : List (Value × Suite)} {pos : Pos} {tb : WX → TS} {Wo : WX} (hs : X.stack = X.env :: X.outer) (hf : X.env.frame = some X.env.locals) (nd : X.N.Nodup) (hi : X.N[i]? = some n)
    (hln : X.env.kindOf n = some .local) (tk : Takes X Wo) (hb : ∀ (W : WX) (pn : List (Addr × Obj)) (xe : Value → Shared → Prop), Takes (X.tr pn xe) W → PassesOwn (model X.prog X.w) X.A X.env xe → PSs (X.tr pn xe) body (tb W)) (hh : HdsA X n (h₀ :: hds) l) :
    PS X (.Try body (h₀ :: hds) [] [] pos) (fun D σ H => tb (wManyA X.K i Wo D l) D σ H) := by
  constructor
  intro pins s σ H D I h
  have okI := I.ok
  have frI : X.A.frames = some (X.env :: X.outer) := okI.frames.trans (congrArg some hs)
  have lc : Loc X.env.scope n := Or.inl hln
  apply wpAny_Try_except
  refine wpAny_mono ((hb (wManyA X.K i Wo D l) (X.pn ++ pins) (fun e t₁ => wpAny (model X.prog X.w) X.A (noteFrame e X.env) (fun _ t₂ => wpAny (model X.prog X.w) X.A (setFlight e none) (fun _ t₃ => wpAny (model X.prog X.w) X.A (handleBy e X.env (h₀ :: hds)) (SP X pins D) X.xe t₃) X.xe t₂) X.xe t₁) (fun ev t hev => ?_) PassesOwn.looking).run [] s σ H D (I.toTry _) h) (fun fl t ht => ?_) (fun ev t he => he)
  · obtain ⟨a, B, sI, pins', τ, G, cls, d, rfl, JT, nb, up, sky, na, os, ag, w⟩ := hev
    have J : Inv X pins τ G sI := JT.ofTry okI
    rw [hs] at sky
    change wpAny (model X.prog X.w) X.A (noteFrame (Value.ref a) X.env) _ _ _
    refine Sky.land Zc.steady frI hf sky fun k3 f3 u3 => ?_
    have J3 : Inv X pins τ G { t with heap := k3 } := J.landed nb f3.1 (up.trans u3) os ag
    obtain ⟨oe, vs, ge, ze, de⟩ := f3.there
    have notIn : a ∉ frs (X.env :: X.outer) := fun hm => by
      obtain ⟨_, o', e', hnf⟩ := f3.2.2.1.mem hm
      rw [ge] at e'
      cases e'
      exact hnf _ de
    have nL : a ≠ X.env.locals := fun z => notIn (List.mem_filterMap.mpr ⟨X.env, List.mem_cons_self, hf.trans (congrArg some z.symm)⟩)
    have nF : a ∉ X.fs := fun hm => by
      obtain ⟨en, hen, qn⟩ := List.mem_filterMap.mp hm
      exact notIn (List.mem_filterMap.mpr ⟨en, List.mem_cons_of_mem _ hen, qn⟩)
    have S3 := J3.suite ge de na nL nF
    have all : ∀ {hs' : List ExceptHandler} {l' : List (Value × Suite)}, HdsA X n hs' l' → wManyA X.K i Wo D l' cls d τ G → wpAny (model X.prog X.w) X.A (handleBy (.ref a) X.env hs') (SP X pins D) X.xe { t with heap := k3 } := by
      intro hs' l' hk
      induction hk with
      | nil =>
        intro w
        apply wpAny_handleBy_nil
        obtain ⟨_, _, _, o2, v2, T, oT, ts', g2, z2, d2, h1, hr⟩ := id f3
        unfold PySem.passOn
        apply wpAny_bind
        refine wpAny_field g2 d2 h1 ?_
        rw [if_neg (by simp : ¬ ((Value.ref T == Value.none) = true))]
        have out : wpAny (model X.prog X.w) X.A (setFlight (.ref a) X.env.frame) (fun _ t4 => wpAny (model X.prog X.w) X.A (throw (.ref a) : Sem Flow) (SP X pins D) X.xe t4) X.xe { t with heap := k3 } := by
          rw [hf]
          refine HandSPX.setFlight_upZ f3 fun k4 hh4 u4 => wpAny_throw (tk _ _ ⟨a, B, sI, pins, τ, G, cls, d, rfl, J, nb, (up.trans u3).trans u4, Or.inr (Or.inr ?_), na, os, ag, w⟩)
          rw [hs]
          exact hh4
        first
          | exact wpAny_bind (wpAny_pure (wpAny_bind out))
          | exact wpAny_bind out
      | @cons x c ts st sts np ep hs2 l2 hc su r ih =>
        rintro ⟨b, hx, yes, no⟩
        refine wpAny_handleBy_cons (codeAny_handlers_test ?_) (by intro q; cases q)
        have looks : PySem.W.Looks (model X.prog X.w) k3 (typeOf (.ref a)) cls := fun A' Q' E' s' k' q' => wpAny_typeOf_ref (k' _ _ ge) (by rw [ze.1]; exact q')
        have LM := PySem.W.exm_one (M := model X.prog X.w) J3.kIn looks hx
        have named : ∀ {Q E : Value → Shared → Prop}, Q c { t with heap := k3 } → wpAny (model X.prog X.w) (X.A.mark (some (.ref a))) (eval (.Name x np) X.env) Q E { t with heap := k3 } := fun {Q E} q => by
          rcases hc with ⟨g1, g2, g3 | ⟨g3, g4, g5⟩⟩
          · exact ld_glob (X := X.suite a ((a, oe) :: (X.pn ++ pins))) S3 g1 g3 q g2
          · exact ld_blt (X := X.suite a ((a, oe) :: (X.pn ++ pins))) S3 g1 g3 g4 q g5 g2
        refine named (LM.here ?_)
        cases b with
        | false => exact ih (no rfl)
        | true =>
          apply codeAny_handlers_suite_as
          refine HandSPX.lands_againZ f3 fun k4 f4 u4 => ?_
          have J4 : Inv X pins τ G { t with heap := k4 } := J.landed nb f4.1 ((up.trans u3).trans u4) os ag
          obtain ⟨o4, v4, g4, z4, d4⟩ := f4.there
          have S4 := J4.suite g4 d4 na nL nF
          refine store_ok (X := X.suite a ((a, o4) :: (X.pn ++ pins))) (v := .ref a) S4 nd hi lc rfl (fun s5 S5 => ?_) (Or.inr hln)
          refine wpAny_mono ((su a o4 cls d (X.pn ++ pins) z4 ⟨_, d4⟩).run [] s5 _ G _ S5 (yes rfl a na)) (fun fl s6 ho => ?_) (fun _ _ z => z.elim)
          have gone : ∀ {τ6 : L2.St} {G6 : Hp} {Q : Shared → Prop}, Inv (X.suite a ((a, o4) :: (X.pn ++ pins))) [] τ6 G6 s6 → (∀ s7, Inv X pins (τ6.set i none) G6 s7 → Q s7) → wpAny (model X.prog X.w) X.A (do bindName X.env n .none; unbindBehindTheSuite X.env n ep) (fun _ s7 => Q s7) X.xe s6 := fun {τ6 G6 Q} S6 k => gone_ok (S6.unsuite okI) nd hi hln k
          cases fl with
          | ret u =>
            obtain ⟨v6, τ6, G6, S6, r6, q6⟩ := ho
            exact gone S6 fun s7 J7 => ⟨v6, _, G6, J7, r6, q6⟩
          | next =>
            obtain ⟨τ6, G6, S6, q6⟩ := ho
            exact gone S6 fun s7 J7 => ⟨_, G6, J7, q6⟩
          | brk =>
            obtain ⟨τ6, G6, S6, q6⟩ := ho
            exact gone S6 fun s7 J7 => ⟨_, G6, J7, q6⟩
          | cont =>
            obtain ⟨τ6, G6, S6, q6⟩ := ho
            exact gone S6 fun s7 J7 => ⟨_, G6, J7, q6⟩
    exact all hh w
  · cases fl with
    | ret u =>
      obtain ⟨v, τ, G, J, r, q⟩ := ht
      exact ⟨v, τ, G, J.ofTry okI, r, q⟩
    | next =>
      obtain ⟨τ, G, J, q⟩ := ht
      exact wpAny_execs_nil ⟨τ, G, J.ofTry okI, q⟩
    | brk =>
      obtain ⟨τ, G, J, q⟩ := ht
      exact ⟨τ, G, J.ofTry okI, q⟩
    | cont =>
      obtain ⟨τ, G, J, q⟩ := ht
      exact ⟨τ, G, J.ofTry okI, q⟩
end Cg
namespace Cg
open PySem PySem.Spec PyProof.Rows L2 Evl
section
variable {K : PySem.W.Frag} {σ : L2.St} {H H' : Hp} {te : TE} {t : TT} {tu tw tz : TS} {D : Ends}
theorem b_go {Q : Bool → Hp → Prop} (h : te σ H fun x H1 => ∃ c, x = .bl c ∧ Q c H1) : tB te σ H Q := h
theorem q_forR3 {ta : TA} {j : Nat} {i0 j0 c : Int} {n : Nat} (h : EvA ta σ H [.int i0, .int j0, .int c]) (hr : RgC i0 j0 c n) (Pv : Nat → L2.St → Hp → Prop) (h0 : ∀ H1, Ex H H1 → Pv 0 σ H1)
    (hs : ∀ (i : Nat) τ G, i < n → Pv i τ G → tu { D with nx := Pv (i + 1), ct := Pv (i + 1), bk := tz D } (τ.set j (some (.int (i0 + (i : Nat) * c)))) G) (hd : ∀ τ G, Pv n τ G → tz D τ G) : tSeq (tFor (iRng3 ta) (gName j) tu) tz D σ H :=
  h H (Ex.refl H) _ fun H1 e1 => ⟨i0, j0, c, n, rfl, hr, for_rangeC Pv (h0 H1 e1) hs hd⟩
theorem s_forR3 {ta : TA} {j : Nat} {i0 j0 c : Int} {n : Nat} (h : EvA ta σ H [.int i0, .int j0, .int c]) (hr : RgC i0 j0 c n) (Pv : Nat → L2.St → Hp → Prop) (h0 : ∀ H1, Ex H H1 → Pv 0 σ H1)
    (hs : ∀ (i : Nat) τ G, i < n → Pv i τ G → tu { D with nx := Pv (i + 1), ct := Pv (i + 1), bk := D.nx } (τ.set j (some (.int (i0 + (i : Nat) * c)))) G) (hd : ∀ τ G, Pv n τ G → D.nx τ G) : tFor (iRng3 ta) (gName j) tu D σ H :=
  h H (Ex.refl H) _ fun H1 e1 => ⟨i0, j0, c, n, rfl, hr, for_rangeC Pv (h0 H1 e1) hs hd⟩
end
end Cg
namespace Cg
open PySem PySem.Spec PyProof.Rows L2 Evl
/-- a text, taken once or not at all -/
def rStr01 : R2 := fun x y H Q => ∃ (z : Str) (b : Bool), x = .str z ∧ y = .int (if b then 1 else 0) ∧ Q (.str (if b then z else Str.empty)) H
theorem op_str01 {X : Cx} : OpR X (binaryOp .Mult) rStr01 := by
  intro pins s σ H x y v u Q I rx ry h
  obtain ⟨z, b, rfl, rfl, q⟩ := h
  obtain ⟨t, rfl⟩ := rx
  obtain ⟨t', rfl⟩ := ry
  cases b with
  | false => exact PySem.P.mul_str_none (by decide) (by decide) ⟨.str Str.empty, H, I.tok _, ⟨_, rfl⟩, q⟩
  | true =>
    refine PySem.P.mul_str (n := 1) (by decide) (fun _ h2 => by simp at h2) (fun _ h2 => by simp at h2) ?_
    rw [if_neg (by decide), if_pos (by simp)]
    exact ⟨.str z, H, I, ⟨_, rfl⟩, q⟩
section
variable {K : PySem.W.Frag} {σ : L2.St} {H H' : Hp} {ta tb te : TE} {x y v : V} {z z2 : Str} {b : Bool}
theorem ev_str01 (ha : Ev ta σ H (.str z)) (hb : Ev tb σ H (.int (if b then 1 else 0))) : Ev (tOp rStr01 ta tb) σ H (.str (if b then z else Str.empty)) := fun H1 e Q q =>
  ha H1 e _ fun H2 e2 => hb H2 (e.trans e2) _ fun H3 e3 => ⟨z, b, rfl, rfl, q H3 (e2.trans e3)⟩
theorem ev_addS (ha : Ev ta σ H (.str z)) (hb : Ev tb σ H (.str z2)) (hl : z.length + z2.length ≤ 100000) : Ev (tOp (fun x y H Q => ∃ i j, x = .str i ∧ y = .str j ∧ i.length + j.length ≤ sizeLine ∧ Q (.str (i ++ j)) H) ta tb) σ H (.str (z ++ z2)) := fun H1 e Q q =>
  ha H1 e _ fun H2 e2 => hb H2 (e.trans e2) _ fun H3 e3 => ⟨z, z2, rfl, rfl, sz_of hl, q H3 (e2.trans e3)⟩
theorem ev_isN (ha : Ev ta σ H x) : Ev (tOp (fun x y H Q => y = .non ∧ Q (.bl (decide (x = .non))) H) ta (tC .non)) σ H (.bl (decide (x = .non))) := fun H1 e Q q =>
  ha H1 e _ fun H2 e2 => ⟨rfl, q H2 e2⟩
end
end Cg
namespace Cg
open PySem PySem.Spec PyProof.Rows L2 Evl
section
variable {K : PySem.W.Frag} {σ : L2.St} {H H' : Hp} {ta tb te : TE} {xs : List V}
/-- a new list among arguments -/
theorem eap_el {tr : TA} {P : List V → Hp → Prop} (h : EvL te σ H xs) (hr : EvAP tr σ H P) : EvAP (tCons te tr) σ H (fun vs H' => ∃ p r, vs = .ref p :: r ∧ H p = none ∧ H' p = some (.lst xs) ∧ P r H') := fun H1 e Q q =>
  h H1 e _ fun p H2 n2 e2 h2 => hr H2 (e.trans e2) _ fun vs H3 e3 h3 => q _ H3 (e2.trans e3) ⟨p, vs, rfl, fresh_back e n2, e3 _ _ h2, h3⟩
theorem andV_go {Q : VK} (h : ta σ H fun x H1 => ∃ c, x = .bl c ∧ if c = true then tb σ H1 Q else Q (.bl false) H1) : tAndV ta tb σ H Q := h
theorem et_go {t : TT} {b : Bool} {Q : Bool → Hp → Prop} (h : EvT t σ H b) (k : ∀ H2, Ex H H2 → Q b H2) : t σ H Q := h H (Ex.refl H) Q k
end
theorem size_in (c k : Int) (rm : Nat) (hk : 0 ≤ k) : 0 ≤ c % ((if k < (rm : Int) then k else (rm : Int)) + 1) ∧ c % ((if k < (rm : Int) then k else (rm : Int)) + 1) ≤ (rm : Int) := by
  have h1 := Int.emod_nonneg c (show (if k < (rm : Int) then k else (rm : Int)) + 1 ≠ 0 by split <;> omega)
  have h2 := Int.emod_lt_of_pos c (show 0 < (if k < (rm : Int) then k else (rm : Int)) + 1 by split <;> omega)
  split at h2 <;> rename_i z <;> simp only [z, if_true, if_false] at h1 ⊢ <;> omega
end Cg
namespace Cg
open PySem PySem.Spec PyProof.Rows L2 Evl
theorem sq_but {K : PySem.W.Frag} {H H1 X : Hp} {l a : Addr} {xs : List V} (h : SqL K H a xs) (n : H l = none) (e : Ex H H1) (k : Kp l H1 X) : SqL K X a xs := by
  rcases h with (h | ⟨o, h⟩) | h
  · exact .inl (.inl (k _ _ (ne_of_none h n) (e _ _ h)))
  · exact .inl (.inr ⟨o, k _ _ (ne_of_none h n) (e _ _ h)⟩)
  · exact .inr h
end Cg

set_option Elab.async false
set_option linter.all false
set_option maxRecDepth 100000
set_option maxHeartbeats 4000000
/-! ## Pre 4: a dict made by a comprehension, its keys tuples -/
namespace Cg
open PySem PySem.Spec PyProof.Rows L2 Evl
theorem set_tup {X : Cx} {pins : List (Addr × Obj)} {σ : L2.St} {H : Hp} {s : Shared} {E : Value → Shared → Prop} {D b : Addr} {kvs : List (List L2.Key × V)} {k : List L2.Key} {v : V} {u r : Value} {Q : Unit → Shared → Prop} (hu : X.A.units + 1 < cLine) (I : Inv X pins σ H s)
    (hD : H D = some (.dT kvs)) (hz : kvs.length < sizeLine) (hb : H b = some (.tup (k.map kV))) (ru : RelV (.ref b) u) (rv : RelV v r) (h : ∀ s', Inv X pins σ (upd H D (.dT (putK kvs k v))) s' → Q () s') : wpAny (model X.prog X.w) X.A (dictSet D u r) Q E s := by
  cases (show u = Value.ref b from ru)
  obtain ⟨l1, nd, xs, rel, at_⟩ := dt_of I.hok hD
  have l2 : xs.length ≤ sizeLine := (Paired.length rel) ▸ l1
  have l3 := length_putK kvs k v
  refine wpAny_dictSet_heap (hsz := l2) (show X.A.units < cLine by omega) (key_of I.hok hb) at_ fun g at' same => h _ ?_
  obtain ⟨ob, es, ep, a1, a2, a3, a4, _, a5⟩ := at'
  refine d_write I (by rw [hD]; trivial) same ⟨ob, a1⟩ ⟨by omega, nd, _, (rel.put k hb rv).keeps fun c ys ec => ?_, ob, es, ep, a1, a2, a3, a4, a5⟩
  rw [upd_ne (ne_of ec hD (by intro z; cases z)), ec]
/-- {k: v for target in iter if ..}, keys tuples -/
def tDcT (wi : TI) (g : TG) (tt : TT) (tk tv : TE) (vs : List Nat) : TE := fun σ H Q => wi σ H fun J H1 => ∀ D, H1 D = none → ∃ W : Nat → Nat → Hp → Prop, (∃ m, W 0 m (upd H1 D (.dT []))) ∧ ∀ i m G, W i m G →
  (J.stop i G ∧ Q (.ref D) G) ∨ (J.go i G ∧ ∃ Nx : Hp → Prop, (∀ G', Nx G' → ∃ m', m' < m ∧ W (i + 1) m' G') ∧ ∀ x G', J.yld i G x G' → g x (wipe σ vs) G' fun σ2 G2 => wipe σ2 vs = wipe σ vs ∧ tt σ2 G2 fun b G3 =>
    if b = true then tk σ2 G3 fun y G4 => tv σ2 G4 fun z G5 => ∃ kvs k p, y = .ref p ∧ G5 p = some (.tup (k.map kV)) ∧ G5 D = some (.dT kvs) ∧ kvs.length < sizeLine ∧ Nx (upd G5 D (.dT (putK kvs k z))) else Nx G3)
section
variable {X : Cx}
theorem dcT_core {pins : List (Addr × Obj)} {s : Shared} {σ : L2.St} {H : Hp} {Q : VK} {kx vx tg iter : Expr} {ifs : List Expr} {scope : Scope} {own : List (Str × Nat)} {pos pos' : Pos} {wi : TI} {g : TG} {tt : TT} {tk tv : TE} {use : Option (Value → Sem Unit)} {Qf : Value → Shared → Prop}
    (hu : X.A.units + 1 < cLine) (hc : X.calm = true) (hN : X.N.Nodup) (I : Inv X pins σ H s) (hi : PI X tg iter wi) (ok : BlkOk X.N X.env.scope scope own) (hg : ∀ (s : Shared) (H : Hp) (C : Addr) (cl : List (Str × Addr)) (fp : List Addr), PG (X.blk s H scope (compEnvC scope cl C X.env) fp) tg g)
    (ht : ∀ (s : Shared) (H : Hp) (C : Addr) (cl : List (Str × Addr)) (fp : List Addr), PTs (X.blk s H scope (compEnvC scope cl C X.env) fp) ifs tt) (hk : ∀ (s : Shared) (H : Hp) (C : Addr) (cl : List (Str × Addr)) (fp : List Addr), PE (X.blk s H scope (compEnvC scope cl C X.env) fp) kx tk)
    (he : ∀ (s : Shared) (H : Hp) (C : Addr) (cl : List (Str × Addr)) (fp : List Addr), PE (X.blk s H scope (compEnvC scope cl C X.env) fp) vx tv) (hs : ∀ x, foldedSetIterable iter X.env x = pure x) (h : tDcT wi g tt tk tv (own.map (·.2)) σ H Q)
    (hRR : ∀ D C t m G, Inv X pins σ G t → Q (.ref D) G → t.heap.Ns C m → FpOk X pins G C → compPost (model X.prog X.w) X.A X.xe use Qf (.ref D) C (.ok .next) t) :
    wpAny (model X.prog X.w) X.A (comprehension (.DictComp kx vx [⟨tg, iter, ifs, 0⟩] scope pos) scope X.env pos' newDict false (eval iter X.env) use) Qf X.xe s := by
  have free : ∀ y ∈ scope.names, y.2 = .free → ∃ c, X.env.cells.lookup y.1 = some c := fun y hy e => by
    rcases ok.free y hy e with z | z
    · exact I.ok.has _ (Or.inl z)
    · exact I.ok.has _ (Or.inr z)
  refine wpAny_comprehension_free (use := use) rfl hs (closure_ok free) ok.kind (fun y hy e => by rw [ok.uniq y hy, e]) (thn (hi.run pins s σ H _ I h) fun xv t1 h1 => thn h1 fun itv t2 h2 => ?_)
  obtain ⟨it, fp, tn, J, G2, rfl, J2, T, st2, f2, q⟩ := h2
  refine wpAny_newObj_type (newEnv_comp ?_)
  generalize hD : t2.heap.objs.size = D
  have nD : G2 D = none := J2.hok.fresh (by rw [hD]; exact Nat.le_refl _)
  obtain ⟨W, ⟨m0, w0⟩, turn⟩ := q D nD
  generalize ht3 : ({ t2 with heap := t2.heap.push { cls := .type "dict", data := .dict #[] } } : Shared) = t3
  have J3 : Inv X pins σ (upd G2 D (.dT [])) t3 := by
    subst ht3
    subst hD
    exact J2.laid (t' := t2.toks) (fun _ _ e => Heap.get?_push_of_some _ e) (Nat.le_refl _) (dt_empty t2.heap J2.big)
  have hp3 : t3.heap = t2.heap.push { cls := .type "dict", data := .dict #[] } := by subst ht3; rfl
  have f3 : ∀ b ∈ fp, FpOk X pins (upd G2 D (.dT [])) b ∧ b < t3.heap.objs.size := fun b hb => by
    obtain ⟨o, e, _⟩ := T.obj _ _ st2 b hb
    have lt := Heap.lt_size e
    have nb : b ≠ D := by rw [← hD]; exact Nat.ne_of_lt lt
    refine ⟨⟨by rw [upd_ne nb]; exact (f2 b hb).1, (f2 b hb).2⟩, ?_⟩
    rw [hp3, Heap.size_push]
    exact Nat.lt_succ_of_lt lt
  have st3 : tn 0 t3.heap := T.keep _ _ _ st2 fun b _ o e => by
    rw [hp3]
    exact Heap.get?_push_of_some _ e
  have J4 := block_start J3 ok hN f3
  have pg := hg t3 (upd G2 D (.dT [])) t3.heap.objs.size (cellsFrom (t3.heap.objs.size + 1) scope.names (cloFrom X.env.cells scope.names [])) fp
  have pt := ht t3 (upd G2 D (.dT [])) t3.heap.objs.size (cellsFrom (t3.heap.objs.size + 1) scope.names (cloFrom X.env.cells scope.names [])) fp
  have pk := hk t3 (upd G2 D (.dT [])) t3.heap.objs.size (cellsFrom (t3.heap.objs.size + 1) scope.names (cloFrom X.env.cells scope.names [])) fp
  have pe := he t3 (upd G2 D (.dT [])) t3.heap.objs.size (cellsFrom (t3.heap.objs.size + 1) scope.names (cloFrom X.env.cells scope.names [])) fp
  change codeAny _ _ (.compStart (.DictComp kx vx [⟨tg, iter, ifs, 0⟩] scope pos) 0 (.ref it) (.ref D) (compEnvC scope (cellsFrom (t3.heap.objs.size + 1) scope.names (cloFrom X.env.cells scope.names [])) t3.heap.objs.size X.env)) (compPost (model X.prog X.w) X.A X.xe use Qf (.ref D) t3.heap.objs.size) { t3 with heap := pushCells (t3.heap.push { cls := .type "dict", data := .dict #[] }) scope.names }
  have nfp : ∀ b ∈ fp, (upd G2 D (.dT [])) b = none := fun b hb => (f3 b hb).1.1
  generalize hce : compEnvC scope (cellsFrom (t3.heap.objs.size + 1) scope.names (cloFrom X.env.cells scope.names [])) t3.heap.objs.size X.env = ce at J4 pg pt pk pe ⊢
  have cL : ce.locals = t3.heap.objs.size := by rw [← hce]; rfl
  generalize hG3 : upd G2 D (.dT []) = G3 at J3 J4 pg pt pk pe w0 nfp f3
  generalize ht4 : ({ t3 with heap := pushCells (t3.heap.push { cls := .type "dict", data := .dict #[] }) scope.names } : Shared) = t4 at J4 ⊢
  have st4 : tn 0 t4.heap := T.keep _ _ _ st3 fun b _ o e => by
    rw [← ht4]
    exact pushCells_keeps _ _ _ _ (Heap.get?_push_of_some _ e)
  have stat : ∀ {τ : L2.St} {G : Hp} {t : Shared}, Inv (X.blk t3 G3 scope ce fp) [] τ G t → (∀ b ∈ fp, G b = none) → ∀ b ∈ fp, FpOk (X.blk t3 G3 scope ce fp) [] G b := fun {τ G t} K hn b hb =>
    ⟨hn b hb, (K.ok.exf b hb).1, K.ok.exfs b hb, Or.inl hb, fun x c e => (K.ok.exf b hb).2 x c e, fun p hp => absurd (show p ∈ ([] : List (Addr × Obj)) ++ [] from hp) (by simp)⟩
  have loop : codeAny (model X.prog X.w) X.A (.compLoop (.DictComp kx vx [⟨tg, iter, ifs, 0⟩] scope pos) 0 (.ref it) (.ref D) ce) (compPost (model X.prog X.w) X.A X.xe use Qf (.ref D) t3.heap.objs.size) t4 := by
    refine compLoop_anyD (fun n t => ∃ i G, Inv (X.blk t3 G3 scope ce fp) [] (wipe σ (own.map (·.2))) G t ∧ tn i t.heap ∧ (∀ b ∈ fp, G b = none) ∧ W i n G) ?_ m0 ⟨0, G3, J4, st4, nfp, w0⟩
    intro n t5 ⟨i, G5, J5, st5, n5, w5⟩
    rcases turn i n G5 w5 with ⟨stop, qq⟩ | ⟨go, Nx, hNx, step⟩
    · refine thnF (T.done (X.blk t3 G3 scope ce fp) rfl rfl rfl hc i [] t5 _ G5 (fun _ _ => False) J5 (stat J5 n5) st5 stop) fun r t6 hr => ?_
      obtain ⟨rfl, J6⟩ := hr
      have J7 : Inv X pins σ G5 t6 := J3.call' (ch := fp) J6.os J6.base J6.hok J6.bare fun b hb => ⟨(f3 b hb).1.2.2.2.1, (f3 b hb).1.2.1, (f3 b hb).1.2.2.2.2.1, (f3 b hb).1.2.2.2.2.2⟩
      have nC : G5 t3.heap.objs.size = none := by
        rw [← cL]
        exact J6.free
      obtain ⟨m, hn, _⟩ := J6.loc
      have hn : t6.heap.Ns ce.locals m := hn
      rw [cL] at hn
      exact hRR D t3.heap.objs.size t6 m G5 J7 qq hn (J3.fpOk (Nat.le_refl _) nC)
    · refine thnF (T.item (X.blk t3 G3 scope ce fp) rfl rfl rfl hc i [] t5 _ G5 (fun _ _ => False) J5 (stat J5 n5) st5 go) fun r t6 hr => ?_
      obtain ⟨u, rfl, h6⟩ := hr
      refine thnF h6 fun _ t7 h7 => ?_
      obtain ⟨x, G7, J7, r7, y7, st7, n7⟩ := h7
      have K7 := J7.pinned (stat J7 n7) (T.obj _ _ st7)
      refine thnF (pg.run _ t7 _ G7 x u _ K7 r7 (step x G7 y7)) fun _ t8 h8 => ?_
      obtain ⟨σ8, G8, J8, hw8, q8⟩ := h8
      refine thnF (pt.run _ t8 σ8 G8 _ J8 q8) fun b t9 h9 => ?_
      obtain ⟨G9, J9, q9⟩ := h9
      have fin : ∀ {t : Shared} {G : Hp}, Inv (X.blk t3 G3 scope ce fp) ([] ++ pinsAt fp t7.heap) σ8 G t → Nx G → ∃ m, m < n ∧ ∃ i G, Inv (X.blk t3 G3 scope ce fp) [] (wipe σ (own.map (·.2))) G t ∧ tn i t.heap ∧ (∀ b ∈ fp, G b = none) ∧ W i m G := fun {t G} K nx => by
        obtain ⟨m', hm, w'⟩ := hNx G nx
        have pin : ∀ b ∈ fp, ∀ o, t7.heap.get? b = some o → t.heap.get? b = some o ∧ G b = none := fun b hb o e => by
          have z := K.pin (b, o) (List.mem_append_right _ (List.mem_append_right _ (mem_pinsAt hb e)))
          exact ⟨z.1, z.2.1⟩
        have hl : (wipe σ (own.map (·.2))).length = σ8.length := by rw [← hw8, wipe_length]
        refine ⟨m', hm, i + 1, G, (K.unpinned (pins := [])).weak hl (fun j v e => ?_), T.keep _ _ _ st7 fun b hb o e => (pin b hb o e).1, fun b hb => ?_, w'⟩
        · rw [← hw8] at e
          exact (wipe_some e).1
        · obtain ⟨o, e, _⟩ := T.obj _ _ st7 b hb
          exact (pin b hb o e).2
      cases b with
      | false =>
        rw [if_neg Bool.false_ne_true] at q9 ⊢
        exact fin J9 q9
      | true =>
        rw [if_pos rfl] at q9 ⊢
        refine thnF (pk.run _ t9 σ8 G9 _ J9 q9) fun zk t10 h10 => ?_
        obtain ⟨yk, G10, J10, r10, q10⟩ := h10
        refine thnF (pe.run _ t10 σ8 G10 _ J10 q10) fun zv t11 h11 => ?_
        obtain ⟨yv, G11, J11, r11, kvs, k, p, rfl, hp11, hD11, hz11, nx⟩ := h11
        exact set_tup (X := X.blk t3 G3 scope ce fp) hu J11 hD11 hz11 hp11 r10 r11 fun t12 J12 => fin J12 nx
  exact codeAny_compStart_dict loop (T.self X.A 0 _ _ _ st4 loop)
theorem pe_dcT {kx vx tg iter : Expr} {ifs : List Expr} {scope : Scope} {own : List (Str × Nat)} {pos : Pos} {wi : TI} {g : TG} {tt : TT} {tk tv : TE} (hu : X.A.units + 1 < cLine) (hc : X.calm = true) (hN : X.N.Nodup) (hi : PI X tg iter wi) (ok : BlkOk X.N X.env.scope scope own)
    (hg : ∀ (s : Shared) (H : Hp) (C : Addr) (cl : List (Str × Addr)) (fp : List Addr), PG (X.blk s H scope (compEnvC scope cl C X.env) fp) tg g) (ht : ∀ (s : Shared) (H : Hp) (C : Addr) (cl : List (Str × Addr)) (fp : List Addr), PTs (X.blk s H scope (compEnvC scope cl C X.env) fp) ifs tt)
    (hk : ∀ (s : Shared) (H : Hp) (C : Addr) (cl : List (Str × Addr)) (fp : List Addr), PE (X.blk s H scope (compEnvC scope cl C X.env) fp) kx tk) (he : ∀ (s : Shared) (H : Hp) (C : Addr) (cl : List (Str × Addr)) (fp : List Addr), PE (X.blk s H scope (compEnvC scope cl C X.env) fp) vx tv)
    (hs : ∀ x, foldedSetIterable iter X.env x = pure x := by intro _; rfl) : PE X (.DictComp kx vx [⟨tg, iter, ifs, 0⟩] scope pos) (tDcT wi g tt tk tv (own.map (·.2))) := by
  constructor
  intro pins s σ H Q I h
  rw [arm_eval_DictComp]
  refine dcT_core hu hc hN I hi ok hg ht hk he hs h fun D C t m G J q hn f => ⟨m, hn, fun k sb => ?_⟩
  obtain ⟨f0, f1, f2, f3, f4, f5⟩ := f
  exact ⟨.ref D, G, J.turned (t' := t.toks) (fun b o hb e => (sb.2 b hb).trans e) f0 f1 f3 f4 f5, rfl, q⟩
end
end Cg
namespace Cg
open PySem PySem.Spec PyProof.Rows L2 Evl
section
variable {X : Cx} {k : Nat} {ps : List Str} {sp : Sp} {E : XK} {x : Str} {p pos : Pos}
theorem pe_callH0 (F : Has X.prog X.w X.K X.mg X.base k x ps sp) (hr : Room k X.A) (hx : Passes (L2.CX X.prog X.w) X E) (hg : Gl X x := by rfl) (hdb : (x == ("__debug__" : Str)) = false := by decide) : PE X (.Call (.Name x p) [] [] pos) (tCall sp [] E tNil) := by
  obtain ⟨f, fd, F, g, kp, b⟩ := F
  exact pe_call0 F hr hg g kp b .nil hx hdb
end
theorem pe_globS {X : Cx} {x z : Str} {pos : Pos} (h : ∃ t, X.mg x = some (.str z t)) (hg : Gl X x := by rfl) (hd : (x == ("__debug__" : Str)) = false := by decide) : PE X (.Name x pos) (tC (.str z)) := by
  obtain ⟨t, h⟩ := h
  exact pe_glob hg h ⟨t, rfl⟩ hd
def rTup1 (K : PySem.W.Frag) : List V → Hp → VK → Prop := fun xs H Q => ∃ p ys, xs = [.ref p] ∧ ((SqL K H p ys ∧ ∀ l, H l = none → Q (.ref l) (upd H l (.tup ys))) ∨ (SqT K H p ys ∧ Q (.ref p) H))
theorem kk_tup (K) {X : Cx} (h : X.K = K := by rfl) : CallR X (.type "tuple") (rTup1 K) := h ▸ call_tuple_of
/-- a text of the signs with these numbers -/
def strOf (cs : List Nat) : Str := ⟨cs.toArray⟩
theorem strOf_len (cs : List Nat) : (strOf cs).length = cs.length := List.size_toArray
theorem strOf_add (xs ys : List Nat) : strOf xs ++ strOf ys = strOf (xs ++ ys) := congrArg Str.mk (by
  show xs.toArray ++ ys.toArray = (xs ++ ys).toArray
  simp)
theorem strOf_at (cs : List Nat) (i : Nat) : (strOf cs).cps[i]? = cs[i]? := by
  show (cs.toArray)[i]? = _
  simp
theorem cut_to (cs : List Nat) (k : Nat) (h : k ≤ cs.length) : cutS (strOf cs) none (some (k : Int)) = strOf (cs.take k) := by
  unfold cutS
  rw [HT.sIx_none, HT.sIx_nat, strOf_len, Nat.min_eq_left h, List.drop_zero, Nat.sub_zero]
  rfl
theorem cut_from (cs : List Nat) (k : Nat) (h : k ≤ cs.length) : cutS (strOf cs) (some (k : Int)) none = strOf (cs.drop k) := by
  unfold cutS
  rw [HT.sIx_none, HT.sIx_nat, strOf_len, Nat.min_eq_left h, List.take_of_length_le (by
    show ((cs.toArray.toList).drop k).length ≤ _
    rw [List.length_drop]
    exact Nat.le_refl _)]
  rfl
section
variable {K : PySem.W.Frag} {σ : L2.St} {H H' : Hp} {ta tb te tx : TE} {x y v : V} {xs ys : List V} {tu tz : TS} {D : Ends} {z z2 : Str}
/-- for c in text -/
theorem s_forS {j : Nat} (h : Ev te σ H (.str z)) (Pv : Nat → L2.St → Hp → Prop) (h0 : ∀ H1, Ex H H1 → Pv 0 σ H1)
    (hs : ∀ (i c : Nat) τ G, z.cps[i]? = some c → Pv i τ G → tu { D with nx := Pv (i + 1), ct := Pv (i + 1), bk := D.nx } (τ.set j (some (.str ⟨#[c]⟩))) G) (hd : ∀ τ G, Pv z.cps.size τ G → D.nx τ G) : tFor (iStr te) (gName j) tu D σ H :=
  h H (Ex.refl H) _ fun H1 e1 => ⟨z, rfl, by
    refine ⟨fun i m τ G => i + m = z.cps.size ∧ Pv i τ G, ⟨z.cps.size, Nat.zero_add _, h0 H1 e1⟩, ?_⟩
    rintro i m τ G ⟨em, p⟩
    by_cases hi : i < z.cps.size
    · refine .inr ⟨hi, Pv (i + 1), fun τ2 G2 hN => ⟨m - 1, by omega, by omega, hN⟩, fun x G2 hy => ?_⟩
      obtain ⟨rfl, c, hc, rfl⟩ := hy
      exact hs i c τ _ hc p
    · have e : i = z.cps.size := by omega
      subst e
      exact .inl ⟨Nat.le_refl _, hd τ G p⟩⟩
theorem q_forS {j : Nat} (h : Ev te σ H (.str z)) (Pv : Nat → L2.St → Hp → Prop) (h0 : ∀ H1, Ex H H1 → Pv 0 σ H1)
    (hs : ∀ (i c : Nat) τ G, z.cps[i]? = some c → Pv i τ G → tu { D with nx := Pv (i + 1), ct := Pv (i + 1), bk := tz D } (τ.set j (some (.str ⟨#[c]⟩))) G) (hd : ∀ τ G, Pv z.cps.size τ G → tz D τ G) : tSeq (tFor (iStr te) (gName j) tu) tz D σ H :=
  s_forS (D := { D with nx := tz D }) h Pv h0 hs hd
/-- [e for k in range(a, b, c)] -/
theorem el_lcR3 {t : TA} {j : Nat} {vs : List Nat} {i0 j0 c : Int} {n : Nat} (g : Nat → V) (h : EvA t σ H [.int i0, .int j0, .int c]) (hr : RgC i0 j0 c n) (hz : n ≤ 1000000) (hw : ∀ x, wipe ((wipe σ vs).set j (some x)) vs = wipe σ vs)
    (he : ∀ (i : Nat) H1, Ex H H1 → i < n → Ev te ((wipe σ vs).set j (some (.int (i0 + (i : Nat) * c)))) H1 (g i)) : EvL (tLc (iRng3 t) (gName j) tYes te vs) σ H ((List.range n).map g) := fun H0 e Q q =>
  h H0 e _ fun H1 e1 => ⟨i0, j0, c, n, rfl, hr, fun Dl hD => by
    refine ⟨fun i m G => i + m = n ∧ Ex H1 G ∧ G Dl = some (.lst (((List.range n).map g).take i)), ⟨n, Nat.zero_add _, Ex.new hD, by rw [List.take_zero]; exact upd_same⟩, ?_⟩
    rintro i m G ⟨em, p1, p2⟩
    by_cases hi : i < n
    · refine .inr ⟨hi, fun G2 => Ex H1 G2 ∧ G2 Dl = some (.lst (((List.range n).map g).take (i + 1))), fun G2 hN => ⟨m - 1, by omega, by omega, hN.1, hN.2⟩, fun x G2 hy => ?_⟩
      obtain ⟨rfl, rfl⟩ := hy
      refine ⟨hw _, yes_go (he i H1 (e.trans e1) hi _ p1 _ fun G4 e4 => ⟨_, e4 Dl _ p2, ?_, Ex.mut (p1.trans e4) hD, ?_⟩)⟩
      · rw [List.length_take, List.length_map, List.length_range]
        show _ < 2 ^ 24
        omega
      · have z : ((List.range n).map g)[i]? = some (g i) := by rw [List.getElem?_map, List.getElem?_range hi]; rfl
        rw [List.take_add_one, z]
        exact upd_same
    · have e2 : i = n := by omega
      subst e2
      refine .inl ⟨Nat.le_refl _, ?_⟩
      rw [List.take_of_length_le (by rw [List.length_map, List.length_range]; exact Nat.le_refl _)] at p2
      exact q Dl G (fresh_back e1 hD) (e1.trans p1) p2⟩
/-- xs.extend(new list), xs of one's own -/
theorem s_extI {B : Hp} {l : Addr} {ws zs : List Int} (hb : B l = none) (eb : Ex B H) (hl : H l = some (.lst (iv ws))) (ha : Ev ta σ H (.ref l)) (h : EvL te σ H (iv zs)) (hz : ws.length + zs.length < 100000)
    (k : ∀ H1, Ex B H1 → H1 l = some (.lst (iv (ws ++ zs))) → D.nx σ H1) : tDrop (tBM K "list" rExtend ta (tCons te tNil)) D σ H :=
  ha H (Ex.refl H) _ fun H1 e1 => ⟨Or.inl ⟨rfl, iv ws, sq_of (e1 l _ hl)⟩, h H1 e1 _ fun p H2 n2 e2 h2 => ⟨l, p, iv ws, iv zs, rfl, rfl, e2 l _ (e1 l _ hl), h2, sz_of (by rw [iv_len, iv_len]; omega), k _ (Ex.mut (eb.trans (e1.trans e2)) hb) (by
    rw [upd_same]
    unfold iv
    rw [List.map_append])⟩⟩
theorem ev_ord {c : Nat} (h : Ev te σ H (.str ⟨#[c]⟩)) : Ev (tCB (fun xs H Q => ∃ x : Str, xs = [.str x] ∧ x.length = 1 ∧ Q (.int (x.cps.getD 0 0 : Nat)) H) (tCons te tNil)) σ H (.int (c : Nat)) := fun H1 e Q q =>
  h H1 e _ fun H2 e2 => ⟨_, rfl, rfl, q H2 e2⟩
theorem ev_niS {c : Nat} (ha : Ev ta σ H (.str ⟨#[c]⟩)) (hb : Ev tb σ H (.str z)) : Ev (tOp (fun x y H Q => ∃ (c : Nat) (z : Str), x = .str ⟨#[c]⟩ ∧ y = .str z ∧ Q (.bl (!decide (c ∈ z.cps.toList))) H) ta tb) σ H (.bl (!decide (c ∈ z.cps.toList))) := fun H1 e Q q =>
  ha H1 e _ fun H2 e2 => hb H2 (e.trans e2) _ fun H3 e3 => ⟨c, z, rfl, rfl, q H3 (e2.trans e3)⟩
theorem ev_slS {tl th : TO} {lo hi : Option Int} (h : Ev te σ H (.str z)) (h1 : EvO tl σ H lo) (h2 : EvO th σ H hi) (hz : z.length ≤ 100000) : Ev (tSl rSlS te tl th) σ H (.str (cutS z lo hi)) := fun H1 e Q q =>
  h H1 e _ fun H2 e2 => h1 H2 (e.trans e2) _ fun H3 e3 => h2 H3 ((e.trans e2).trans e3) _ fun H4 e4 => ⟨z, rfl, sz_of hz, q H4 ((e2.trans e3).trans e4)⟩
theorem eu_tupL (h : EvR te σ H xs) : EvU (tCB (rTup1 K) (tCons te tNil)) σ H xs := fun H1 e Q q =>
  h H1 e _ fun p H2 e2 h2 => ⟨p, xs, rfl, Or.inl ⟨sq_of h2, fun l nl => q l _ (fresh_back e2 nl) (e2.trans (Ex.new nl)) upd_same⟩⟩
/-- an expression told by what its value is -/
def EvP (te : TE) (σ : L2.St) (H : Hp) (P : V → Hp → Prop) : Prop := ∀ H1, Ex H H1 → ∀ Q : VK, (∀ v H2, Ex H1 H2 → P v H2 → Q v H2) → te σ H1 Q
theorem eap_p {tr : TA} {P : V → Hp → Prop} {R : List V → Hp → Prop} (h : EvP te σ H P) (hm : ∀ v H1 H2, Ex H1 H2 → P v H1 → P v H2) (hr : EvAP tr σ H R) : EvAP (tCons te tr) σ H (fun vs H' => ∃ v r, vs = v :: r ∧ P v H' ∧ R r H') := fun H1 e Q q =>
  h H1 e _ fun v H2 e2 p => hr H2 (e.trans e2) _ fun vs H3 e3 r => q _ H3 (e2.trans e3) ⟨v, vs, rfl, hm _ _ _ e3 p, r⟩
/-- a written list of things, and one of them -/
theorem ep_pick {t : TA} {i : Int} {R : List V → Hp → Prop} {P : V → Hp → Prop} (h : EvAP t σ H R) (hb : Ev tb σ H (.int i)) (h0 : 0 ≤ i) (hR : ∀ vs H1, R vs H1 → vs.length ≤ 1000 ∧ i.toNat < vs.length ∧ ∀ v, vs[i.toNat]? = some v → ∀ H2, Ex H1 H2 → P v H2) : EvP (tOp (rIxL K) (tLst t) tb) σ H P := fun H1 e Q q =>
  h H1 e _ fun vs H2 e2 r => by
    obtain ⟨a, b, c⟩ := hR vs H2 r
    refine ⟨Nat.le_trans a (by decide), fun p np => hb _ ((e.trans e2).trans (Ex.new np)) _ fun H3 e3 => ⟨p, vs, i, vs[i.toNat], rfl, rfl, sq_of (e3 _ _ upd_same), ?_, q _ H3 ((e2.trans (Ex.new np)).trans e3) (c _ (List.getElem?_eq_getElem b) H3 ((Ex.new np).trans e3))⟩⟩
    have z : atI vs ((i.toNat : Nat) : Int) = some vs[i.toNat] := atI_nat (List.getElem?_eq_getElem b)
    have ez : ((i.toNat : Nat) : Int) = i := by omega
    rw [ez] at z
    exact z
end
end Cg
namespace Cg
open PySem PySem.Spec PyProof.Rows L2 Evl
theorem ep_of {te : TE} {σ : L2.St} {H : Hp} {v : V} {P : V → Hp → Prop} (h : Ev te σ H v) (p : ∀ H1, Ex H H1 → P v H1) : EvP te σ H P := fun H1 e _ q => h H1 e _ fun H2 e2 => q v H2 e2 (p H2 (e.trans e2))
end Cg

set_option Elab.async false
set_option linter.all false
set_option maxRecDepth 100000
set_option maxHeartbeats 4000000
/-! ## Pre 5: own classes asked by isinstance; what is no sign, no row -/
namespace Cg
open PySem PySem.Spec PyProof.Rows L2 Evl
structure OwnI (K : PySem.W.Frag) (C : Addr) : Prop where
  i : PySem.W.isClsIn K C = true
  t : PySem.W.typeIn K (.ref C) = some (.type "type")
  c : PySem.W.findIn K (.ref C) "__class__" = some (some (.builtin "object.__class__"))
  m : PySem.W.mroIn K C (.type "object") = some true
  n : PySem.W.specialIn K (.builtin "object.__class__") "__get__" = some (some (.builtin "getset_descriptor.__get__"))
  k : PySem.W.takesIn K (.builtin "object.__class__") = some true
  cl : Cls K C
theorem OwnI.kit {K : PySem.W.Frag} {C : Addr} (O : OwnI K C) {t : Value} {b : Bool} (h : PySem.W.subIn K t (.ref C) = some b) (ne : b = false → t ≠ .ref C) : PySem.W.kitOne K t (.ref C) = some b := by
  unfold PySem.W.kitOne
  by_cases e : t = .ref C
  · have z : (t == Value.ref C) = true := by rw [e]; simp
    rw [z, if_pos rfl]
    cases b with
    | true => rfl
    | false => exact absurd e (ne rfl)
  · have z : (t == Value.ref C) = false := by simpa using e
    rw [z, if_neg Bool.false_ne_true]
    unfold PySem.W.kitCls
    have e2 : ((PySem.W.clsIn K C).isSome && PySem.W.typeIn K (.ref C) == some (.type "type")) = true := by
      have h2 : (PySem.W.clsIn K C).isSome = true := O.i
      rw [h2, O.t] <;> rfl
    show (if ((PySem.W.clsIn K C).isSome && PySem.W.typeIn K (.ref C) == some (.type "type")) = true then PySem.W.subIn K t (.ref C) else none) = some b
    rw [if_pos e2]
    exact h
theorem OwnI.ty {K : PySem.W.Frag} {C : Addr} (O : OwnI K C) {H : Hp} {a dx : Addr} {fs : List (Str × V)} (h : H a = some (.ins C dx fs)) : TyX K H (.ref a) (.ref C) := .base (.ins h O.cl O.c O.n O.k O.m)
section
variable {K : PySem.W.Frag} {σ : L2.St} {H H' : Hp} {ta tb tc te tx : TE} {x y v : V} {xs ys : List V}
theorem ev_isiO {C : Addr} {tv : Value} {b : Bool} (ha : Ev ta σ H x) (tm : ∀ H1, Ex H H1 → TyX K H1 x tv) (hb : PySem.W.kitOne K tv (.ref C) = some b) : Ev (tCB (rIsi K) (tCons ta (tCons (tC (.ref C)) tNil))) σ H (.bl b) := fun H1 e Q q =>
  ha H1 e _ fun H2 e2 => ⟨x, .ref C, tv, .ref C, b, rfl, .own C, tm H2 (e.trans e2), hb, q H2 e2⟩
/-- no sign: another number, a truth, or no number -/
def NotSign (K : PySem.W.Frag) (H : Hp) (x : V) : Prop := (∃ i : Int, x = .int i ∧ i ≠ 0 ∧ i ≠ 1) ∨ (∃ b, x = .bl b) ∨ ∃ t : String, kitB t "int" = some false ∧ ∀ H1, Ex H H1 → TyX K H1 x (.type t)
theorem NotSign.mono (h : NotSign K H x) (e : Ex H H') : NotSign K H' x := by
  rcases h with h | h | ⟨t, k, ty⟩
  · exact .inl h
  · exact .inr (.inl h)
  · exact .inr (.inr ⟨t, k, fun H1 e1 => ty H1 (e.trans e1)⟩)
/-- no row: no list, or a list with something that is no sign -/
def BadR (K : PySem.W.Frag) (H : Hp) (v : V) : Prop := (∃ t : String, kitB t "list" = some false ∧ ∀ H1, Ex H H1 → TyX K H1 v (.type t)) ∨
  ∃ (a : Addr) (pre : List Int) (x : V) (post : List V), v = .ref a ∧ H a = some (.lst (iv pre ++ x :: post)) ∧ (∀ n ∈ pre, n = 0 ∨ n = 1) ∧ NotSign K H x
theorem BadR.mono (h : BadR K H v) (e : Ex H H') : BadR K H' v := by
  rcases h with ⟨t, k, ty⟩ | ⟨a, pre, x, post, hv, ha, hp, hx⟩
  · exact .inl ⟨t, k, fun H1 e1 => ty H1 (e.trans e1)⟩
  · exact .inr ⟨a, pre, x, post, hv, e _ _ ha, hp, hx.mono e⟩
end
end Cg



set_option Elab.async false
set_option linter.all false
set_option maxRecDepth 100000
set_option maxHeartbeats 400000
namespace Cg
open PySem PySem.Spec PyProof.Rows L2 Evl
def topS (i : Nat) : Stmt := PySem.Challenge.pw_crcgate_k06_refusals.main.body.getD i (.Pass ⟨0, 0, 0, 0⟩)
abbrev s_is_sign : Stmt := topS 13
abbrev N_is_sign : List Str := ["value"]
theorem sc_is_sign : FnScope N_is_sign ["value"] (defScope s_is_sign) := ⟨rfl, rfl, rfl, by decide +kernel, rfl, by decide +kernel, by decide +kernel⟩
abbrev s_need_row : Stmt := topS 14
abbrev N_need_row : List Str := ["row", "sign"]
theorem sc_need_row : FnScope N_need_row ["row"] (defScope s_need_row) := ⟨rfl, rfl, rfl, by decide +kernel, rfl, by decide +kernel, by decide +kernel⟩
abbrev s_need_divisor : Stmt := topS 15
abbrev N_need_divisor : List Str := ["divisor"]
theorem sc_need_divisor : FnScope N_need_divisor ["divisor"] (defScope s_need_divisor) := ⟨rfl, rfl, rfl, by decide +kernel, rfl, by decide +kernel, by decide +kernel⟩
abbrev s_lengthened : Stmt := topS 16
abbrev N_lengthened : List Str := ["row", "length"]
theorem sc_lengthened : FnScope N_lengthened ["row", "length"] (defScope s_lengthened) := ⟨rfl, rfl, rfl, by decide +kernel, rfl, by decide +kernel, by decide +kernel⟩
abbrev s_added : Stmt := topS 17
abbrev N_added : List Str := ["one", "other", "length", "first", "second", "a", "b"]
theorem sc_added : FnScope N_added ["one", "other"] (defScope s_added) := ⟨rfl, rfl, rfl, by decide +kernel, rfl, by decide +kernel, by decide +kernel⟩
abbrev s_times : Stmt := topS 18
abbrev N_times : List Str := ["one", "other", "found", "i", "a", "j", "b"]
theorem sc_times : FnScope N_times ["one", "other"] (defScope s_times) := ⟨rfl, rfl, rfl, by decide +kernel, rfl, by decide +kernel, by decide +kernel⟩
abbrev s_reduced : Stmt := topS 19
abbrev N_reduced : List Str := ["row", "divisor", "a", "b"]
theorem sc_reduced : FnScope N_reduced ["row", "divisor"] (defScope s_reduced) := ⟨rfl, rfl, rfl, by decide +kernel, rfl, by decide +kernel, by decide +kernel⟩
abbrev s_parted : Stmt := topS 20
abbrev N_parted : List Str := ["row", "divisor", "width", "rest", "heads", "sign", "longer"]
theorem sc_parted : FnScope N_parted ["row", "divisor"] (defScope s_parted) := ⟨rfl, rfl, rfl, by decide +kernel, rfl, by decide +kernel, by decide +kernel⟩
abbrev s_need_gate_divisor : Stmt := topS 24
abbrev N_need_gate_divisor : List Str := ["divisor"]
theorem sc_need_gate_divisor : FnScope N_need_gate_divisor ["divisor"] (defScope s_need_gate_divisor) := ⟨rfl, rfl, rfl, by decide +kernel, rfl, by decide +kernel, by decide +kernel⟩
abbrev s_reach : Stmt := topS 25
abbrev N_reach : List Str := ["divisor", "many", "_", "start"]
theorem sc_reach : FnScope N_reach ["divisor"] (defScope s_reach) := ⟨rfl, rfl, rfl, by decide +kernel, rfl, by decide +kernel, by decide +kernel⟩
abbrev s_is_count : Stmt := topS 28
abbrev N_is_count : List Str := ["value"]
theorem sc_is_count : FnScope N_is_count ["value"] (defScope s_is_count) := ⟨rfl, rfl, rfl, by decide +kernel, rfl, by decide +kernel, by decide +kernel⟩
abbrev s_turned : Stmt := topS 29
abbrev N_turned : List Str := ["row", "place"]
theorem sc_turned : FnScope N_turned ["row", "place"] (defScope s_turned) := ⟨rfl, rfl, rfl, by decide +kernel, rfl, by decide +kernel, by decide +kernel⟩
abbrev s_Gate___init__ : Stmt := inClass (topS 30) 0
abbrev N_Gate___init__ : List Str := ["self", "divisor"]
theorem sc_Gate___init__ : FnScope N_Gate___init__ ["self", "divisor"] (defScope s_Gate___init__) := ⟨rfl, rfl, rfl, by decide +kernel, rfl, by decide +kernel, by decide +kernel⟩
abbrev s_Gate_rest : Stmt := inClass (topS 30) 1
abbrev N_Gate_rest : List Str := ["self", "row", "_", "rest"]
theorem sc_Gate_rest : FnScope N_Gate_rest ["self", "row"] (defScope s_Gate_rest) := ⟨rfl, rfl, rfl, by decide +kernel, rfl, by decide +kernel, by decide +kernel⟩
abbrev s_Gate_later : Stmt := inClass (topS 30) 2
abbrev N_Gate_later : List Str := ["self", "rest", "many"]
theorem sc_Gate_later : FnScope N_Gate_later ["self", "rest", "many"] (defScope s_Gate_later) := ⟨rfl, rfl, rfl, by decide +kernel, rfl, by decide +kernel, by decide +kernel⟩
abbrev s_Gate_check : Stmt := inClass (topS 30) 3
abbrev N_Gate_check : List Str := ["self", "row"]
theorem sc_Gate_check : FnScope N_Gate_check ["self", "row"] (defScope s_Gate_check) := ⟨rfl, rfl, rfl, by decide +kernel, rfl, by decide +kernel, by decide +kernel⟩
abbrev s_Gate_sealed : Stmt := inClass (topS 30) 4
abbrev N_Gate_sealed : List Str := ["self", "row"]
theorem sc_Gate_sealed : FnScope N_Gate_sealed ["self", "row"] (defScope s_Gate_sealed) := ⟨rfl, rfl, rfl, by decide +kernel, rfl, by decide +kernel, by decide +kernel⟩
abbrev s_Gate_holds : Stmt := inClass (topS 30) 5
abbrev N_Gate_holds : List Str := ["self", "row"]
theorem sc_Gate_holds : FnScope N_Gate_holds ["self", "row"] (defScope s_Gate_holds) := ⟨rfl, rfl, rfl, by decide +kernel, rfl, by decide +kernel, by decide +kernel⟩
abbrev s_Gate_opened : Stmt := inClass (topS 30) 6
abbrev N_Gate_opened : List Str := ["self", "row"]
theorem sc_Gate_opened : FnScope N_Gate_opened ["self", "row"] (defScope s_Gate_opened) := ⟨rfl, rfl, rfl, by decide +kernel, rfl, by decide +kernel, by decide +kernel⟩
abbrev s_Gate_mended : Stmt := inClass (topS 30) 7
abbrev N_Gate_mended : List Str := ["self", "row", "wanted", "alone", "place"]
theorem sc_Gate_mended : FnScope N_Gate_mended ["self", "row"] (defScope s_Gate_mended) := ⟨rfl, rfl, rfl, by decide +kernel, rfl, by decide +kernel, by decide +kernel⟩
abbrev s_signs_of : Stmt := topS 34
abbrev N_signs_of : List Str := ["letter", "number", "power"]
theorem sc_signs_of : FnScope N_signs_of ["letter"] (defScope s_signs_of) := ⟨rfl, rfl, rfl, by decide +kernel, rfl, by decide +kernel, by decide +kernel⟩
abbrev s_letters_by_signs : Stmt := topS 35
abbrev N_letters_by_signs : List Str := ["letter"]
theorem sc_letters_by_signs : FnScope N_letters_by_signs [] (defScope s_letters_by_signs) := ⟨rfl, rfl, rfl, by decide +kernel, rfl, by decide +kernel, by decide +kernel⟩
abbrev s_row_of : Stmt := topS 36
abbrev N_row_of : List Str := ["text", "row", "letter"]
theorem sc_row_of : FnScope N_row_of ["text"] (defScope s_row_of) := ⟨rfl, rfl, rfl, by decide +kernel, rfl, by decide +kernel, by decide +kernel⟩
abbrev s_text_of : Stmt := topS 37
abbrev N_text_of : List Str := ["row", "letters", "found", "start", "signs"]
theorem sc_text_of : FnScope N_text_of ["row"] (defScope s_text_of) := ⟨rfl, rfl, rfl, by decide +kernel, rfl, by decide +kernel, by decide +kernel⟩
abbrev s_Register___init__ : Stmt := inClass (topS 39) 0
abbrev N_Register___init__ : List Str := ["self", "gate"]
theorem sc_Register___init__ : FnScope N_Register___init__ ["self", "gate"] (defScope s_Register___init__) := ⟨rfl, rfl, rfl, by decide +kernel, rfl, by decide +kernel, by decide +kernel⟩
abbrev s_Register_put : Stmt := inClass (topS 39) 1
abbrev N_Register_put : List Str := ["self", "sign"]
theorem sc_Register_put : FnScope N_Register_put ["self", "sign"] (defScope s_Register_put) := ⟨rfl, rfl, rfl, by decide +kernel, rfl, by decide +kernel, by decide +kernel⟩
abbrev s_Register_joined : Stmt := inClass (topS 39) 3
abbrev N_Register_joined : List Str := ["self", "other", "moved"]
theorem sc_Register_joined : FnScope N_Register_joined ["self", "other"] (defScope s_Register_joined) := ⟨rfl, rfl, rfl, by decide +kernel, rfl, by decide +kernel, by decide +kernel⟩
abbrev s_Register_rest : Stmt := inClass (topS 39) 4
abbrev N_Register_rest : List Str := ["self"]
theorem sc_Register_rest : FnScope N_Register_rest ["self"] (defScope s_Register_rest) := ⟨rfl, rfl, rfl, by decide +kernel, rfl, by decide +kernel, by decide +kernel⟩
abbrev s_Register_check : Stmt := inClass (topS 39) 5
abbrev N_Register_check : List Str := ["self"]
theorem sc_Register_check : FnScope N_Register_check ["self"] (defScope s_Register_check) := ⟨rfl, rfl, rfl, by decide +kernel, rfl, by decide +kernel, by decide +kernel⟩
abbrev s__law_cell_at : Stmt := topS 41
abbrev N__law_cell_at : List Str := ["_law_script", "_law_k"]
theorem sc__law_cell_at : FnScope N__law_cell_at ["_law_script", "_law_k"] (defScope s__law_cell_at) := ⟨rfl, rfl, rfl, by decide +kernel, rfl, by decide +kernel, by decide +kernel⟩
abbrev s__law_row_by : Stmt := topS 42
abbrev N__law_row_by : List Str := ["_law_cell", "_law_size", "_law_found", "_law_state", "_law_k"]
theorem sc__law_row_by : FnScope N__law_row_by ["_law_cell", "_law_size"] (defScope s__law_row_by) := ⟨rfl, rfl, rfl, by decide +kernel, rfl, by decide +kernel, by decide +kernel⟩
abbrev s__law_bad : Stmt := topS 43
abbrev N__law_bad : List Str := ["_law_cell", "_law_row", "_law_at"]
theorem sc__law_bad : FnScope N__law_bad ["_law_cell", "_law_row"] (defScope s__law_bad) := ⟨rfl, rfl, rfl, by decide +kernel, rfl, by decide +kernel, by decide +kernel⟩
abbrev s__law_rows_called : Stmt := topS 44
abbrev N__law_rows_called : List Str := ["_law_which", "_law_bad_here", "_law_row"]
theorem sc__law_rows_called : FnScope N__law_rows_called ["_law_which", "_law_bad_here", "_law_row"] (defScope s__law_rows_called) := ⟨rfl, rfl, rfl, by decide +kernel, rfl, by decide +kernel, by decide +kernel⟩
abbrev s__law_gate_called : Stmt := topS 45
abbrev N__law_gate_called : List Str := ["_law_which", "_law_bad_here", "_law_gate"]
theorem sc__law_gate_called : FnScope N__law_gate_called ["_law_which", "_law_bad_here", "_law_gate"] (defScope s__law_gate_called) := ⟨rfl, rfl, rfl, by decide +kernel, rfl, by decide +kernel, by decide +kernel⟩
abbrev s__law_else_called : Stmt := topS 46
abbrev N__law_else_called : List Str := ["_law_which", "_law_row", "_law_gate"]
theorem sc__law_else_called : FnScope N__law_else_called ["_law_which", "_law_row", "_law_gate"] (defScope s__law_else_called) := ⟨rfl, rfl, rfl, by decide +kernel, rfl, by decide +kernel, by decide +kernel⟩
abbrev s__law_words : Stmt := topS 47
abbrev N__law_words : List Str := ["_law_which", "_law_bad_here", "_law_row", "_law_gate", "e", "_law_words_here"]
theorem sc__law_words : FnScope N__law_words ["_law_which", "_law_bad_here", "_law_row", "_law_gate"] (defScope s__law_words) := ⟨rfl, rfl, rfl, by decide +kernel, rfl, by decide +kernel, by decide +kernel⟩
abbrev s_law : Stmt := topS 48
abbrev N_law : List Str := ["_law_script", "_law_size", "_law_row", "_law_which", "_law_gate", "_law_bad_here", "_law_due"]
theorem sc_law : FnScope N_law ["_law_script"] (defScope s_law) := ⟨rfl, rfl, rfl, by decide +kernel, rfl, by decide +kernel, by decide +kernel⟩
structure Cs where
  (none_ GateError NoRow NoSign NoDivisor NoCount TooLong TooShort Broken NoMate NoText Gate Register : Addr)
structure Txt (K : PySem.W.Frag) (mg : Str → Option Value) (cs : Cs) : Prop where
  e_GateError : ExcT K mg "GateError" cs.GateError
  e_NoRow : ExcT K mg "NoRow" cs.NoRow
  e_NoSign : ExcT K mg "NoSign" cs.NoSign
  e_NoDivisor : ExcT K mg "NoDivisor" cs.NoDivisor
  e_NoCount : ExcT K mg "NoCount" cs.NoCount
  e_TooLong : ExcT K mg "TooLong" cs.TooLong
  e_TooShort : ExcT K mg "TooShort" cs.TooShort
  e_Broken : ExcT K mg "Broken" cs.Broken
  e_NoMate : ExcT K mg "NoMate" cs.NoMate
  e_NoText : ExcT K mg "NoText" cs.NoText
  c_Gate : ClsT K mg "Gate" cs.Gate
  n_Gate_reach : NoAttr K cs.Gate "reach"
  n_Gate_divisor : NoAttr K cs.Gate "divisor"
  n_Gate_width : NoAttr K cs.Gate "width"
  n_Gate_even : NoAttr K cs.Gate "even"
  w_Gate : OwnI K cs.Gate
  c_Register : ClsT K mg "Register" cs.Register
  n_Register_gate : NoAttr K cs.Register "gate"
  n_Register_many : NoAttr K cs.Register "many"
  n_Register__rest : NoAttr K cs.Register "_rest"
  w_Register : OwnI K cs.Register
  b_NoneType_Register : PySem.W.subIn K (.type "NoneType") (.ref cs.Register) = some false
  b_list_Register : PySem.W.subIn K (.type "list") (.ref cs.Register) = some false
  b_int_Register : PySem.W.subIn K (.type "int") (.ref cs.Register) = some false
  b_str_Register : PySem.W.subIn K (.type "str") (.ref cs.Register) = some false
  b_tuple_Register : PySem.W.subIn K (.type "tuple") (.ref cs.Register) = some false
  b_bool_Register : PySem.W.subIn K (.type "bool") (.ref cs.Register) = some false
  o_Gate_Register : PySem.W.subIn K (.ref cs.Gate) (.ref cs.Register) = some false
  o_Register_Register : PySem.W.subIn K (.ref cs.Register) (.ref cs.Register) = some true
  p_GateError_GateError : PySem.W.subIn K (.ref cs.GateError) (.ref cs.GateError) = some true
  p_GateError_NoRow : PySem.W.subIn K (.ref cs.GateError) (.ref cs.NoRow) = some false
  p_GateError_NoSign : PySem.W.subIn K (.ref cs.GateError) (.ref cs.NoSign) = some false
  p_GateError_NoDivisor : PySem.W.subIn K (.ref cs.GateError) (.ref cs.NoDivisor) = some false
  p_GateError_NoCount : PySem.W.subIn K (.ref cs.GateError) (.ref cs.NoCount) = some false
  p_GateError_TooLong : PySem.W.subIn K (.ref cs.GateError) (.ref cs.TooLong) = some false
  p_GateError_TooShort : PySem.W.subIn K (.ref cs.GateError) (.ref cs.TooShort) = some false
  p_GateError_Broken : PySem.W.subIn K (.ref cs.GateError) (.ref cs.Broken) = some false
  p_GateError_NoMate : PySem.W.subIn K (.ref cs.GateError) (.ref cs.NoMate) = some false
  p_GateError_NoText : PySem.W.subIn K (.ref cs.GateError) (.ref cs.NoText) = some false
  p_NoRow_GateError : PySem.W.subIn K (.ref cs.NoRow) (.ref cs.GateError) = some true
  p_NoRow_NoRow : PySem.W.subIn K (.ref cs.NoRow) (.ref cs.NoRow) = some true
  p_NoRow_NoSign : PySem.W.subIn K (.ref cs.NoRow) (.ref cs.NoSign) = some false
  p_NoRow_NoDivisor : PySem.W.subIn K (.ref cs.NoRow) (.ref cs.NoDivisor) = some false
  p_NoRow_NoCount : PySem.W.subIn K (.ref cs.NoRow) (.ref cs.NoCount) = some false
  p_NoRow_TooLong : PySem.W.subIn K (.ref cs.NoRow) (.ref cs.TooLong) = some false
  p_NoRow_TooShort : PySem.W.subIn K (.ref cs.NoRow) (.ref cs.TooShort) = some false
  p_NoRow_Broken : PySem.W.subIn K (.ref cs.NoRow) (.ref cs.Broken) = some false
  p_NoRow_NoMate : PySem.W.subIn K (.ref cs.NoRow) (.ref cs.NoMate) = some false
  p_NoRow_NoText : PySem.W.subIn K (.ref cs.NoRow) (.ref cs.NoText) = some false
  p_NoSign_GateError : PySem.W.subIn K (.ref cs.NoSign) (.ref cs.GateError) = some true
  p_NoSign_NoRow : PySem.W.subIn K (.ref cs.NoSign) (.ref cs.NoRow) = some false
  p_NoSign_NoSign : PySem.W.subIn K (.ref cs.NoSign) (.ref cs.NoSign) = some true
  p_NoSign_NoDivisor : PySem.W.subIn K (.ref cs.NoSign) (.ref cs.NoDivisor) = some false
  p_NoSign_NoCount : PySem.W.subIn K (.ref cs.NoSign) (.ref cs.NoCount) = some false
  p_NoSign_TooLong : PySem.W.subIn K (.ref cs.NoSign) (.ref cs.TooLong) = some false
  p_NoSign_TooShort : PySem.W.subIn K (.ref cs.NoSign) (.ref cs.TooShort) = some false
  p_NoSign_Broken : PySem.W.subIn K (.ref cs.NoSign) (.ref cs.Broken) = some false
  p_NoSign_NoMate : PySem.W.subIn K (.ref cs.NoSign) (.ref cs.NoMate) = some false
  p_NoSign_NoText : PySem.W.subIn K (.ref cs.NoSign) (.ref cs.NoText) = some false
  p_NoDivisor_GateError : PySem.W.subIn K (.ref cs.NoDivisor) (.ref cs.GateError) = some true
  p_NoDivisor_NoRow : PySem.W.subIn K (.ref cs.NoDivisor) (.ref cs.NoRow) = some false
  p_NoDivisor_NoSign : PySem.W.subIn K (.ref cs.NoDivisor) (.ref cs.NoSign) = some false
  p_NoDivisor_NoDivisor : PySem.W.subIn K (.ref cs.NoDivisor) (.ref cs.NoDivisor) = some true
  p_NoDivisor_NoCount : PySem.W.subIn K (.ref cs.NoDivisor) (.ref cs.NoCount) = some false
  p_NoDivisor_TooLong : PySem.W.subIn K (.ref cs.NoDivisor) (.ref cs.TooLong) = some false
  p_NoDivisor_TooShort : PySem.W.subIn K (.ref cs.NoDivisor) (.ref cs.TooShort) = some false
  p_NoDivisor_Broken : PySem.W.subIn K (.ref cs.NoDivisor) (.ref cs.Broken) = some false
  p_NoDivisor_NoMate : PySem.W.subIn K (.ref cs.NoDivisor) (.ref cs.NoMate) = some false
  p_NoDivisor_NoText : PySem.W.subIn K (.ref cs.NoDivisor) (.ref cs.NoText) = some false
  p_NoCount_GateError : PySem.W.subIn K (.ref cs.NoCount) (.ref cs.GateError) = some true
  p_NoCount_NoRow : PySem.W.subIn K (.ref cs.NoCount) (.ref cs.NoRow) = some false
  p_NoCount_NoSign : PySem.W.subIn K (.ref cs.NoCount) (.ref cs.NoSign) = some false
  p_NoCount_NoDivisor : PySem.W.subIn K (.ref cs.NoCount) (.ref cs.NoDivisor) = some false
  p_NoCount_NoCount : PySem.W.subIn K (.ref cs.NoCount) (.ref cs.NoCount) = some true
  p_NoCount_TooLong : PySem.W.subIn K (.ref cs.NoCount) (.ref cs.TooLong) = some false
  p_NoCount_TooShort : PySem.W.subIn K (.ref cs.NoCount) (.ref cs.TooShort) = some false
  p_NoCount_Broken : PySem.W.subIn K (.ref cs.NoCount) (.ref cs.Broken) = some false
  p_NoCount_NoMate : PySem.W.subIn K (.ref cs.NoCount) (.ref cs.NoMate) = some false
  p_NoCount_NoText : PySem.W.subIn K (.ref cs.NoCount) (.ref cs.NoText) = some false
  p_TooLong_GateError : PySem.W.subIn K (.ref cs.TooLong) (.ref cs.GateError) = some true
  p_TooLong_NoRow : PySem.W.subIn K (.ref cs.TooLong) (.ref cs.NoRow) = some false
  p_TooLong_NoSign : PySem.W.subIn K (.ref cs.TooLong) (.ref cs.NoSign) = some false
  p_TooLong_NoDivisor : PySem.W.subIn K (.ref cs.TooLong) (.ref cs.NoDivisor) = some false
  p_TooLong_NoCount : PySem.W.subIn K (.ref cs.TooLong) (.ref cs.NoCount) = some false
  p_TooLong_TooLong : PySem.W.subIn K (.ref cs.TooLong) (.ref cs.TooLong) = some true
  p_TooLong_TooShort : PySem.W.subIn K (.ref cs.TooLong) (.ref cs.TooShort) = some false
  p_TooLong_Broken : PySem.W.subIn K (.ref cs.TooLong) (.ref cs.Broken) = some false
  p_TooLong_NoMate : PySem.W.subIn K (.ref cs.TooLong) (.ref cs.NoMate) = some false
  p_TooLong_NoText : PySem.W.subIn K (.ref cs.TooLong) (.ref cs.NoText) = some false
  p_TooShort_GateError : PySem.W.subIn K (.ref cs.TooShort) (.ref cs.GateError) = some true
  p_TooShort_NoRow : PySem.W.subIn K (.ref cs.TooShort) (.ref cs.NoRow) = some false
  p_TooShort_NoSign : PySem.W.subIn K (.ref cs.TooShort) (.ref cs.NoSign) = some false
  p_TooShort_NoDivisor : PySem.W.subIn K (.ref cs.TooShort) (.ref cs.NoDivisor) = some false
  p_TooShort_NoCount : PySem.W.subIn K (.ref cs.TooShort) (.ref cs.NoCount) = some false
  p_TooShort_TooLong : PySem.W.subIn K (.ref cs.TooShort) (.ref cs.TooLong) = some false
  p_TooShort_TooShort : PySem.W.subIn K (.ref cs.TooShort) (.ref cs.TooShort) = some true
  p_TooShort_Broken : PySem.W.subIn K (.ref cs.TooShort) (.ref cs.Broken) = some false
  p_TooShort_NoMate : PySem.W.subIn K (.ref cs.TooShort) (.ref cs.NoMate) = some false
  p_TooShort_NoText : PySem.W.subIn K (.ref cs.TooShort) (.ref cs.NoText) = some false
  p_Broken_GateError : PySem.W.subIn K (.ref cs.Broken) (.ref cs.GateError) = some true
  p_Broken_NoRow : PySem.W.subIn K (.ref cs.Broken) (.ref cs.NoRow) = some false
  p_Broken_NoSign : PySem.W.subIn K (.ref cs.Broken) (.ref cs.NoSign) = some false
  p_Broken_NoDivisor : PySem.W.subIn K (.ref cs.Broken) (.ref cs.NoDivisor) = some false
  p_Broken_NoCount : PySem.W.subIn K (.ref cs.Broken) (.ref cs.NoCount) = some false
  p_Broken_TooLong : PySem.W.subIn K (.ref cs.Broken) (.ref cs.TooLong) = some false
  p_Broken_TooShort : PySem.W.subIn K (.ref cs.Broken) (.ref cs.TooShort) = some false
  p_Broken_Broken : PySem.W.subIn K (.ref cs.Broken) (.ref cs.Broken) = some true
  p_Broken_NoMate : PySem.W.subIn K (.ref cs.Broken) (.ref cs.NoMate) = some false
  p_Broken_NoText : PySem.W.subIn K (.ref cs.Broken) (.ref cs.NoText) = some false
  p_NoMate_GateError : PySem.W.subIn K (.ref cs.NoMate) (.ref cs.GateError) = some true
  p_NoMate_NoRow : PySem.W.subIn K (.ref cs.NoMate) (.ref cs.NoRow) = some false
  p_NoMate_NoSign : PySem.W.subIn K (.ref cs.NoMate) (.ref cs.NoSign) = some false
  p_NoMate_NoDivisor : PySem.W.subIn K (.ref cs.NoMate) (.ref cs.NoDivisor) = some false
  p_NoMate_NoCount : PySem.W.subIn K (.ref cs.NoMate) (.ref cs.NoCount) = some false
  p_NoMate_TooLong : PySem.W.subIn K (.ref cs.NoMate) (.ref cs.TooLong) = some false
  p_NoMate_TooShort : PySem.W.subIn K (.ref cs.NoMate) (.ref cs.TooShort) = some false
  p_NoMate_Broken : PySem.W.subIn K (.ref cs.NoMate) (.ref cs.Broken) = some false
  p_NoMate_NoMate : PySem.W.subIn K (.ref cs.NoMate) (.ref cs.NoMate) = some true
  p_NoMate_NoText : PySem.W.subIn K (.ref cs.NoMate) (.ref cs.NoText) = some false
  p_NoText_GateError : PySem.W.subIn K (.ref cs.NoText) (.ref cs.GateError) = some true
  p_NoText_NoRow : PySem.W.subIn K (.ref cs.NoText) (.ref cs.NoRow) = some false
  p_NoText_NoSign : PySem.W.subIn K (.ref cs.NoText) (.ref cs.NoSign) = some false
  p_NoText_NoDivisor : PySem.W.subIn K (.ref cs.NoText) (.ref cs.NoDivisor) = some false
  p_NoText_NoCount : PySem.W.subIn K (.ref cs.NoText) (.ref cs.NoCount) = some false
  p_NoText_TooLong : PySem.W.subIn K (.ref cs.NoText) (.ref cs.TooLong) = some false
  p_NoText_TooShort : PySem.W.subIn K (.ref cs.NoText) (.ref cs.TooShort) = some false
  p_NoText_Broken : PySem.W.subIn K (.ref cs.NoText) (.ref cs.Broken) = some false
  p_NoText_NoMate : PySem.W.subIn K (.ref cs.NoText) (.ref cs.NoMate) = some false
  p_NoText_NoText : PySem.W.subIn K (.ref cs.NoText) (.ref cs.NoText) = some true
  z_ValueError : mg "ValueError" = none
  z_bool : mg "bool" = none
  z_enumerate : mg "enumerate" = none
  z_int : mg "int" = none
  z_isinstance : mg "isinstance" = none
  z_len : mg "len" = none
  z_list : mg "list" = none
  z_max : mg "max" = none
  z_ord : mg "ord" = none
  z_range : mg "range" = none
  z_str : mg "str" = none
  z_tuple : mg "tuple" = none
  z_zip : mg "zip" = none
  g_FEWEST_SIGNS : ∃ t, mg "FEWEST_SIGNS" = some (.int 2 t)
  g_MOST_SIGNS : ∃ t, mg "MOST_SIGNS" = some (.int 13 t)
  g_MOST_NOUGHTS : ∃ t, mg "MOST_NOUGHTS" = some (.int 1000000000000000000 t)
  g_LETTERS : ∃ t, mg "LETTERS" = some (.str ((" !\"#$&'()*+,-./0123456789:;<=>?@ABCDEFGHIJKLMNOPQRSTUVWXYZ[\\]^_`abcdefghijklmnopqrstuvwxyz{|}~" : Str)) t)
  g_SIGNS_FOR_EACH : ∃ t, mg "SIGNS_FOR_EACH" = some (.int 7 t)
  d_is_sign : Raw K mg "is_sign" "is_sign" s_is_sign ["value"]
  d_need_row : Raw K mg "need_row" "need_row" s_need_row ["row"]
  d_need_divisor : Raw K mg "need_divisor" "need_divisor" s_need_divisor ["divisor"]
  d_lengthened : Raw K mg "lengthened" "lengthened" s_lengthened ["row", "length"]
  d_added : Raw K mg "added" "added" s_added ["one", "other"]
  d_times : Raw K mg "times" "times" s_times ["one", "other"]
  d_reduced : Raw K mg "reduced" "reduced" s_reduced ["row", "divisor"]
  d_parted : Raw K mg "parted" "parted" s_parted ["row", "divisor"]
  d_need_gate_divisor : Raw K mg "need_gate_divisor" "need_gate_divisor" s_need_gate_divisor ["divisor"]
  d_reach : Raw K mg "reach" "reach" s_reach ["divisor"]
  d_is_count : Raw K mg "is_count" "is_count" s_is_count ["value"]
  d_turned : Raw K mg "turned" "turned" s_turned ["row", "place"]
  i_Gate : RawI K cs.Gate "Gate.__init__" s_Gate___init__ ["self", "divisor"]
  m_Gate_rest : RawM K cs.Gate "rest" "Gate.rest" s_Gate_rest ["self", "row"]
  m_Gate_later : RawM K cs.Gate "later" "Gate.later" s_Gate_later ["self", "rest", "many"]
  m_Gate_check : RawM K cs.Gate "check" "Gate.check" s_Gate_check ["self", "row"]
  m_Gate_sealed : RawM K cs.Gate "sealed" "Gate.sealed" s_Gate_sealed ["self", "row"]
  m_Gate_holds : RawM K cs.Gate "holds" "Gate.holds" s_Gate_holds ["self", "row"]
  m_Gate_opened : RawM K cs.Gate "opened" "Gate.opened" s_Gate_opened ["self", "row"]
  m_Gate_mended : RawM K cs.Gate "mended" "Gate.mended" s_Gate_mended ["self", "row"]
  d_signs_of : Raw K mg "signs_of" "signs_of" s_signs_of ["letter"]
  d_letters_by_signs : Raw K mg "letters_by_signs" "letters_by_signs" s_letters_by_signs []
  d_row_of : Raw K mg "row_of" "row_of" s_row_of ["text"]
  d_text_of : Raw K mg "text_of" "text_of" s_text_of ["row"]
  i_Register : RawI K cs.Register "Register.__init__" s_Register___init__ ["self", "gate"]
  m_Register_put : RawM K cs.Register "put" "Register.put" s_Register_put ["self", "sign"]
  m_Register_joined : RawM K cs.Register "joined" "Register.joined" s_Register_joined ["self", "other"]
  m_Register_rest : RawM K cs.Register "rest" "Register.rest" s_Register_rest ["self"]
  m_Register_check : RawM K cs.Register "check" "Register.check" s_Register_check ["self"]
  d__law_cell_at : Raw K mg "_law_cell_at" "_law_cell_at" s__law_cell_at ["_law_script", "_law_k"]
  d__law_row_by : Raw K mg "_law_row_by" "_law_row_by" s__law_row_by ["_law_cell", "_law_size"]
  d__law_bad : Raw K mg "_law_bad" "_law_bad" s__law_bad ["_law_cell", "_law_row"]
  d__law_rows_called : Raw K mg "_law_rows_called" "_law_rows_called" s__law_rows_called ["_law_which", "_law_bad_here", "_law_row"]
  d__law_gate_called : Raw K mg "_law_gate_called" "_law_gate_called" s__law_gate_called ["_law_which", "_law_bad_here", "_law_gate"]
  d__law_else_called : Raw K mg "_law_else_called" "_law_else_called" s__law_else_called ["_law_which", "_law_row", "_law_gate"]
  d__law_words : Raw K mg "_law_words" "_law_words" s__law_words ["_law_which", "_law_bad_here", "_law_row", "_law_gate"]
/-! ## our own lines for straight expressions -/
local macro_rules | `(tactic| walk_at "cg ar") => `(tactic| first | decide | omega | exact ⟨by decide, by decide⟩ | exact Or.inr ⟨by decide, by decide⟩ | (show (0 : Int) < _; first | decide | omega) | assumption)
local macro_rules | `(tactic| walk_at "cg hp") => `(tactic| first | assumption | (refine' Ex.at (by assumption) ?_; walk_at "cg hp"))
local macro_rules | `(tactic| walk_at "cg sq") => `(tactic| first | assumption | exact sq_of (by walk_at "cg hp") | (refine' ex_l (by assumption) ?_; walk_at "cg sq"))
local macro_rules | `(tactic| walk_at "cg er") => `(tactic| first | ((with_reducible apply er_var); (exact rfl); (walk_at "cg hp")) | ((with_reducible apply er_L); walk_at "cg el"))
local macro_rules | `(tactic| walk_at "cg el") => `(tactic| first
  | with_reducible exact el_nilI
  | ((with_reducible apply el_oneI); walk_at "cg ev")
  | ((with_reducible apply el_catI); (walk_at "cg er"); (walk_at "cg er"); (walk_at "cg ar"))
  | ((with_reducible apply el_repI); (walk_at "cg ev"); (walk_at "cg ev"); (walk_at "cg ar"))
  | ((with_reducible apply el_slFromI); (walk_at "cg er"); (walk_at "cg ev"); (walk_at "cg ar"))
  | ((with_reducible apply el_slToI); (walk_at "cg er"); (walk_at "cg ev"); (walk_at "cg ar"))
  | ((with_reducible apply el_listR); walk_at "cg er"))
local macro_rules | `(tactic| walk_at "cg ev") => `(tactic| first
  | with_reducible exact ev_c
  | ((with_reducible apply ev_var); exact rfl)
  | ((with_reducible apply ev_i0); (walk_at "cg ev"); (walk_at "cg ev"))
  | ((with_reducible apply ev_mod); (walk_at "cg ev"); (walk_at "cg ev"); (walk_at "cg ar"))
  | ((with_reducible apply ev_cmp); (walk_at "cg ev"); (walk_at "cg ev"))
  | ((with_reducible apply ev_lenI); walk_at "cg er")
  | ((with_reducible apply ev_chain); (walk_at "cg ev"); (walk_at "cg ev"); (walk_at "cg ev"))
  | ((with_reducible apply ev_notV); walk_at "cg ev")
  | ((with_reducible apply ev_max2); (walk_at "cg ev"); (walk_at "cg ev"))
  | ((with_reducible apply ev_min2); (walk_at "cg ev"); (walk_at "cg ev"))
  | ((with_reducible apply ev_intB); walk_at "cg ev")
  | ((with_reducible apply ev_eqR); (walk_at "cg er"); (walk_at "cg er"))
  | ((with_reducible apply ev_neR); (walk_at "cg er"); (walk_at "cg er"))
  | ((with_reducible apply ev_isiR); (walk_at "cg er"); (exact kit_list_list))
  | ((with_reducible apply ev_isiF); (walk_at "cg ev"); (exact rfl); first | exact kit_int_int | exact kit_int_bool | exact kit_bool_bool | exact kit_bool_int | exact kit_str_str)
  | ((with_reducible apply ev_sumR); walk_at "cg er")
  | ((with_reducible apply ev_inR); (walk_at "cg ev"); (walk_at "cg er"))
  | ((with_reducible apply ev_niR); (walk_at "cg ev"); (walk_at "cg er")))
local macro_rules | `(tactic| walk_at "cg ea") => `(tactic| first | with_reducible exact ea_nil | ((with_reducible apply ea_cons); (walk_at "cg ev"); (walk_at "cg ea")))
local macro_rules | `(tactic| walk_at "cg et") => `(tactic| first
  | ((with_reducible apply et_B); walk_at "cg ev")
  | ((with_reducible apply et_not); walk_at "cg et")
  | ((with_reducible apply et_test); walk_at "cg ev"))


/-! ## signs -/
def Bits (ns : List Int) : Prop := ∀ x ∈ ns, x = 0 ∨ x = 1
theorem Bits.nil : Bits [] := fun _ h => nomatch h
theorem Bits.cons {x : Int} {r : List Int} (h : x = 0 ∨ x = 1) (hr : Bits r) : Bits (x :: r) := fun y hy => by
  cases hy with
  | head => exact h
  | tail _ k => exact hr y k
theorem Bits.append {xs ys : List Int} (h : Bits xs) (k : Bits ys) : Bits (xs ++ ys) := fun y hy => by
  rcases List.mem_append.mp hy with z | z
  · exact h y z
  · exact k y z
theorem Bits.one {x : Int} (h : x = 0 ∨ x = 1) : Bits [x] := Bits.cons h .nil
theorem Bits.rep {x : Int} (n : Nat) (h : x = 0 ∨ x = 1) : Bits (List.replicate n x) := fun y hy => by
  rw [(List.mem_replicate.mp hy).2]
  exact h
theorem Bits.take {xs : List Int} (h : Bits xs) (n : Nat) : Bits (xs.take n) := fun y hy => h y (List.mem_of_mem_take hy)
theorem Bits.drop {xs : List Int} (h : Bits xs) (n : Nat) : Bits (xs.drop n) := fun y hy => h y (List.mem_of_mem_drop hy)
theorem bit_mod (i : Int) : i % 2 = 0 ∨ i % 2 = 1 := by omega
theorem Bits.get {xs : List Int} (h : Bits xs) {i : Nat} {x : Int} (e : xs[i]? = some x) : x = 0 ∨ x = 1 := h x (List.mem_of_getElem? e)


/-! ## sums of signs -/
def longer (xs : List Int) (n : Nat) : List Int := List.replicate (n - xs.length) 0 ++ xs
theorem longer_len {xs : List Int} {n : Nat} (h : xs.length ≤ n) : (longer xs n).length = n := by
  unfold longer
  rw [List.length_append, List.length_replicate]
  omega
theorem longer_bits {xs : List Int} (h : Bits xs) (n : Nat) : Bits (longer xs n) := (Bits.rep _ (.inl rfl)).append h
def xorR (xs ys : List Int) : List Int := List.zipWith (fun a b => Builtin.bitXor a b) xs ys
theorem xor_bit {a b : Int} (ha : a = 0 ∨ a = 1) (hb : b = 0 ∨ b = 1) : Builtin.bitXor a b = (a + b) % 2 := by
  rcases ha with rfl | rfl <;> rcases hb with rfl | rfl <;> decide +kernel
theorem xorR_bits : ∀ {xs ys : List Int}, Bits xs → Bits ys → Bits (xorR xs ys)
  | [], _, _, _ => by intro x hx; cases hx
  | _ :: _, [], _, _ => by intro x hx; cases hx
  | x :: xs, y :: ys, hx, hy => by
    have h1 := hx x List.mem_cons_self
    have h2 := hy y List.mem_cons_self
    refine Bits.cons ?_ (xorR_bits (fun z k => hx z (List.mem_cons_of_mem _ k)) fun z k => hy z (List.mem_cons_of_mem _ k))
    show Builtin.bitXor x y = 0 ∨ Builtin.bitXor x y = 1
    rw [xor_bit h1 h2]
    exact bit_mod _
theorem at_nat {xs : List Int} {i : Int} {j : Nat} {n : Int} (e : i = (j : Int)) (h : xs[j]? = some n) : atI xs i = some n := by
  rw [e]
  exact atI_nat h
theorem max_cast (a b : Nat) : (if (b : Int) > (a : Int) then (b : Int) else (a : Int)) = ((max a b : Nat) : Int) := by
  split <;> omega


theorem el_lcXor {K : PySem.W.Frag} {ta tb : TE} {σ : L2.St} {H : Hp} {i j : Nat} {vs : List Nat} {te : TE} {xs ys : List Int} (ha : EvR ta σ H (iv xs)) (hb : EvR tb σ H (iv ys)) (hz : xs.length ≤ 1000000) (hw : ∀ x y, wipe (((wipe σ vs).set i (some x)).set j (some y)) vs = wipe σ vs)
    (he : ∀ (x y : Int) H1, Ev te (((wipe σ vs).set i (some (.int x))).set j (some (.int y))) H1 (.int (Builtin.bitXor x y))) :
    EvL (tLc (iZip K (tCons ta (tCons tb tNil))) (gTup K 2 (gCons (gName i) (gCons (gName j) gNil))) tYes te vs) σ H (iv (xorR xs ys)) := by
  refine el_is (el_lcZip (fun x y => match x, y with | .int a, .int b => .int (Builtin.bitXor a b) | _, _ => .non) ha hb (by rw [iv_len]; exact hz) hw (fun k x y H1 e hx hy => ?_)) ?_
  · obtain ⟨n, _, rfl⟩ := iv_at hx
    obtain ⟨m, _, rfl⟩ := iv_at hy
    exact he n m H1
  · unfold xorR iv
    rw [List.zipWith_map, List.map_zipWith]


/-! ## products: the sums of a power -/
def tab (N : Nat) (f : Nat → Int) : List Int := (List.range N).map f
theorem tab_len (N : Nat) (f : Nat → Int) : (tab N f).length = N := by
  unfold tab
  rw [List.length_map, List.length_range]
theorem tab_get {N : Nat} {f : Nat → Int} {t : Nat} (h : t < N) : (tab N f)[t]? = some (f t) := by
  unfold tab
  rw [List.getElem?_map, List.getElem?_range h]
  rfl
theorem tab_no {N : Nat} {f : Nat → Int} {t : Nat} (h : ¬ t < N) : (tab N f)[t]? = none := List.getElem?_eq_none (by rw [tab_len]; omega)
theorem tab_ext {N : Nat} {f g : Nat → Int} (h : ∀ t, t < N → f t = g t) : tab N f = tab N g := by
  apply List.ext_getElem?
  intro t
  by_cases ht : t < N
  · rw [tab_get ht, tab_get ht, h t ht]
  · rw [tab_no ht, tab_no ht]
theorem tab_set {N : Nat} {f g : Nat → Int} {k : Nat} {v : Int} (h1 : g k = v) (h2 : ∀ t, t ≠ k → g t = f t) : (tab N f).set k v = tab N g := by
  apply List.ext_getElem?
  intro t
  rw [List.getElem?_set, tab_len]
  by_cases hk : k = t
  · subst hk
    rw [if_pos rfl]
    by_cases ht : k < N
    · rw [if_pos ht, tab_get ht, h1]
    · rw [if_neg ht, tab_no ht]
  · rw [if_neg hk]
    by_cases ht : t < N
    · rw [tab_get ht, tab_get ht, h2 t (fun e => hk e.symm)]
    · rw [tab_no ht, tab_no ht]
theorem tab_zero (N : Nat) : List.replicate N (0 : Int) = tab N fun _ => 0 := by
  unfold tab
  induction N with
  | zero => rfl
  | succ n ih => rw [List.replicate_succ', List.range_succ, List.map_append, ih]; rfl
theorem tab_bits {N : Nat} {f : Nat → Int} (h : ∀ t, t < N → f t = 0 ∨ f t = 1) : Bits (tab N f) := fun x hx => by
  obtain ⟨t, ht, rfl⟩ := List.mem_map.mp hx
  exact h t (List.mem_range.mp ht)
theorem tab_of (xs : List Int) : xs = tab xs.length (fun t => xs.getD t 0) := by
  apply List.ext_getElem?
  intro t
  by_cases ht : t < xs.length
  · rw [tab_get ht, List.getD_eq_getElem?_getD, List.getElem?_eq_getElem ht]
    rfl
  · rw [tab_no ht, List.getElem?_eq_none (by omega)]
/-- the k-th sign of the first row times that of the second, where their places make t -/
def tm (xs ys : List Int) (t k : Nat) : Int := if k ≤ t ∧ t - k < ys.length then xs.getD k 0 * ys.getD (t - k) 0 else 0
def sm (xs ys : List Int) (t : Nat) : Nat → Int
  | 0 => 0
  | n + 1 => sm xs ys t n + tm xs ys t n
theorem bit_getD {xs : List Int} (h : Bits xs) (k : Nat) : xs.getD k 0 = 0 ∨ xs.getD k 0 = 1 := by
  rw [List.getD_eq_getElem?_getD]
  cases e : xs[k]? with
  | none => exact .inl rfl
  | some x => exact h.get e
theorem and_bit {a b : Int} (ha : a = 0 ∨ a = 1) (hb : b = 0 ∨ b = 1) : Builtin.bitAnd a b = a * b := by
  rcases ha with rfl | rfl <;> rcases hb with rfl | rfl <;> decide +kernel
theorem mul_bit {a b : Int} (ha : a = 0 ∨ a = 1) (hb : b = 0 ∨ b = 1) : a * b = 0 ∨ a * b = 1 := by
  rcases ha with rfl | rfl <;> rcases hb with rfl | rfl <;> decide
def prodR (xs ys : List Int) : List Int := if xs.length = 0 ∨ ys.length = 0 then [] else tab (xs.length + ys.length - 1) fun t => sm xs ys t xs.length % 2
theorem prodR_bits (xs ys : List Int) : Bits (prodR xs ys) := by
  unfold prodR
  split
  · exact .nil
  · exact tab_bits fun t _ => bit_mod _


section
variable {P : Program} {w : World} {K : PySem.W.Frag} {mg : Str → Option Value} {base : Heap} {cs : Cs}
/-! ## _law_cell_at -/
def cellV (ns : List Int) (k : Int) : Int := ns.getD k.toNat 0
def sp__law_cell_at (K : PySem.W.Frag) : Sp := fun vs H Q _ => ∃ (a : Addr) (ns : List Int) (k : Int), vs = [.ref a, .int k] ∧ SqL K H a (iv ns) ∧ 0 ≤ k ∧ RetV (.int (cellV ns k)) H Q
theorem has__law_cell_at (T : Txt K mg cs) : Has P w K mg base 1 "_law_cell_at" ["_law_script", "_law_k"] (sp__law_cell_at K) := by
  refine T.d__law_cell_at.ok sc__law_cell_at (fun vs H Q E h => ?_) (fun f cdv A outer s H vs Q E hr h => ?_)
  · obtain ⟨a, ns, k, rfl, _⟩ := h
    rfl
  · obtain ⟨a, ns, k, rfl, hS, h0, q⟩ := h
    refine ⟨_, (pss_cons (ps_if (pt_cmpR op_lt (pv 1) (pe_callB (kk_len K) (by rfl) T.z_len b_len (pa_cons (pv 0) pa_nil)) (nomark _)) (pss_one (ps_ret (pe_ix (kk_ixl K) (pv 0) (pv 1) (fun _ _ => rfl)))) pss_nil)
      (pss_one (ps_ret pe_int))), ?_⟩
    refine q_when (et_test (ev_i0 (ev_var rfl) (ev_len (ev_var rfl) hS))) (fun hb H1 e1 => ?_) (fun hb H1 e1 => ?_)
    · have hk : k.toNat < ns.length := by
        have z := of_decide_eq_true hb
        rw [iv_len] at z
        omega
      have hx : atI (iv ns) k = some (.int (cellV ns k)) := by
        rw [show k = ((k.toNat : Nat) : Int) by omega]
        refine atI_nat (iv_get ?_)
        unfold cellV
        rw [Int.toNat_natCast, List.getD_eq_getElem?_getD, List.getElem?_eq_getElem hk]
        rfl
      exact s_ret (ev_op (ev_var rfl) (ev_var rfl) (rv_ixL (ex_l e1 hS) hx)) fun H2 e2 => q H2 (e1.trans e2)
    · have hk : ns.length ≤ k.toNat := by
        have z := of_decide_eq_false hb
        rw [iv_len] at z
        omega
      have hx : cellV ns k = 0 := by
        unfold cellV
        rw [List.getD_eq_getElem?_getD, List.getElem?_eq_none hk]
        rfl
      rw [hx] at q
      exact s_ret ev_c fun H2 e2 => q H2 (e1.trans e2)
theorem ev_cell {E : XK} {ta tb : TE} {σ : L2.St} {H : Hp} {a : Addr} {ns : List Int} {k : Int} (ha : Ev ta σ H (.ref a)) (hb : Ev tb σ H (.int k)) (hS : SqL K H a (iv ns)) (h0 : 0 ≤ k) :
    Ev (tCall (sp__law_cell_at K) [] E (tCons ta (tCons tb tNil))) σ H (.int (cellV ns k)) := ev_call (ea_two ha hb) fun H1 e Q q _ => ⟨a, ns, k, rfl, ex_l e hS, h0, q⟩
local macro_rules | `(tactic| walk_at "cg ev") => `(tactic| ((with_reducible apply ev_cell); (exact ev_var rfl); (walk_at "cg ev"); (walk_at "cg sq"); (walk_at "cg ar")))


/-! ## _law_row_by: some row of that many signs -/
def sp__law_row_by : Sp := fun vs H Q _ => ∃ (c n : Int), vs = [.int c, .int n] ∧ 0 ≤ n ∧ n ≤ 100000 ∧ ∀ ks, Bits ks → (ks.length : Int) = n → RetL (iv ks) H Q
theorem has__law_row_by (T : Txt K mg cs) : Has P w K mg base 1 "_law_row_by" ["_law_cell", "_law_size"] sp__law_row_by := by
  refine T.d__law_row_by.ok sc__law_row_by (fun vs H Q E h => ?_) (fun f cdv A outer s H vs Q E hr h => ?_)
  · obtain ⟨a, n, rfl, _⟩ := h
    rfl
  · obtain ⟨c, n, rfl, h0, hn, q⟩ := h
    refine ⟨_, (pss_cons (ps_set (i := 2) sc__law_row_by.nd rfl (Or.inl rfl) (pe_lst pa_nil))
      (pss_cons (ps_set (i := 3) sc__law_row_by.nd rfl (Or.inl rfl) (pe_op op_mod (pe_op op_fdiv (pv 0) pe_int) pe_int))
      (pss_cons (ps_for (passes_of rfl) rfl (pi_range1 (by rfl) T.z_range (pa_cons (pv 1) pa_nil)) (pg_name (i := 4) sc__law_row_by.nd rfl (Or.inl rfl)) (pss_cons (ps_set (i := 3) sc__law_row_by.nd rfl (Or.inl rfl) (pe_op op_mod (pe_op op_add (pe_op op_mul (pv 3) pe_int) pe_int) pe_int))
      (pss_one (ps_expr (pe_bm PySem.F.plainAttrs_list PySem.F.slot_list_append PySem.F.type_list_append mt_append (pv 2) (pa_cons (pe_op op_mod (pe_op op_fdiv (pv 3) pe_int) pe_int) pa_nil))))))
      (pss_cut (ps_if (pt_cmpR op_eqII (pe_op op_mod (pv 0) pe_int) pe_int (nomark _)) (pss_one (ps_set (i := 2) sc__law_row_by.nd rfl (Or.inl rfl) (pe_op op_rep (pe_lst (pa_cons pe_int pa_nil)) (pv 1)))) pss_nil)
      (pss_cut (ps_if (pt_cmpR op_eqII (pe_op op_mod (pv 0) pe_int) pe_int (nomark _)) (pss_one (ps_setLc (i := 2) (own := [("_law_k", 4)]) (g := gName 4) (tt := tYes) rfl sc__law_row_by.nd rfl rfl (sw_true rfl rfl rfl (by decide +kernel)) (pi_range1 (by rfl) T.z_range (pa_cons (pv 1) pa_nil)) (blkOk_by (own := [("_law_k", 4)]) (N := N__law_row_by) (sc := defScope s__law_row_by) (by decide +kernel)) (fun _ _ _ _ _ => pg_name (i := 4) sc__law_row_by.nd rfl (Or.inl rfl)) (fun _ _ _ _ _ => pts_nil) (fun _ _ _ _ _ => (pe_callTy kk_int (by rfl) T.z_int b_int (pa_cons (pe_cmpR op_eqII (pv 4) (pe_op op_mod (pe_op op_fdiv (pv 0) pe_int) (pv 1)) (nomark _)) pa_nil))))) pss_nil)
      (pss_cut (ps_if (pt_cmpR op_eqII (pe_op op_mod (pv 0) pe_int) pe_int (nomark _)) (pss_one (ps_set (i := 2) sc__law_row_by.nd rfl (Or.inl rfl) (pe_op op_rep (pe_lst (pa_cons pe_int pa_nil)) (pv 1)))) pss_nil)
      (pss_one (ps_ret (pv 2))))))))), ?_⟩
    refine q_asgL (by exact el_nilI) fun p H1 hp e1 h1 => ?_
    refine q_asg (by walk_at "cg ev") fun H2 e2 => ?_
    refine q_forR1 (by walk_at "cg ea") ⟨h0, hn⟩ (fun i σ' H' => ∃ (st : Int) (ks : List Int) (v : Option V), σ' = [some (.int c), some (.int n), some (.ref p), some (.int st), v] ∧ Bits ks ∧ ks.length = i ∧ Ex H H' ∧ H' p = some (.lst (iv ks))) ?_ ?_ ?_
    · exact fun H3 e3 => ⟨_, [], none, rfl, .nil, rfl, (e1.trans e2).trans e3, e3 _ _ (e2 _ _ h1)⟩
    · rintro i σ' H' hi ⟨st, ks, v, rfl, hk, hl, e, hp'⟩
      refine q_asg (by walk_at "cg ev") fun H3 e3 => ?_
      refine s_appI hp (e.trans e3) (e3 _ _ hp') (ev_var rfl) (by walk_at "cg ev") (by omega) fun H4 e4 _ h4 => ?_
      exact ⟨_, _, _, rfl, hk.append (.one (bit_mod _)), by rw [List.length_append, hl]; rfl, e4, h4⟩
    · rintro σ' H' ⟨st, ks, v, rfl, hk, hl, e, hp'⟩
      have M0 : ∃ (p' : Addr) (ks : List Int), [some (V.int c), some (.int n), some (.ref p), some (.int st), v] = [some (V.int c), some (.int n), some (.ref p'), some (.int st), v] ∧ Bits ks ∧ (ks.length : Int) = n ∧ Ex H H' ∧ H p' = none ∧ H' p' = some (.lst (iv ks)) := ⟨p, ks, rfl, hk, by omega, e, hp, hp'⟩
      clear hp' e hk hl hp h1 e1 e2
      have hrep : ∀ (x : Int) (p' : Addr), ((List.replicate n.toNat x).length : Int) = n := fun x _ => by rw [List.length_replicate]; omega
      refine q_cut (M := fun σ' H' => ∃ (p' : Addr) (ks : List Int), σ' = [some (V.int c), some (.int n), some (.ref p'), some (.int st), v] ∧ Bits ks ∧ (ks.length : Int) = n ∧ Ex H H' ∧ H p' = none ∧ H' p' = some (.lst (iv ks))) ?_ ?_
      · refine s_when (by walk_at "cg et") (fun _ H3 e3 => ?_) (fun _ H3 e3 => ?_)
        · obtain ⟨p', ks, _, _, _, e, _, _⟩ := M0
          exact s_asgL (by walk_at "cg el") fun p2 H4 n4 e4 h4 => ⟨p2, _, rfl, Bits.rep _ (.inl rfl), hrep 0 p2, (e.trans e3).trans e4, fresh_back (e.trans e3) n4, h4⟩
        · obtain ⟨p', ks, es, a1, a2, e, a3, a4⟩ := M0
          exact ⟨p', ks, es, a1, a2, e.trans e3, a3, e3 _ _ a4⟩
      clear M0
      rintro σ' H' ⟨p0, ks0, rfl, M0⟩
      refine q_cut (M := fun σ' H' => ∃ (p' : Addr) (ks : List Int), σ' = [some (V.int c), some (.int n), some (.ref p'), some (.int st), v] ∧ Bits ks ∧ (ks.length : Int) = n ∧ Ex H H' ∧ H p' = none ∧ H' p' = some (.lst (iv ks))) ?_ ?_
      · refine s_when (by walk_at "cg et") (fun _ H3 e3 => ?_) (fun _ H3 e3 => ?_)
        · obtain ⟨_, _, e, _, _⟩ := M0
          refine s_asgL (el_lcRg (fun i => .int (if decide ((i : Int) = c / 8 % n) then 1 else 0)) (by walk_at "cg ea") ⟨h0, by omega⟩ (fun _ => rfl) (fun i H4 e4 hi => by walk_at "cg ev")) fun p2 H4 n4 e4 h4 =>
            ⟨p2, (List.range n.toNat).map (fun (i : Nat) => if decide ((i : Int) = c / 8 % n) then (1 : Int) else 0), rfl, fun x hx => ?_, by rw [List.length_map, List.length_range]; omega, (e.trans e3).trans e4, fresh_back (e.trans e3) n4, ?_⟩
          · obtain ⟨i, _, rfl⟩ := List.mem_map.mp hx
            split
            · exact .inr rfl
            · exact .inl rfl
          · rw [h4]
            unfold iv
            rw [List.map_map]
            rfl
        · exact ⟨p0, ks0, rfl, M0.1, M0.2.1, M0.2.2.1.trans e3, M0.2.2.2.1, e3 _ _ M0.2.2.2.2⟩
      clear M0
      rintro σ' H' ⟨p0, ks0, rfl, M0⟩
      refine q_cut (M := fun σ' H' => ∃ (p' : Addr) (ks : List Int), σ' = [some (V.int c), some (.int n), some (.ref p'), some (.int st), v] ∧ Bits ks ∧ (ks.length : Int) = n ∧ Ex H H' ∧ H p' = none ∧ H' p' = some (.lst (iv ks))) ?_ ?_
      · refine s_when (by walk_at "cg et") (fun _ H3 e3 => ?_) (fun _ H3 e3 => ?_)
        · obtain ⟨_, _, e, _, _⟩ := M0
          exact s_asgL (by walk_at "cg el") fun p2 H4 n4 e4 h4 => ⟨p2, _, rfl, Bits.rep _ (.inr rfl), hrep 1 p2, (e.trans e3).trans e4, fresh_back (e.trans e3) n4, h4⟩
        · exact ⟨p0, ks0, rfl, M0.1, M0.2.1, M0.2.2.1.trans e3, M0.2.2.2.1, e3 _ _ M0.2.2.2.2⟩
      rintro σ' H' ⟨p0, ks0, rfl, hk, hl, e, hp, h⟩
      exact s_ret (ev_var rfl) fun H3 e3 => q ks0 hk hl p0 H3 hp (e.trans e3) (e3 _ _ h)


/-! ## is_sign, need_row: of what is one, and of what is none -/
def sp_is_sign (K : PySem.W.Frag) : Sp := fun vs H Q _ => ∃ (v : V) (b : Bool), vs = [v] ∧ ((b = true ∧ ∃ n : Int, v = .int n ∧ (n = 0 ∨ n = 1)) ∨ (b = false ∧ NotSign K H v)) ∧ RetV (.bl b) H Q
theorem has_is_sign (T : Txt K mg cs) : Has P w K mg base 1 "is_sign" ["value"] (sp_is_sign K) := by
  refine T.d_is_sign.ok sc_is_sign (fun vs H Q E h => ?_) (fun f cdv A outer s H vs Q E hr h => ?_)
  · obtain ⟨v, b, rfl, _⟩ := h
    rfl
  · obtain ⟨v, b, rfl, hv, q⟩ := h
    refine ⟨_, (pss_one (ps_ret (pe_and (pe_callB (kk_isi K) (by rfl) T.z_isinstance b_isinstance (pa_cons (pv 0) (pa_cons (pe_bltn (v := .ty "int") (u := .type "int") (by rfl) T.z_int b_int rfl) pa_nil))) (pe_and (pe_not (pe_callB (kk_isi K) (by rfl) T.z_isinstance b_isinstance (pa_cons (pv 0) (pa_cons (pe_bltn (v := .ty "bool") (u := .type "bool") (by rfl) T.z_bool b_bool rfl) pa_nil)))) (pe_one (pe_cmpR (kk_in K) (pv 0) (pe_tup (pa_cons pe_int (pa_cons pe_int pa_nil))) rfl)))))), ?_⟩
    have num : ∀ i : Int, Ev (tAndV (tCB (rIsi K) (tCons (tVar 0) (tCons (tC (.ty "int")) tNil))) (tAndV (tNotV (tCB (rIsi K) (tCons (tVar 0) (tCons (tC (.ty "bool")) tNil)))) (tOp (rIn K false) (tVar 0) (tTup (tCons (tC (.int 0)) (tCons (tC (.int 1)) tNil)))))) [some (.int i)] H (.bl (true && (!false && inV (.int i) [.int 0, .int 1]))) := fun i =>
      ev_andV (ev_isiF (ev_var rfl) rfl kit_int_int) (fun _ => ev_andV (ev_notV (ev_isiF (ev_var rfl) rfl kit_int_bool)) (fun _ => ev_one (ev_inU (ev_var rfl) (eu_tup (ea_two ev_c ev_c) (by decide)) rfl rfl)))
    have inv : ∀ i : Int, (true && (!false && inV (.int i) [.int 0, .int 1])) = decide (i = 0 ∨ i = 1) := fun i => by
      have z := inV_iv i [0, 1]
      show inV (.int i) (iv [0, 1]) = _
      rw [z]
      congr 1
      simp
    rcases hv with ⟨rfl, n, rfl, hn⟩ | ⟨rfl, ⟨i, rfl, h0, h1⟩ | ⟨k, rfl⟩ | ⟨t, kt, ty⟩⟩
    · exact s_ret (ev_is (num n) (congrArg V.bl (by rw [inv]; simp [hn]))) q
    · exact s_ret (ev_is (num i) (congrArg V.bl (by rw [inv]; simp [h0, h1]))) q
    · exact s_ret (ev_is (ev_andV (a := true) (ev_isiF (ev_var rfl) rfl kit_bool_int) (fun _ => ev_andV (a := false) (b := false) (ev_notV (ev_isiF (ev_var rfl) rfl kit_bool_bool)) (fun h => nomatch h))) rfl) q
    · exact s_ret (ev_is (ev_andV (a := false) (b := false) (ev_isi (ev_var rfl) (ty H (.refl H)) ty (kit_ty kt)) (fun h => nomatch h)) rfl) q
def sp_need_row (K : PySem.W.Frag) (cs : Cs) : Sp := fun vs H Q E => (∃ (a : Addr) (ns : List Int), vs = [.ref a] ∧ H a = some (.lst (iv ns)) ∧ Bits ns ∧ RetV .non H Q) ∨ ∃ v, vs = [v] ∧ BadR K H v ∧ ∀ H', Ex H H' → E (.ref cs.NoRow) none H'
theorem has_need_row (T : Txt K mg cs) : Has P w K mg base 2 "need_row" ["row"] (sp_need_row K cs) := by
  refine T.d_need_row.ok sc_need_row (fun vs H Q E h => ?_) (fun f cdv A outer s H vs Q E hr h => ?_)
  · rcases h with ⟨a, ns, rfl, _⟩ | ⟨v, rfl, _⟩ <;> rfl
  · rcases h with ⟨a, ns, rfl, ha, hb, q⟩ | ⟨v, rfl, ⟨t, kt, ty⟩ | ⟨a, pre, x, post, rfl, ha, bp, nx⟩, q⟩
    · refine ⟨_, (pss_cons (ps_if (pt_not (pt_val (pe_callB (kk_isi K) (by rfl) T.z_isinstance b_isinstance (pa_cons (pv 0) (pa_cons (pe_bltn (v := .ty "list") (u := .type "list") (by rfl) T.z_list b_list rfl) pa_nil))))) (pss_one (ps_raise rfl (takes_of rfl rfl rfl rfl) (pmk_own PySem.F.excBase_ValueError T.e_NoRow.x T.e_NoRow.g T.e_NoRow.k T.e_NoRow.r (by exact rfl)))) pss_nil)
      (pss_one (ps_for (passes_of rfl) rfl (pi_list (pv 0)) (pg_name (i := 1) sc_need_row.nd rfl (Or.inl rfl)) (pss_one (ps_if (pt_not (pt_val (pe_callH (has_is_sign T) (hr.mono (by decide)) (passes_call (takes_of rfl rfl rfl rfl) (fun _ _ _ _ h => h)) (pa_cons (pv 1) pa_nil)))) (pss_one (ps_raise rfl (takes_of rfl rfl rfl rfl) (pmk_own PySem.F.excBase_ValueError T.e_NoRow.x T.e_NoRow.g T.e_NoRow.k T.e_NoRow.r (by exact rfl)))) pss_nil))))), ?_⟩
      refine q_when (by walk_at "cg et") (fun hb H1 e1 => by simp at hb) (fun _ H1 e1 => ?_)
      refine s_forLn (ev_var rfl) (by walk_at "cg sq") (fun i σ' H' => Ex H H' ∧ ∃ v, σ' = [some (.ref a), v]) (fun H2 e2 => ⟨e1.trans e2, none, rfl⟩) (fun i σ' H' _ h => sq_of (h.1 _ _ ha)) (fun i x σ' H' hx h => ?_) (fun σ' H' h => q _ h.1)
      obtain ⟨e, v, rfl⟩ := h
      obtain ⟨n, hn, rfl⟩ := iv_at hx
      exact s_when (b := false) (et_is (et_not (et_B (ev_call (vs := [.int n]) (by walk_at "cg ea") fun H1 e1 Q q _ => ⟨_, true, rfl, .inl ⟨rfl, n, rfl, hb.get hn⟩, q⟩))) rfl) (fun h => nomatch h) (fun _ H2 e2 => ⟨e.trans e2, _, rfl⟩)
    · refine ⟨_, (pss_cons (ps_if (pt_not (pt_val (pe_callB (kk_isi K) (by rfl) T.z_isinstance b_isinstance (pa_cons (pv 0) (pa_cons (pe_bltn (v := .ty "list") (u := .type "list") (by rfl) T.z_list b_list rfl) pa_nil))))) (pss_one (ps_raise rfl (takes_of rfl rfl rfl rfl) (pmk_own PySem.F.excBase_ValueError T.e_NoRow.x T.e_NoRow.g T.e_NoRow.k T.e_NoRow.r (by exact rfl)))) pss_nil)
      (pss_one (ps_for (passes_of rfl) rfl (pi_list (pv 0)) (pg_name (i := 1) sc_need_row.nd rfl (Or.inl rfl)) (pss_one (ps_if (pt_not (pt_val (pe_callH (has_is_sign T) (hr.mono (by decide)) (passes_call (takes_of rfl rfl rfl rfl) (fun _ _ _ _ h => h)) (pa_cons (pv 1) pa_nil)))) (pss_one (ps_raise rfl (takes_of rfl rfl rfl rfl) (pmk_own PySem.F.excBase_ValueError T.e_NoRow.x T.e_NoRow.g T.e_NoRow.k T.e_NoRow.r (by exact rfl)))) pss_nil))))), ?_⟩
      exact q_when (b := true) (et_is (et_not (et_B (ev_isi (ev_var rfl) (ty H (.refl H)) ty (kit_ty kt)))) rfl) (fun _ H1 e1 => q H1 e1) (fun h => nomatch h)
    · refine ⟨_, (pss_cons (ps_if (pt_not (pt_val (pe_callB (kk_isi K) (by rfl) T.z_isinstance b_isinstance (pa_cons (pv 0) (pa_cons (pe_bltn (v := .ty "list") (u := .type "list") (by rfl) T.z_list b_list rfl) pa_nil))))) (pss_one (ps_raise rfl (takes_of rfl rfl rfl rfl) (pmk_own PySem.F.excBase_ValueError T.e_NoRow.x T.e_NoRow.g T.e_NoRow.k T.e_NoRow.r (by exact rfl)))) pss_nil)
      (pss_one (ps_for (passes_of rfl) rfl (pi_list (pv 0)) (pg_name (i := 1) sc_need_row.nd rfl (Or.inl rfl)) (pss_one (ps_if (pt_not (pt_val (pe_callH (has_is_sign T) (hr.mono (by decide)) (passes_call (takes_of rfl rfl rfl rfl) (fun _ _ _ _ h => h)) (pa_cons (pv 1) pa_nil)))) (pss_one (ps_raise rfl (takes_of rfl rfl rfl rfl) (pmk_own PySem.F.excBase_ValueError T.e_NoRow.x T.e_NoRow.g T.e_NoRow.k T.e_NoRow.r (by exact rfl)))) pss_nil))))), ?_⟩
      refine q_when (b := false) (et_is (et_not (et_B (ev_isiR (er_var rfl ha) kit_list_list))) rfl) (fun h => nomatch h) (fun _ H1 e1 => ?_)
      refine s_forLn (xs := iv pre ++ x :: post) (ev_var rfl) (sq_of (e1 _ _ ha)) (fun i σ' H' => Ex H H' ∧ i ≤ pre.length ∧ ∃ v, σ' = [some (.ref a), v]) (fun H2 e2 => ⟨e1.trans e2, Nat.zero_le _, none, rfl⟩) (fun i σ' H' _ h => sq_of (h.1 _ _ ha)) (fun i y σ' H' hy h => ?_) (fun σ' H' h => ?_)
      · obtain ⟨e, hi, v, rfl⟩ := h
        by_cases c : i < pre.length
        · rw [List.getElem?_append_left (by rw [iv_len]; exact c)] at hy
          obtain ⟨n, hn, rfl⟩ := iv_at hy
          exact s_when (b := false) (et_is (et_not (et_B (ev_call (vs := [.int n]) (by walk_at "cg ea") fun H1 e1 Q q _ => ⟨_, true, rfl, .inl ⟨rfl, n, rfl, bp n (List.mem_of_getElem? hn)⟩, q⟩))) rfl) (fun h => nomatch h) (fun _ H2 e2 => ⟨e.trans e2, c, _, rfl⟩)
        · rw [List.getElem?_append_right (by rw [iv_len]; omega), iv_len, show i - pre.length = 0 by omega] at hy
          have ey : x = y := Option.some.inj hy
          subst ey
          exact s_when (b := true) (et_is (et_not (et_B (ev_call (vs := [x]) (by walk_at "cg ea") fun H1 e1 Q q _ => ⟨_, false, rfl, .inr ⟨rfl, (nx.mono e).mono e1⟩, q⟩))) rfl) (fun _ H2 e2 => q H2 (e.trans e2)) (fun h => nomatch h)
      · obtain ⟨_, hi, _⟩ := h
        rw [List.length_append, iv_len, List.length_cons] at hi
        omega


/-! ## one step of the rest -/
def redR (xs ds : List Int) : List Int := if xs.headD 0 = 0 then xs.tail else xorR xs.tail ds.tail
theorem redR_len {xs ds : List Int} (h : xs.length = ds.length) : (redR xs ds).length = xs.length - 1 := by
  unfold redR
  split
  · exact List.length_tail
  · unfold xorR
    rw [List.length_zipWith, List.length_tail, List.length_tail, h]
    exact Nat.min_self _
theorem Bits.tail {xs : List Int} (h : Bits xs) : Bits xs.tail := fun x hx => h x (List.mem_of_mem_tail hx)
theorem redR_bits {xs ds : List Int} (h : Bits xs) (k : Bits ds) : Bits (redR xs ds) := by
  unfold redR
  split
  · exact h.tail
  · exact xorR_bits h.tail k.tail
theorem head_at {xs : List Int} (h : 0 < xs.length) : xs[0]? = some (xs.headD 0) := by
  cases xs with
  | nil => exact absurd h (Nat.lt_irrefl _)
  | cons x r => rfl
def sp_reduced : Sp := fun vs H Q _ => ∃ (a b : Addr) (xs ds : List Int), vs = [.ref a, .ref b] ∧ H a = some (.lst (iv xs)) ∧ H b = some (.lst (iv ds)) ∧ Bits xs ∧ Bits ds ∧ xs.length = ds.length ∧ 0 < xs.length ∧ xs.length ≤ 10000 ∧ RetL (iv (redR xs ds)) H Q
theorem has_reduced (T : Txt K mg cs) : Has P w K mg base 1 "reduced" ["row", "divisor"] sp_reduced := by
  refine T.d_reduced.ok sc_reduced (fun vs H Q E h => ?_) (fun f cdv A outer s H vs Q E hr h => ?_)
  · obtain ⟨a, b, xs, ds, rfl, _⟩ := h
    rfl
  · obtain ⟨a, b, xs, ds, rfl, ha, hb, bx, bd, hl, h0, hz, q⟩ := h
    refine ⟨_, (pss_cons (ps_if (pt_cmpR op_eqII (pe_ix (kk_ixl K) (pv 0) pe_int (fun _ _ => rfl)) pe_int (nomark _)) (pss_one (ps_ret (pe_slice (kk_sl K) (pv 0) (po_some pe_int) po_none))) pss_nil)
      (pss_one (ps_ret (pe_lc (own := [("a", 2), ("b", 3)]) (g := gTup K 2 (gCons (gName 2) (gCons (gName 3) gNil))) (tt := tYes) rfl sc_reduced.nd (pi_zip (by rfl) T.z_zip (pa_cons (pe_slice (kk_sl K) (pv 0) (po_some pe_int) po_none) (pa_cons (pe_slice (kk_sl K) (pv 1) (po_some pe_int) po_none) pa_nil))) (blkOk_by (own := [("a", 2), ("b", 3)]) (N := N_reduced) (sc := defScope s_reduced) (by decide +kernel)) (fun _ _ _ _ _ => pg_tup rfl (pgs_cons (pg_name (i := 2) sc_reduced.nd rfl (Or.inl rfl)) (pgs_cons (pg_name (i := 3) sc_reduced.nd rfl (Or.inl rfl)) pgs_nil))) (fun _ _ _ _ _ => pts_nil) (fun _ _ _ _ _ => (pe_op op_xor (pv 2) (pv 3))))))), ?_⟩
    have g := head_at h0
    refine q_when (et_test (ev_i0 (ev_ixI (er_var rfl ha) ev_c (atI_nat (j := 0) g)) ev_c)) (fun hc H1 e1 => ?_) (fun hc H1 e1 => ?_)
    · have hh : xs.headD 0 = 0 := of_decide_eq_true hc
      refine s_retL (el_is (el_slFromI (xs := xs) (n := 1) (by walk_at "cg er") ev_c (by decide)) ?_) fun p H2 n2 e2 h2 => q p H2 (fresh_back e1 n2) (e1.trans e2) h2
      unfold redR
      rw [if_pos hh]
      exact congrArg iv List.drop_one
    · have hh : ¬ xs.headD 0 = 0 := of_decide_eq_false hc
      refine s_retL (el_is (el_lcXor (xs := xs.drop 1) (ys := ds.drop 1) (er_L (el_slFromI (n := 1) (by walk_at "cg er") ev_c (by decide))) (er_L (el_slFromI (n := 1) (by walk_at "cg er") ev_c (by decide))) (by rw [List.length_drop]; omega) (fun _ _ => rfl) (fun x y H1 => by walk_at "cg ev")) ?_) fun p H2 n2 e2 h2 => q p H2 (fresh_back e1 n2) (e1.trans e2) h2
      unfold redR
      rw [if_neg hh, List.drop_one, List.drop_one]


/-! ## the parting of a row: what quotient and rest make together -/
def pstep (ds : List Int) (st : List Int × List Int) (s : Int) : List Int × List Int := (st.1 ++ [(st.2 ++ [s]).headD 0], redR (st.2 ++ [s]) ds)
def prun (ds xs : List Int) : List Int × List Int := xs.foldl (pstep ds) ([], List.replicate (ds.length - 1) 0)
theorem prun_snoc (ds xs : List Int) (s : Int) : prun ds (xs ++ [s]) = pstep ds (prun ds xs) s := by
  unfold prun
  rw [List.foldl_append]
  rfl
theorem getD_left {xs ys : List Int} {k : Nat} (h : k < xs.length) : (xs ++ ys).getD k 0 = xs.getD k 0 := by
  rw [List.getD_eq_getElem?_getD, List.getD_eq_getElem?_getD, List.getElem?_append_left h]
/-- rows by their last sign -/
theorem snoc_ind {C : List Int → Prop} (h0 : C []) (h1 : ∀ xs x, C xs → C (xs ++ [x])) : ∀ xs, C xs := fun xs => by
  have z : ∀ n (xs : List Int), xs.length = n → C xs := by
    intro n
    induction n with
    | zero =>
      intro xs h
      rw [List.length_eq_zero_iff.mp h]
      exact h0
    | succ n ih =>
      intro xs h
      have ne : xs ≠ [] := fun e => by rw [e] at h; cases h
      rw [← List.dropLast_concat_getLast ne]
      exact h1 _ _ (ih _ (by rw [List.length_dropLast, h]; rfl))
  exact z _ xs rfl
theorem prun_len {ds : List Int} (h : 0 < ds.length) (xs : List Int) : (prun ds xs).1.length = xs.length ∧ (prun ds xs).2.length = ds.length - 1 := by
  induction xs using snoc_ind with
  | h0 => exact ⟨rfl, List.length_replicate⟩
  | h1 xs x ih =>
    rw [prun_snoc]
    refine ⟨by show (_ ++ [_]).length = _; rw [List.length_append, List.length_append, ih.1]; rfl, ?_⟩
    show (redR _ ds).length = _
    rw [redR_len (by rw [List.length_append, ih.2]; show _ + 1 = _; omega), List.length_append, ih.2]
    rfl
theorem headD_bit {xs : List Int} (h : Bits xs) : xs.headD 0 = 0 ∨ xs.headD 0 = 1 := by
  cases xs with
  | nil => exact .inl rfl
  | cons x r => exact h x List.mem_cons_self
theorem prun_bits {ds : List Int} (hd : Bits ds) {xs : List Int} (hx : Bits xs) : Bits (prun ds xs).1 ∧ Bits (prun ds xs).2 := by
  induction xs using snoc_ind with
  | h0 => exact ⟨.nil, .rep _ (.inl rfl)⟩
  | h1 xs x ih =>
    have b1 : Bits xs := fun y hy => hx y (List.mem_append_left _ hy)
    have b2 : x = 0 ∨ x = 1 := hx x (List.mem_append_right _ List.mem_cons_self)
    rw [prun_snoc]
    have bl : Bits ((prun ds xs).2 ++ [x]) := (ih b1).2.append (.one b2)
    exact ⟨(ih b1).1.append (.one (headD_bit bl)), redR_bits bl hd⟩
theorem sm_head {hs : List Int} {h : Int} (ds : List Int) (s : Nat) : ∀ t, t ≤ hs.length → sm (hs ++ [h]) ds s t = sm hs ds s t
  | 0, _ => rfl
  | t + 1, ht => by
    show sm (hs ++ [h]) ds s t + tm (hs ++ [h]) ds s t = sm hs ds s t + tm hs ds s t
    rw [sm_head ds s t (by omega)]
    unfold tm
    rw [getD_left (by omega)]
theorem sm_none {hs ds : List Int} {s : Nat} : ∀ t, (∀ k, k < t → ¬ (k ≤ s ∧ s - k < ds.length)) → sm hs ds s t = 0
  | 0, _ => rfl
  | t + 1, h => by
    show sm hs ds s t + tm hs ds s t = 0
    rw [sm_none t fun k hk => h k (by omega)]
    unfold tm
    rw [if_neg (h t (by omega))]
    rfl
theorem getD_none {xs : List Int} {k : Nat} (h : xs.length ≤ k) : xs.getD k 0 = 0 := by
  rw [List.getD_eq_getElem?_getD, List.getElem?_eq_none h]
  rfl
/-- one step, sign by sign -/
theorem step_at {ls ds : List Int} (hl : ls.length = ds.length) (h0 : ds.headD 0 = 1) (bl : Bits ls) (bd : Bits ds) (hp : 0 < ls.length) (j : Nat) (hj : j < ls.length) :
    (ls.getD j 0) % 2 = (ls.headD 0 * ds.getD j 0 + if 1 ≤ j then (redR ls ds).getD (j - 1) 0 else 0) % 2 := by
  cases ls with
  | nil => cases hp
  | cons l r =>
    cases ds with
    | nil => cases hl
    | cons d e =>
      have d1 : d = 1 := h0
      subst d1
      cases j with
      | zero => simp
      | succ j =>
        rw [if_pos (by omega)]
        show r.getD j 0 % 2 = (l * e.getD j 0 + (redR (l :: r) (1 :: e)).getD j 0) % 2
        have hj' : j < r.length := by simpa using hj
        have he : r.length = e.length := by simpa using hl
        unfold redR
        rcases bl l List.mem_cons_self with rfl | rfl
        · simp
        · rw [if_neg (show ¬ ((1 : Int) :: r).headD 0 = 0 from (by decide : ¬ (1 : Int) = 0))]
          have b1 : Bits r := bl.tail
          have b2 : Bits e := bd.tail
          have g : (xorR r e).getD j 0 = (r.getD j 0 + e.getD j 0) % 2 := by
            unfold xorR
            rw [List.getD_eq_getElem?_getD, List.getElem?_zipWith, List.getElem?_eq_getElem hj', List.getElem?_eq_getElem (show j < e.length by omega), List.getD_eq_getElem?_getD, List.getElem?_eq_getElem hj', List.getD_eq_getElem?_getD, List.getElem?_eq_getElem (show j < e.length by omega)]
            exact xor_bit (b1 _ (List.getElem_mem _)) (b2 _ (List.getElem_mem _))
          show _ = (1 * e.getD j 0 + (xorR r e).getD j 0) % 2
          rw [g]
          omega
/-- the row with width noughts ahead -/
def ahead (w : Nat) (xs : List Int) (s : Nat) : Int := if s < w then 0 else xs.getD (s - w) 0
theorem prun_sum {ds : List Int} (h0 : ds.headD 0 = 1) (bd : Bits ds) : ∀ xs, Bits xs → ∀ s, s < xs.length + (ds.length - 1) →
    ahead (ds.length - 1) xs s % 2 = (sm (prun ds xs).1 ds s xs.length + if xs.length ≤ s then (prun ds xs).2.getD (s - xs.length) 0 else 0) % 2 := by
  have hp : 0 < ds.length := by
    cases ds with
    | nil => cases h0
    | cons d e => exact Nat.succ_pos _
  intro xs
  induction xs using snoc_ind with
  | h0 =>
    intro _ s hs
    have hs' : s < ds.length - 1 := by simpa using hs
    show ahead _ [] s % 2 = (0 + if 0 ≤ s then (List.replicate (ds.length - 1) (0 : Int)).getD (s - 0) 0 else 0) % 2
    unfold ahead
    rw [if_pos hs', if_pos (Nat.zero_le _), List.getD_eq_getElem?_getD, List.getElem?_replicate, if_pos (by omega)]
    rfl
  | h1 xs x ih =>
    intro bx s hs
    have b1 : Bits xs := fun y hy => bx y (List.mem_append_left _ hy)
    have b2 : x = 0 ∨ x = 1 := bx x (List.mem_append_right _ List.mem_cons_self)
    have L := prun_len hp xs
    have B := prun_bits bd b1
    rw [prun_snoc]
    generalize hls : (prun ds xs).2 ++ [x] = ls
    have hlen : ls.length = ds.length := by
      rw [← hls, List.length_append, L.2]
      show _ + 1 = _
      omega
    have bl : Bits ls := by
      rw [← hls]
      exact B.2.append (.one b2)
    have e1 : (pstep ds (prun ds xs) x).1 = (prun ds xs).1 ++ [ls.headD 0] := by rw [← hls]; rfl
    have e2 : (pstep ds (prun ds xs) x).2 = redR ls ds := by rw [← hls]; rfl
    rw [e1, e2]
    have hn : (xs ++ [x]).length = xs.length + 1 := by rw [List.length_append]; rfl
    rw [hn] at hs ⊢
    show _ = (sm _ ds s xs.length + tm _ ds s xs.length + _) % 2
    rw [sm_head ds s xs.length (by rw [L.1]; exact Nat.le_refl _)]
    have et : ((prun ds xs).1 ++ [ls.headD 0]).getD xs.length 0 = ls.headD 0 := by
      rw [List.getD_eq_getElem?_getD, List.getElem?_append_right (by rw [L.1]; exact Nat.le_refl _), L.1, Nat.sub_self]
      rfl
    unfold tm
    rw [et]
    by_cases c : xs.length ≤ s
    · -- the window
      have key : ahead (ds.length - 1) (xs ++ [x]) s % 2 = (sm (prun ds xs).1 ds s xs.length + ls.getD (s - xs.length) 0) % 2 := by
        by_cases c2 : s < xs.length + (ds.length - 1)
        · have := ih b1 s c2
          rw [if_pos c] at this
          have ea : ahead (ds.length - 1) (xs ++ [x]) s = ahead (ds.length - 1) xs s := by
            unfold ahead
            split
            · rfl
            · rw [getD_left (by omega)]
          have el : ls.getD (s - xs.length) 0 = (prun ds xs).2.getD (s - xs.length) 0 := by
            rw [← hls, getD_left (by rw [L.2]; omega)]
          rw [ea, el, this]
        · have es : s = xs.length + (ds.length - 1) := by omega
          have z : sm (prun ds xs).1 ds s xs.length = 0 := sm_none _ fun k hk => by omega
          have el : ls.getD (s - xs.length) 0 = x := by
            rw [← hls, List.getD_eq_getElem?_getD, List.getElem?_append_right (by rw [L.2]; omega), L.2, show s - xs.length - (ds.length - 1) = 0 by omega]
            rfl
          have ea : ahead (ds.length - 1) (xs ++ [x]) s = x := by
            unfold ahead
            rw [if_neg (by omega), List.getD_eq_getElem?_getD, List.getElem?_append_right (by omega), show s - (ds.length - 1) - xs.length = 0 by omega]
            rfl
          rw [z, el, ea, Int.zero_add]
      have st := step_at hlen h0 bl bd (by omega) (s - xs.length) (by omega)
      rw [key, if_pos ⟨c, by omega⟩]
      by_cases c3 : xs.length + 1 ≤ s
      · rw [if_pos (by omega), show s - xs.length - 1 = s - (xs.length + 1) by omega] at st
        rw [if_pos c3]
        omega
      · rw [if_neg (by omega)] at st
        rw [if_neg c3]
        omega
    · rw [if_neg (by omega), if_neg (by omega)]
      have := ih b1 s (by omega)
      rw [if_neg c] at this
      have ea : ahead (ds.length - 1) (xs ++ [x]) s = ahead (ds.length - 1) xs s := by
        unfold ahead
        split
        · rfl
        · rw [getD_left (by omega)]
      rw [ea, this]
      simp
/-- the first heads are noughts -/
theorem heads_zero {ds : List Int} (h0 : ds.headD 0 = 1) (bd : Bits ds) {xs : List Int} (bx : Bits xs) : ∀ n k, k < n → k < ds.length - 1 → k < xs.length → (prun ds xs).1.getD k 0 = 0 := by
  intro n
  induction n with
  | zero => intro k h; cases h
  | succ n ih =>
    intro s hk hw hx
    by_cases hlt : s < n
    · exact ih s hlt hw hx
    have S := prun_sum h0 bd xs bx s (by omega)
    unfold ahead at S
    rw [if_pos hw, if_neg (by omega), Int.add_zero] at S
    have z : ∀ t, sm (prun ds xs).1 ds s t = if s < t then (prun ds xs).1.getD s 0 else 0 := by
      intro t
      induction t with
      | zero => rfl
      | succ t iht =>
        show sm (prun ds xs).1 ds s t + tm (prun ds xs).1 ds s t = _
        rw [iht]
        unfold tm
        by_cases c : t ≤ s ∧ s - t < ds.length
        · rw [if_pos c]
          by_cases c2 : t = s
          · subst c2
            rw [if_neg (by omega), if_pos (by omega), Nat.sub_self]
            have : ds.getD 0 0 = 1 := by
              cases ds with
              | nil => cases h0
              | cons d e => exact h0
            rw [this]
            omega
          · rw [ih t (by omega) (by omega) (by omega), if_neg (by omega), if_neg (by omega)]
            omega
        · rw [if_neg c]
          by_cases c2 : t = s
          · subst c2
            omega
          · by_cases c3 : s < t
            · rw [if_pos c3, if_pos (by omega)]
              omega
            · rw [if_neg c3, if_neg (by omega)]
              rfl
    rw [z, if_pos hx] at S
    rcases bit_getD (prun_bits bd bx).1 s with e | e
    · exact e
    · rw [e] at S
      exact absurd S (by decide)
theorem sm_shift {hs ds : List Int} {w : Nat} (h : ∀ k, k < w → hs.getD k 0 = 0) (t : Nat) : ∀ m, sm hs ds (t + w) (w + m) = sm (hs.drop w) ds t m
  | 0 => by
    have z : ∀ n, n ≤ w → sm hs ds (t + w) n = 0 := by
      intro n
      induction n with
      | zero => intro _; rfl
      | succ n ih =>
        intro hn
        show sm hs ds (t + w) n + tm hs ds (t + w) n = 0
        rw [ih (by omega)]
        unfold tm
        rw [h n (by omega)]
        split <;> omega
    exact z w (Nat.le_refl _)
  | m + 1 => by
    show sm hs ds (t + w) (w + m) + tm hs ds (t + w) (w + m) = sm (hs.drop w) ds t m + tm (hs.drop w) ds t m
    rw [sm_shift h t m]
    congr 1
    unfold tm
    have g : (hs.drop w).getD m 0 = hs.getD (w + m) 0 := by
      rw [List.getD_eq_getElem?_getD, List.getD_eq_getElem?_getD, List.getElem?_drop]
    rw [g, show t + w - (w + m) = t - m by omega]
    have z : (w + m ≤ t + w ∧ t - m < ds.length) ↔ (m ≤ t ∧ t - m < ds.length) := by omega
    simp only [z]
/-- quotient times divisor, and the rest, make the row -/
theorem parted_makes {ds : List Int} (h0 : ds.headD 0 = 1) (bd : Bits ds) {xs : List Int} (bx : Bits xs) (t : Nat) (ht : t < max xs.length (ds.length - 1)) :
    ((if max xs.length (ds.length - 1) - (ds.length - 1) ≤ t then (prun ds xs).2.getD (t - (max xs.length (ds.length - 1) - (ds.length - 1))) 0 else 0) + sm ((prun ds xs).1.drop (ds.length - 1)) ds t ((prun ds xs).1.drop (ds.length - 1)).length) % 2 = (longer xs (max xs.length (ds.length - 1))).getD t 0 := by
  have hp : 0 < ds.length := by
    cases ds with
    | nil => cases h0
    | cons d e => exact Nat.succ_pos _
  have L := prun_len hp xs
  have fin : ∀ z : Int, (z = 0 ∨ z = 1) → z % 2 = z := fun z h => by omega
  by_cases c : ds.length - 1 ≤ xs.length
  · rw [Nat.max_eq_left c]
    have S := prun_sum h0 bd xs bx (t + (ds.length - 1)) (by omega)
    have e : ahead (ds.length - 1) xs (t + (ds.length - 1)) = xs.getD t 0 := by
      unfold ahead
      rw [if_neg (by omega), Nat.add_sub_cancel]
    have sh := sm_shift (hs := (prun ds xs).1) (ds := ds) (w := ds.length - 1) (fun k hk => heads_zero h0 bd bx (k + 1) k (by omega) hk (by omega)) t (xs.length - (ds.length - 1))
    rw [show ds.length - 1 + (xs.length - (ds.length - 1)) = xs.length by omega] at sh
    rw [List.length_drop, L.1, ← sh]
    have lg : longer xs xs.length = xs := by
      unfold longer
      rw [Nat.sub_self]
      rfl
    rw [lg]
    rw [e, fin _ (bit_getD bx t)] at S
    rw [S]
    by_cases c2 : xs.length - (ds.length - 1) ≤ t
    · rw [if_pos c2, if_pos (by omega), show t + (ds.length - 1) - xs.length = t - (xs.length - (ds.length - 1)) by omega]
      omega
    · rw [if_neg c2, if_neg (by omega)]
      omega
  · have c' : xs.length ≤ ds.length - 1 := by omega
    rw [Nat.max_eq_right c', Nat.sub_self, if_pos (Nat.zero_le _), Nat.sub_zero]
    have hd : ((prun ds xs).1.drop (ds.length - 1)) = [] := List.drop_of_length_le (by rw [L.1]; omega)
    rw [hd]
    show (_ + 0) % 2 = _
    have S := prun_sum h0 bd xs bx (t + xs.length) (by omega)
    rw [if_pos (by omega), Nat.add_sub_cancel] at S
    have z : sm (prun ds xs).1 ds (t + xs.length) xs.length = 0 := by
      have zz : ∀ n, n ≤ xs.length → sm (prun ds xs).1 ds (t + xs.length) n = 0 := by
        intro n
        induction n with
        | zero => intro _; rfl
        | succ n ih =>
          intro hn
          show sm _ ds _ n + tm _ ds _ n = 0
          rw [ih (by omega)]
          unfold tm
          rw [heads_zero h0 bd bx (n + 1) n (by omega) (by omega) (by omega)]
          split <;> omega
      exact zz _ (Nat.le_refl _)
    rw [z] at S
    have e : ahead (ds.length - 1) xs (t + xs.length) = (longer xs (ds.length - 1)).getD t 0 := by
      unfold ahead longer
      by_cases c2 : t + xs.length < ds.length - 1
      · rw [if_pos c2, getD_left (by rw [List.length_replicate]; omega), List.getD_eq_getElem?_getD, List.getElem?_replicate, if_pos (by omega)]
        rfl
      · rw [if_neg c2, List.getD_eq_getElem?_getD, List.getD_eq_getElem?_getD, List.getElem?_append_right (by rw [List.length_replicate]; omega), List.length_replicate, show t + xs.length - (ds.length - 1) = t - (ds.length - 1 - xs.length) by omega]
    rw [e, fin _ (bit_getD (longer_bits bx _) t)] at S
    rw [S]
    congr 1
    omega


/-! ## noughts behind a row: the steps, and the reach -/
structure IsDiv (ds : List Int) : Prop where
  bits : Bits ds
  two : 2 ≤ ds.length
  top : ds.length ≤ 13
  head : ds.headD 0 = 1
  last : ds.getD (ds.length - 1) 0 = 1
def nxt (ds R : List Int) : List Int := redR (R ++ [0]) ds
def its (ds : List Int) : Nat → List Int → List Int
  | 0, R => R
  | n + 1, R => nxt ds (its ds n R)
theorem its_add (ds R : List Int) (m : Nat) : ∀ n, its ds (n + m) R = its ds n (its ds m R)
  | 0 => by rw [Nat.zero_add]; rfl
  | n + 1 => by
    rw [show n + 1 + m = (n + m) + 1 by omega]
    show nxt ds _ = nxt ds _
    rw [its_add ds R m n]
def RowOf (w : Nat) (R : List Int) : Prop := Bits R ∧ R.length = w
theorem nxt_row {ds R : List Int} (D : IsDiv ds) (h : RowOf (ds.length - 1) R) : RowOf (ds.length - 1) (nxt ds R) := by
  have h2 := D.two
  have hl : (R ++ [0]).length = ds.length := by
    rw [List.length_append, h.2]
    show _ + 1 = _
    omega
  refine ⟨redR_bits (h.1.append (.one (.inl rfl))) D.bits, ?_⟩
  show (redR _ _).length = _
  rw [redR_len hl, hl]
theorem its_row {ds R : List Int} (D : IsDiv ds) (h : RowOf (ds.length - 1) R) : ∀ n, RowOf (ds.length - 1) (its ds n R)
  | 0 => h
  | n + 1 => nxt_row D (its_row D h n)
/-- the signs of the next rest -/
theorem nxt_at {ds R : List Int} (D : IsDiv ds) (h : RowOf (ds.length - 1) R) {j : Nat} (hj : j < ds.length - 1) : (nxt ds R).getD j 0 = ((R ++ [0]).getD (j + 1) 0 + R.headD 0 * ds.getD (j + 1) 0) % 2 := by
  have h2 := D.two
  have hl : (R ++ [0]).length = ds.length := by
    rw [List.length_append, h.2]
    show _ + 1 = _
    omega
  have bl : Bits (R ++ [0]) := h.1.append (.one (.inl rfl))
  have st := step_at hl D.head bl D.bits (by omega) (j + 1) (by omega)
  have hh : (R ++ [0]).headD 0 = R.headD 0 := by
    cases R with
    | nil => rfl
    | cons x r => rfl
  rw [if_pos (by omega), Nat.add_sub_cancel, hh] at st
  have b1 := bit_getD (nxt_row D h).1 j
  show (redR (R ++ [0]) ds).getD j 0 = _
  have b1' : (redR (R ++ [0]) ds).getD j 0 = 0 ∨ (redR (R ++ [0]) ds).getD j 0 = 1 := b1
  have b2 := bit_getD bl (j + 1)
  have b3 := bit_getD D.bits (j + 1)
  have b4 := headD_bit h.1
  rcases b1' with a | a <;> rcases b2 with b | b <;> rcases b3 with c | c <;> rcases b4 with d | d <;> rw [a, b, c, d] at st ⊢ <;> first | rfl | exact absurd st (by decide)
theorem row_ext {w : Nat} {R S : List Int} (h : RowOf w R) (k : RowOf w S) (e : ∀ j, j < w → R.getD j 0 = S.getD j 0) : R = S := by
  apply List.ext_getElem?
  intro j
  by_cases hj : j < w
  · have := e j hj
    rw [List.getD_eq_getElem?_getD, List.getD_eq_getElem?_getD, List.getElem?_eq_getElem (by rw [h.2]; exact hj), List.getElem?_eq_getElem (by rw [k.2]; exact hj)] at this
    rw [List.getElem?_eq_getElem (by rw [h.2]; exact hj), List.getElem?_eq_getElem (by rw [k.2]; exact hj)]
    exact congrArg some this
  · rw [List.getElem?_eq_none (by rw [h.2]; omega), List.getElem?_eq_none (by rw [k.2]; omega)]
theorem headD_getD (R : List Int) : R.headD 0 = R.getD 0 0 := by
  cases R with
  | nil => rfl
  | cons x r => rfl
theorem nxt_inj {ds R S : List Int} (D : IsDiv ds) (h : RowOf (ds.length - 1) R) (k : RowOf (ds.length - 1) S) (e : nxt ds R = nxt ds S) : R = S := by
  have h2 := D.two
  have hd : R.headD 0 = S.headD 0 := by
    have a := nxt_at D h (j := ds.length - 2) (by omega)
    have b := nxt_at D k (j := ds.length - 2) (by omega)
    rw [e, b] at a
    have z1 : (R ++ [0]).getD (ds.length - 2 + 1) 0 = 0 := by
      rw [List.getD_eq_getElem?_getD, List.getElem?_append_right (by rw [h.2]; omega), h.2, show ds.length - 2 + 1 - (ds.length - 1) = 0 by omega]
      rfl
    have z2 : (S ++ [0]).getD (ds.length - 2 + 1) 0 = 0 := by
      rw [List.getD_eq_getElem?_getD, List.getElem?_append_right (by rw [k.2]; omega), k.2, show ds.length - 2 + 1 - (ds.length - 1) = 0 by omega]
      rfl
    have z3 : ds.getD (ds.length - 2 + 1) 0 = 1 := by
      rw [show ds.length - 2 + 1 = ds.length - 1 by omega]
      exact D.last
    rw [z1, z2, z3] at a
    have b1 := headD_bit h.1
    have b2 := headD_bit k.1
    omega
  refine row_ext h k fun j hj => ?_
  cases j with
  | zero => rw [← headD_getD, ← headD_getD, hd]
  | succ j =>
    have a := nxt_at D h (j := j) (by omega)
    have b := nxt_at D k (j := j) (by omega)
    rw [e, b, hd, getD_left (by rw [k.2]; exact hj), getD_left (by rw [h.2]; exact hj)] at a
    have b1 := bit_getD h.1 (j + 1)
    have b2 := bit_getD k.1 (j + 1)
    omega
theorem its_inj {ds R S : List Int} (D : IsDiv ds) (h : RowOf (ds.length - 1) R) (k : RowOf (ds.length - 1) S) : ∀ n, its ds n R = its ds n S → R = S
  | 0, e => e
  | n + 1, e => its_inj D h k n (nxt_inj D (its_row D h n) (its_row D k n) e)
/-! ### pigeons -/
theorem pigeon : ∀ (N : Nat) (g : Nat → Nat), (∀ i, i ≤ N → g i < N) → ∃ i j, i < j ∧ j ≤ N ∧ g i = g j
  | 0, g, h => absurd (h 0 (Nat.le_refl _)) (Nat.not_lt_zero _)
  | N + 1, g, h => by
    by_cases c : ∃ i, i ≤ N ∧ g i = g (N + 1)
    · obtain ⟨i, hi, e⟩ := c
      exact ⟨i, N + 1, by omega, Nat.le_refl _, e⟩
    · have c' : ∀ i, i ≤ N → g i ≠ g (N + 1) := fun i hi e => c ⟨i, hi, e⟩
      have hv := h (N + 1) (Nat.le_refl _)
      obtain ⟨i, j, hij, hj, e⟩ := pigeon N (fun i => if g (N + 1) < g i then g i - 1 else g i) (fun i hi => by
        have a := h i (by omega)
        have b := c' i hi
        show (if g (N + 1) < g i then g i - 1 else g i) < N
        split <;> omega)
      refine ⟨i, j, hij, by omega, ?_⟩
      have e' : (if g (N + 1) < g i then g i - 1 else g i) = (if g (N + 1) < g j then g j - 1 else g j) := e
      have b1 := c' i (by omega)
      have b2 := c' j hj
      split at e' <;> split at e' <;> omega
/-- a row as a number -/
def val : List Int → Nat
  | [] => 0
  | x :: r => x.toNat * 2 ^ r.length + val r
theorem val_lt : ∀ {R : List Int}, Bits R → val R < 2 ^ R.length
  | [], _ => by decide
  | x :: r, h => by
    have ih := val_lt (R := r) fun y hy => h y (List.mem_cons_of_mem _ hy)
    rw [List.length_cons, Nat.pow_succ]
    show x.toNat * 2 ^ r.length + val r < _
    rcases h x List.mem_cons_self with rfl | rfl
    · show 0 * _ + _ < _
      omega
    · show 1 * _ + _ < _
      omega
theorem val_inj : ∀ {R S : List Int}, Bits R → Bits S → R.length = S.length → val R = val S → R = S
  | [], [], _, _, _, _ => rfl
  | [], _ :: _, _, _, h, _ => by cases h
  | _ :: _, [], _, _, h, _ => by cases h
  | x :: r, y :: s, hR, hS, hl, e => by
    have hl' : r.length = s.length := by simpa using hl
    have bR : Bits r := fun z hz => hR z (List.mem_cons_of_mem _ hz)
    have bS : Bits s := fun z hz => hS z (List.mem_cons_of_mem _ hz)
    have l1 := val_lt bR
    have l2 := val_lt bS
    rw [hl'] at l1
    have e' : x.toNat * 2 ^ r.length + val r = y.toNat * 2 ^ s.length + val s := e
    rw [hl'] at e'
    rcases hR x List.mem_cons_self with rfl | rfl <;> rcases hS y List.mem_cons_self with rfl | rfl
    · rw [val_inj bR bS hl' (by simpa using e')]
    · exfalso
      have e2 : 0 * 2 ^ s.length + val r = 1 * 2 ^ s.length + val s := e'
      omega
    · exfalso
      have e2 : 1 * 2 ^ s.length + val r = 0 * 2 ^ s.length + val s := e'
      omega
    · rw [val_inj bR bS hl' (by have e2 : 1 * 2 ^ s.length + val r = 1 * 2 ^ s.length + val s := e'; omega)]
theorem val_rep : ∀ w, val (List.replicate w 0) = 0
  | 0 => rfl
  | w + 1 => by
    rw [List.replicate_succ]
    show 0 * _ + val (List.replicate w 0) = 0
    rw [val_rep w]
    omega
/-- the rest that the power 0 leaves -/
def beg (ds : List Int) : List Int := List.replicate (ds.length - 2) 0 ++ [1]
theorem beg_row {ds : List Int} (D : IsDiv ds) : RowOf (ds.length - 1) (beg ds) := by
  have h2 := D.two
  refine ⟨(Bits.rep _ (.inl rfl)).append (.one (.inr rfl)), ?_⟩
  unfold beg
  rw [List.length_append, List.length_replicate]
  show _ + 1 = _
  omega
def zer (ds : List Int) : List Int := List.replicate (ds.length - 1) 0
theorem zer_row {ds : List Int} : RowOf (ds.length - 1) (zer ds) := ⟨.rep _ (.inl rfl), List.length_replicate⟩
theorem zer_getD (n j : Nat) : (List.replicate n (0 : Int)).getD j 0 = 0 := by
  rw [List.getD_eq_getElem?_getD, List.getElem?_replicate]
  split <;> rfl
theorem nxt_zer {ds : List Int} (D : IsDiv ds) : nxt ds (zer ds) = zer ds := by
  refine row_ext (nxt_row D zer_row) zer_row fun j hj => ?_
  rw [nxt_at D zer_row hj]
  have z : (zer ds).headD 0 = 0 := by rw [headD_getD]; exact zer_getD _ _
  have z2 : (zer ds ++ [0]).getD (j + 1) 0 = 0 := by
    have e : zer ds ++ [0] = List.replicate (ds.length - 1 + 1) 0 := List.replicate_succ'.symm
    rw [e]
    exact zer_getD _ _
  have z3 : (zer ds).getD j 0 = 0 := zer_getD _ _
  rw [z, z2, z3]
  omega
theorem its_zer {ds : List Int} (D : IsDiv ds) : ∀ n, its ds n (zer ds) = zer ds
  | 0 => rfl
  | n + 1 => by
    show nxt ds (its ds n (zer ds)) = _
    rw [its_zer D n, nxt_zer D]
theorem beg_getD {ds : List Int} (D : IsDiv ds) (j : Nat) : (beg ds).getD j 0 = if j = ds.length - 2 then 1 else 0 := by
  unfold beg
  by_cases h : j < ds.length - 2
  · rw [getD_left (by rw [List.length_replicate]; exact h), zer_getD, if_neg (by omega)]
  · rw [List.getD_eq_getElem?_getD, List.getElem?_append_right (by rw [List.length_replicate]; omega), List.length_replicate]
    by_cases h2 : j = ds.length - 2
    · rw [if_pos h2, h2, Nat.sub_self]
      rfl
    · rw [if_neg h2, List.getElem?_eq_none (by show 1 ≤ _; omega)]
      rfl
theorem beg_ne {ds : List Int} (D : IsDiv ds) : beg ds ≠ zer ds := fun e => by
  have h2 := D.two
  have a := beg_getD D (ds.length - 2)
  rw [if_pos rfl, e] at a
  have b : (zer ds).getD (ds.length - 2) 0 = 0 := zer_getD _ _
  rw [b] at a
  exact absurd a (by decide)
theorem its_ne {ds : List Int} (D : IsDiv ds) {R : List Int} (h : RowOf (ds.length - 1) R) (ne : R ≠ zer ds) (n : Nat) : its ds n R ≠ zer ds := fun e => by
  rw [← its_zer D n] at e
  exact ne (its_inj D h zer_row n e)
theorem comes_back {ds : List Int} (D : IsDiv ds) : ∃ m, 1 ≤ m ∧ m ≤ 2 ^ (ds.length - 1) - 1 ∧ its ds m (beg ds) = beg ds := by
  have R := fun n => its_row D (beg_row D) n
  have pos : ∀ n, 0 < val (its ds n (beg ds)) := fun n => by
    refine Nat.pos_of_ne_zero fun e => its_ne D (beg_row D) (beg_ne D) n ?_
    refine val_inj (R n).1 zer_row.1 ((R n).2.trans zer_row.2.symm) ?_
    rw [e]
    exact (val_rep _).symm
  obtain ⟨i, j, hij, hj, e⟩ := pigeon (2 ^ (ds.length - 1) - 1) (fun n => val (its ds n (beg ds)) - 1) (fun i _ => by
    have l := val_lt (R i).1
    rw [(R i).2] at l
    have p := pos i
    show val _ - 1 < _
    omega)
  have e' : val (its ds i (beg ds)) - 1 = val (its ds j (beg ds)) - 1 := e
  have p1 := pos i
  have p2 := pos j
  have e2 := val_inj (R i).1 (R j).1 ((R i).2.trans (R j).2.symm) (by omega)
  refine ⟨j - i, by omega, by omega, ?_⟩
  rw [show j = i + (j - i) by omega, its_add] at e2
  exact (its_inj D (beg_row D) (its_row D (beg_row D) _) i e2).symm
/-- the least such number -/
structure IsReach (ds : List Int) (m : Nat) : Prop where
  pos : 1 ≤ m
  back : its ds m (beg ds) = beg ds
  least : ∀ k, 1 ≤ k → k < m → its ds k (beg ds) ≠ beg ds
theorem least_of {p : Nat → Prop} : ∀ n, p n → ∃ m, m ≤ n ∧ p m ∧ ∀ k, k < m → ¬ p k := by
  intro n
  induction n using Nat.strongRecOn with
  | ind n ih =>
    intro h
    by_cases c : ∃ k, k < n ∧ p k
    · obtain ⟨k, hk, pk⟩ := c
      obtain ⟨m, h1, h2, h3⟩ := ih k hk pk
      exact ⟨m, by omega, h2, h3⟩
    · exact ⟨n, Nat.le_refl _, h, fun k hk pk => c ⟨k, hk, pk⟩⟩
theorem has_reach_ {ds : List Int} (D : IsDiv ds) : ∃ m, IsReach ds m ∧ m ≤ 2 ^ (ds.length - 1) - 1 := by
  obtain ⟨m, h1, h2, h3⟩ := comes_back D
  obtain ⟨k, a, ⟨b1, b2⟩, c⟩ := least_of (p := fun m => 1 ≤ m ∧ its ds m (beg ds) = beg ds) m ⟨h1, h3⟩
  exact ⟨k, ⟨b1, b2, fun j hj hjk e => c j hjk ⟨hj, e⟩⟩, by omega⟩
open Classical in
noncomputable def rch (ds : List Int) : Nat := if h : ∃ m, IsReach ds m ∧ m ≤ 2 ^ (ds.length - 1) - 1 then choose h else 0
theorem rch_is {ds : List Int} (D : IsDiv ds) : IsReach ds (rch ds) ∧ rch ds ≤ 2 ^ (ds.length - 1) - 1 := by
  have h := has_reach_ D
  unfold rch
  rw [dif_pos h]
  exact Classical.choose_spec h
theorem rch_top {ds : List Int} (D : IsDiv ds) : rch ds ≤ 4095 := by
  have a := (rch_is D).2
  have b : 2 ^ (ds.length - 1) ≤ 2 ^ 12 := Nat.pow_le_pow_right (by decide) (by have := D.top; omega)
  omega
/-- at least the width -/
theorem its_early {ds : List Int} (D : IsDiv ds) : ∀ k, k ≤ ds.length - 2 → ∀ j, j < ds.length - 1 → (its ds k (beg ds)).getD j 0 = if j + k = ds.length - 2 then 1 else 0
  | 0, _, j, hj => by
    show (beg ds).getD j 0 = _
    rw [beg_getD D]
    rfl
  | k + 1, hk, j, hj => by
    have ih := its_early D k (by omega)
    have R := its_row D (beg_row D) k
    show (nxt ds _).getD j 0 = _
    rw [nxt_at D R hj, headD_getD, ih 0 (by omega), if_neg (by omega), Int.zero_mul, Int.add_zero]
    by_cases c : j + 1 < ds.length - 1
    · rw [getD_left (by rw [R.2]; exact c), ih (j + 1) c]
      have z : (j + 1 + k = ds.length - 2) ↔ (j + (k + 1) = ds.length - 2) := by omega
      simp only [z]
      split <;> rfl
    · have z : (its ds k (beg ds) ++ [0]).getD (j + 1) 0 = 0 := by
        rw [List.getD_eq_getElem?_getD, List.getElem?_append_right (by rw [R.2]; omega), R.2, show j + 1 - (ds.length - 1) = 0 by omega]
        rfl
      rw [z, if_neg (by omega)]
      rfl
theorem rch_wide {ds : List Int} (D : IsDiv ds) : ds.length - 1 ≤ rch ds := by
  have h2 := D.two
  have I := (rch_is D).1
  refine Nat.le_of_not_lt fun hlt => ?_
  have hk : rch ds ≤ ds.length - 2 := by omega
  have e := its_early D (rch ds) hk (ds.length - 2) (by omega)
  rw [I.back, beg_getD D, if_pos rfl, if_neg (by have := I.pos; omega)] at e
  exact absurd e (by decide)


/-! ## need_divisor, parted -/
def g_need_divisor (cs : Cs) : Sp := fun vs H Q E => ∃ (a : Addr) (ds : List Int), vs = [.ref a] ∧ H a = some (.lst (iv ds)) ∧ Bits ds ∧ (ds.headD 0 = 1 → RetV .non H Q) ∧ (ds.headD 0 ≠ 1 → ∀ H', Ex H H' → E (.ref cs.NoDivisor) none H')
def sp_need_divisor (K : PySem.W.Frag) (cs : Cs) : Sp := fun vs H Q E => g_need_divisor cs vs H Q E ∨ ∃ v, vs = [v] ∧ BadR K H v ∧ ∀ H', Ex H H' → E (.ref cs.NoRow) none H'
theorem has_need_divisor (T : Txt K mg cs) : Has P w K mg base 3 "need_divisor" ["divisor"] (sp_need_divisor K cs) := by
  refine T.d_need_divisor.ok sc_need_divisor (fun vs H Q E h => ?_) (fun f cdv A outer s H vs Q E hr h => ?_)
  · rcases h with ⟨a, ds, rfl, _⟩ | ⟨v, rfl, _⟩ <;> rfl
  · rcases h with ⟨a, ds, rfl, ha, bd, q1, q2⟩ | h
    · refine ⟨_, (pss_cons (ps_expr (pe_callH (has_need_row T) (hr.mono (by decide)) (passes_call (takes_of rfl rfl rfl rfl) (fun _ _ _ _ h => h)) (pa_cons (pv 0) pa_nil)))
      (pss_one (ps_if (PW.pt (pw_or (pt_cmpR op_eqII (pe_callB (kk_len K) (by rfl) T.z_len b_len (pa_cons (pv 0) pa_nil)) pe_int (nomark _)) (pw_or1 (pt_cmpR op_eqII (pe_ix (kk_ixl K) (pv 0) pe_int (fun _ _ => rfl)) pe_int (nomark _))))) (pss_one (ps_raise rfl (takes_of rfl rfl rfl rfl) (pmk_own PySem.F.excBase_ValueError T.e_NoDivisor.x T.e_NoDivisor.g T.e_NoDivisor.k T.e_NoDivisor.r (by exact rfl)))) pss_nil))), ?_⟩
      refine q_dropC (by walk_at "cg ea") fun H1 e1 => .inl ⟨a, ds, rfl, by walk_at "cg hp", bd, fun H2 e2 => ?_⟩
      have e := e1.trans e2
      have c2 : H2 a = some (.lst (iv ds)) := by walk_at "cg hp"
      clear e1 e2
      cases ds with
      | nil =>
        refine s_when (et_or (b := true) (et_test (ev_i0 (ev_lenI (er_var rfl c2)) ev_c)) (fun h => by simp at h)) (fun _ H3 e3 => ?_) (fun h => by simp at h)
        exact q2 (by decide) H3 (e.trans e3)
      | cons d r =>
        have g : (d :: r)[0]? = some d := rfl
        refine s_when (et_or (et_test (ev_i0 (ev_lenI (er_var rfl c2)) ev_c)) (fun _ => et_test (ev_i0 (ev_ixI (er_var rfl c2) ev_c (atI_nat (j := 0) g)) ev_c))) (fun hb H3 e3 => ?_) (fun hb H3 e3 => ?_)
        · refine q2 (fun h => ?_) H3 (e.trans e3)
          have h' : d = 1 := h
          subst h'
          rw [Bool.or_eq_true, decide_eq_true_eq, decide_eq_true_eq, List.length_cons] at hb
          omega
        · refine q1 ?_ H3 (e.trans e3)
          show d = 1
          rw [Bool.or_eq_false_iff, decide_eq_false_iff_not, decide_eq_false_iff_not] at hb
          have := bd d List.mem_cons_self
          omega
    · obtain ⟨v, rfl, hb, q⟩ := h
      refine ⟨_, (pss_cons (ps_expr (pe_callH (has_need_row T) (hr.mono (by decide)) (passes_call (takes_of rfl rfl rfl rfl) (fun _ _ _ _ h => h)) (pa_cons (pv 0) pa_nil)))
      (pss_one (ps_if (PW.pt (pw_or (pt_cmpR op_eqII (pe_callB (kk_len K) (by rfl) T.z_len b_len (pa_cons (pv 0) pa_nil)) pe_int (nomark _)) (pw_or1 (pt_cmpR op_eqII (pe_ix (kk_ixl K) (pv 0) pe_int (fun _ _ => rfl)) pe_int (nomark _))))) (pss_one (ps_raise rfl (takes_of rfl rfl rfl rfl) (pmk_own PySem.F.excBase_ValueError T.e_NoDivisor.x T.e_NoDivisor.g T.e_NoDivisor.k T.e_NoDivisor.r (by exact rfl)))) pss_nil))), ?_⟩
      exact q_dropC (ea_one (ev_var rfl)) fun H1 e1 => .inr ⟨_, rfl, hb.mono e1, fun H2 e2 => q H2 (e1.trans e2)⟩

def RetQ (xs ys : List Int) (H : Hp) (Q : VK) : Prop := ∀ p a b H2, Ex H H2 → H a = none → H b = none → a ≠ b → H2 p = some (.tup [.ref a, .ref b]) → H2 a = some (.lst (iv xs)) → H2 b = some (.lst (iv ys)) → Q (.ref p) H2
def g_parted (cs : Cs) : Sp := fun vs H Q E => ∃ (a b : Addr) (xs ds : List Int), vs = [.ref a, .ref b] ∧ H a = some (.lst (iv xs)) ∧ H b = some (.lst (iv ds)) ∧ Bits xs ∧ Bits ds ∧ xs.length ≤ 10000 ∧ ds.length ≤ 1000 ∧
  (ds.headD 0 = 1 → RetQ ((prun ds xs).1.drop (ds.length - 1)) (prun ds xs).2 H Q) ∧ (ds.headD 0 ≠ 1 → ∀ H', Ex H H' → E (.ref cs.NoDivisor) none H')
def sp_parted (K : PySem.W.Frag) (cs : Cs) : Sp := fun vs H Q E => g_parted cs vs H Q E ∨ ∃ v1 v2, vs = [v1, v2] ∧ (BadR K H v1 ∨ ∃ (a : Addr) (xs : List Int), v1 = .ref a ∧ H a = some (.lst (iv xs)) ∧ Bits xs ∧ BadR K H v2) ∧ ∀ H', Ex H H' → E (.ref cs.NoRow) none H'
theorem has_parted (T : Txt K mg cs) : Has P w K mg base 4 "parted" ["row", "divisor"] (sp_parted K cs) := by
  refine T.d_parted.ok sc_parted (fun vs H Q E h => ?_) (fun f cdv A outer s H vs Q E hr h => ?_)
  · rcases h with ⟨a, b, xs, ds, rfl, _⟩ | ⟨v1, v2, rfl, _⟩ <;> rfl
  · rcases h with ⟨a, b, xs, ds, rfl, ha, hb, bx, bd, lx, ld, q1, q2⟩ | h
    · refine ⟨_, (pss_cons (ps_expr (pe_callH (has_need_row T) (hr.mono (by decide)) (passes_call (takes_of rfl rfl rfl rfl) (fun _ _ _ _ h => h)) (pa_cons (pv 0) pa_nil)))
      (pss_cons (ps_expr (pe_callH (has_need_divisor T) (hr.mono (by decide)) (passes_call (takes_of rfl rfl rfl rfl) (fun _ _ _ _ h => h)) (pa_cons (pv 1) pa_nil)))
      (pss_cons (ps_set (i := 2) sc_parted.nd rfl (Or.inl rfl) (pe_op op_sub (pe_callB (kk_len K) (by rfl) T.z_len b_len (pa_cons (pv 1) pa_nil)) pe_int))
      (pss_cons (ps_set (i := 3) sc_parted.nd rfl (Or.inl rfl) (pe_op op_rep (pe_lst (pa_cons pe_int pa_nil)) (pv 2)))
      (pss_cons (ps_set (i := 4) sc_parted.nd rfl (Or.inl rfl) (pe_lst pa_nil))
      (pss_cons (ps_for (passes_of rfl) rfl (pi_list (pv 0)) (pg_name (i := 5) sc_parted.nd rfl (Or.inl rfl)) (pss_cons (ps_set (i := 6) sc_parted.nd rfl (Or.inl rfl) (pe_op op_cat (pv 3) (pe_lst (pa_cons (pv 5) pa_nil))))
      (pss_cons (ps_expr (pe_bm PySem.F.plainAttrs_list PySem.F.slot_list_append PySem.F.type_list_append mt_append (pv 4) (pa_cons (pe_ix (kk_ixl K) (pv 6) pe_int (fun _ _ => rfl)) pa_nil)))
      (pss_one (ps_set (i := 3) sc_parted.nd rfl (Or.inl rfl) (pe_callH (has_reduced T) (hr.mono (by decide)) (passes_call (takes_of rfl rfl rfl rfl) (fun _ _ _ _ h => h)) (pa_cons (pv 6) (pa_cons (pv 1) pa_nil))))))))
      (pss_one (ps_ret (pe_tup (pa_cons (pe_slice (kk_sl K) (pv 4) (po_some (pv 2)) po_none) (pa_cons (pv 3) pa_nil))))))))))), ?_⟩
      refine q_dropC (by walk_at "cg ea") fun H1 e1 => .inl ⟨a, xs, rfl, by walk_at "cg hp", bx, fun H2 e2 => ?_⟩
      refine q_dropC (by walk_at "cg ea") fun H3 e3 => .inl ⟨b, ds, rfl, by walk_at "cg hp", bd, fun h0 H4 e4 => ?_, fun h0 H4 e4 => q2 h0 H4 (((e1.trans e2).trans e3).trans e4)⟩
      have e : Ex H H4 := ((e1.trans e2).trans e3).trans e4
      clear e1 e2 e3 e4
      have hp : 0 < ds.length := by
        cases ds with
        | nil => cases h0
        | cons d r => exact Nat.succ_pos _
      refine q_asg (ev_is (v := .int ((ds.length : Int) - 1)) (w := .int ((ds.length - 1 : Nat) : Int)) (by walk_at "cg ev") (congrArg V.int (by omega))) fun H5 e5 => ?_
      refine q_asgL (xs := iv (List.replicate (ds.length - 1) 0)) (el_repN ev_c (ev_var rfl) (by omega)) fun p H6 n6 e6 h6 => ?_
      refine q_asgL el_nilI fun l H7 n7 e7 h7 => ?_
      have nl : H l = none := fresh_back ((e.trans e5).trans e6) n7
      refine q_forLn (ev_var rfl) (by walk_at "cg sq") (fun i σ' H' => Ex H H' ∧ H' l = some (.lst (iv (prun ds (xs.take i)).1)) ∧ ∃ (p : Addr) (v v' : Option V), σ' = [some (.ref a), some (.ref b), some (.int (ds.length - 1 : Nat)), some (.ref p), some (.ref l), v, v'] ∧ H p = none ∧ p ≠ l ∧ H' p = some (.lst (iv (prun ds (xs.take i)).2))) ?_ (fun i σ' H' _ h => sq_of (h.1 _ _ ha)) ?_ ?_
      · intro H8 e8
        refine ⟨(((e.trans e5).trans e6).trans e7).trans e8, e8 _ _ h7, p, none, none, rfl, fresh_back (e.trans e5) n6, ne_of_none h6 n7, ?_⟩
        rw [e8 _ _ (e7 _ _ h6)]
        rfl
      · rintro i x σ' H' hx ⟨e', hl, p, v, v', rfl, np, npl, hpp⟩
        obtain ⟨n, hn, rfl⟩ := iv_at hx
        have L := prun_len hp (xs.take i)
        have B := prun_bits bd (bx.take i)
        have bn := bx.get hn
        have step : prun ds (xs.take (i + 1)) = pstep ds (prun ds (xs.take i)) n := by
          rw [List.take_add_one, hn]
          exact prun_snoc _ _ _
        refine q_asgL (xs := iv ((prun ds (xs.take i)).2 ++ [n])) (el_catI (er_var rfl hpp) (er_L (el_oneI (by walk_at "cg ev"))) (by rw [L.2, List.length_singleton]; omega)) fun m H8 n8 e8 h8 => ?_
        have nml : m ≠ l := fun z => by rw [z, hl] at n8; cases n8
        have llen : ((prun ds (xs.take i)).2 ++ [n]).length = ds.length := by rw [List.length_append, L.2]; show _ + 1 = _; omega
        have g := head_at (xs := (prun ds (xs.take i)).2 ++ [n]) (by omega)
        refine q_appI nl (e'.trans e8) (e8 _ _ hl) (ev_var rfl) (ev_ixI (er_var rfl h8) ev_c (atI_nat (j := 0) g)) (by rw [L.1, List.length_take]; omega) fun H9 e9 k9 h9 => ?_
        have c8 : H9 m = some (.lst (iv ((prun ds (xs.take i)).2 ++ [n]))) := k9 _ _ nml h8
        refine s_asgC (by walk_at "cg ea") fun H10 e10 => ⟨m, b, (prun ds (xs.take i)).2 ++ [n], ds, rfl, e10 _ _ c8, e10 _ _ (e9 _ _ hb), B.2.append (.one bn), bd, llen, by omega, by omega, fun p2 H11 n11 e11 h11 => ?_⟩
        refine ⟨(e9.trans e10).trans e11, ?_, p2, _, _, rfl, fresh_back (e9.trans e10) n11, fun z => ?_, ?_⟩
        · rw [step]
          exact e11 _ _ (e10 _ _ h9)
        · rw [z, e10 _ _ h9] at n11
          cases n11
        · rw [step]
          exact h11
      · rintro σ' H' ⟨e', hl, p, v, v', rfl, np, npl, hpp⟩
        rw [iv_len, List.take_length] at hl hpp
        have L := prun_len hp xs
        have slc : EvL (tSl (rSlL K) (tVar 4) (tPart (tVar 2)) tNoPart) [some (V.ref a), some (.ref b), some (.int (ds.length - 1 : Nat)), some (.ref p), some (.ref l), v, v'] H' (iv ((prun ds xs).1.drop (ds.length - 1))) := el_slFromI (n := ((ds.length - 1 : Nat) : Int)) (er_var rfl hl) (ev_var rfl) (by omega)
        refine slc H' (Ex.refl H') _ fun m H8 n8 e8 h8 => ?_
        refine ⟨_, rfl, by show 2 ≤ 2 ^ 24; decide, fun t ht => ?_⟩
        have npm : m ≠ p := fun z => by rw [z, hpp] at n8; cases n8
        exact q1 h0 t m p _ ((e'.trans e8).trans (Ex.new ht)) (fresh_back e' n8) np npm upd_same (Ex.new ht _ _ h8) (Ex.new ht _ _ (e8 _ _ hpp))
    · obtain ⟨v1, v2, rfl, hb, q⟩ := h
      refine ⟨_, (pss_cons (ps_expr (pe_callH (has_need_row T) (hr.mono (by decide)) (passes_call (takes_of rfl rfl rfl rfl) (fun _ _ _ _ h => h)) (pa_cons (pv 0) pa_nil)))
      (pss_cons (ps_expr (pe_callH (has_need_divisor T) (hr.mono (by decide)) (passes_call (takes_of rfl rfl rfl rfl) (fun _ _ _ _ h => h)) (pa_cons (pv 1) pa_nil)))
      (pss_cons (ps_set (i := 2) sc_parted.nd rfl (Or.inl rfl) (pe_op op_sub (pe_callB (kk_len K) (by rfl) T.z_len b_len (pa_cons (pv 1) pa_nil)) pe_int))
      (pss_cons (ps_set (i := 3) sc_parted.nd rfl (Or.inl rfl) (pe_op op_rep (pe_lst (pa_cons pe_int pa_nil)) (pv 2)))
      (pss_cons (ps_set (i := 4) sc_parted.nd rfl (Or.inl rfl) (pe_lst pa_nil))
      (pss_cons (ps_for (passes_of rfl) rfl (pi_list (pv 0)) (pg_name (i := 5) sc_parted.nd rfl (Or.inl rfl)) (pss_cons (ps_set (i := 6) sc_parted.nd rfl (Or.inl rfl) (pe_op op_cat (pv 3) (pe_lst (pa_cons (pv 5) pa_nil))))
      (pss_cons (ps_expr (pe_bm PySem.F.plainAttrs_list PySem.F.slot_list_append PySem.F.type_list_append mt_append (pv 4) (pa_cons (pe_ix (kk_ixl K) (pv 6) pe_int (fun _ _ => rfl)) pa_nil)))
      (pss_one (ps_set (i := 3) sc_parted.nd rfl (Or.inl rfl) (pe_callH (has_reduced T) (hr.mono (by decide)) (passes_call (takes_of rfl rfl rfl rfl) (fun _ _ _ _ h => h)) (pa_cons (pv 6) (pa_cons (pv 1) pa_nil))))))))
      (pss_one (ps_ret (pe_tup (pa_cons (pe_slice (kk_sl K) (pv 4) (po_some (pv 2)) po_none) (pa_cons (pv 3) pa_nil))))))))))), ?_⟩
      rcases hb with hb | ⟨a, xs, rfl, ha, bx, hb⟩
      · exact q_dropC (ea_one (ev_var rfl)) fun H1 e1 => .inr ⟨_, rfl, hb.mono e1, fun H2 e2 => q H2 (e1.trans e2)⟩
      · refine q_dropC (ea_one (ev_var rfl)) fun H1 e1 => .inl ⟨a, xs, rfl, e1 _ _ ha, bx, fun H2 e2 => ?_⟩
        exact q_dropC (ea_one (ev_var rfl)) fun H3 e3 => .inr ⟨_, rfl, hb.mono ((e1.trans e2).trans e3), fun H4 e4 => q H4 (((e1.trans e2).trans e3).trans e4)⟩


/-! ## need_gate_divisor, reach -/
def g_need_gate_divisor (cs : Cs) : Sp := fun vs H Q E => ∃ (b : Addr) (ds : List Int), vs = [.ref b] ∧ H b = some (.lst (iv ds)) ∧ Bits ds ∧ (IsDiv ds → RetV .non H Q) ∧ (¬ IsDiv ds → ∀ H', Ex H H' → E (.ref cs.NoDivisor) none H')
def sp_need_gate_divisor (K : PySem.W.Frag) (cs : Cs) : Sp := fun vs H Q E => g_need_gate_divisor cs vs H Q E ∨ ∃ v, vs = [v] ∧ BadR K H v ∧ ∀ H', Ex H H' → E (.ref cs.NoRow) none H'
theorem last_at {ds : List Int} (h : 0 < ds.length) : atI ds (-1) = some (ds.getD (ds.length - 1) 0) := by
  have ne : ds ≠ [] := fun e => by rw [e] at h; cases h
  have e : ds = ds.dropLast ++ [ds.getLast ne] := (List.dropLast_concat_getLast ne).symm
  have g : ds.getD (ds.length - 1) 0 = ds.getLast ne := by
    rw [List.getD_eq_getElem?_getD, ← List.getLast?_eq_getElem?, List.getLast?_eq_getLast ne]
    rfl
  rw [g]
  conv => lhs; rw [e]
  exact atI_last _ _
theorem has_need_gate_divisor (T : Txt K mg cs) : Has P w K mg base 3 "need_gate_divisor" ["divisor"] (sp_need_gate_divisor K cs) := by
  refine T.d_need_gate_divisor.ok sc_need_gate_divisor (fun vs H Q E h => ?_) (fun f cdv A outer s H vs Q E hr h => ?_)
  · rcases h with ⟨b, ds, rfl, _⟩ | ⟨v, rfl, _⟩ <;> rfl
  · rcases h with ⟨b, ds, rfl, hb, bd, q1, q2⟩ | h
    · refine ⟨_, (pss_cons (ps_expr (pe_callH (has_need_row T) (hr.mono (by decide)) (passes_call (takes_of rfl rfl rfl rfl) (fun _ _ _ _ h => h)) (pa_cons (pv 0) pa_nil)))
      (pss_cons (ps_if (PW.pt (pw_or (pt_cmpR op_lt (pe_callB (kk_len K) (by rfl) T.z_len b_len (pa_cons (pv 0) pa_nil)) (pe_globI T.g_FEWEST_SIGNS) (nomark _)) (pw_or1 (pt_cmpR op_gt (pe_callB (kk_len K) (by rfl) T.z_len b_len (pa_cons (pv 0) pa_nil)) (pe_globI T.g_MOST_SIGNS) (nomark _))))) (pss_one (ps_raise rfl (takes_of rfl rfl rfl rfl) (pmk_own PySem.F.excBase_ValueError T.e_NoDivisor.x T.e_NoDivisor.g T.e_NoDivisor.k T.e_NoDivisor.r (by exact rfl)))) pss_nil)
      (pss_one (ps_if (PW.pt (pw_or (pt_cmpR op_eqII (pe_ix (kk_ixl K) (pv 0) pe_int (fun _ _ => rfl)) pe_int (nomark _)) (pw_or1 (pt_cmpR op_eqII (pe_ix (kk_ixl K) (pv 0) (pe_un un_neg pe_int) (fun _ _ => rfl)) pe_int (nomark _))))) (pss_one (ps_raise rfl (takes_of rfl rfl rfl rfl) (pmk_own PySem.F.excBase_ValueError T.e_NoDivisor.x T.e_NoDivisor.g T.e_NoDivisor.k T.e_NoDivisor.r (by exact rfl)))) pss_nil)))), ?_⟩
      refine q_dropC (by walk_at "cg ea") fun H1 e1 => .inl ⟨b, ds, rfl, by walk_at "cg hp", bd, fun H2 e2 => ?_⟩
      have c2 : H2 b = some (.lst (iv ds)) := by walk_at "cg hp"
      have e := e1.trans e2
      clear e1 e2
      refine q_when (et_or (et_test (ev_i0 (ev_lenI (er_var rfl c2)) ev_c)) (fun _ => et_test (ev_i0 (ev_lenI (er_var rfl c2)) ev_c))) (fun hc H3 e3 => ?_) (fun hc H3 e3 => ?_)
      · refine q2 (fun D => ?_) H3 (e.trans e3)
        have := D.two
        have := D.top
        rw [Bool.or_eq_true, decide_eq_true_eq, decide_eq_true_eq] at hc
        omega
      · rw [Bool.or_eq_false_iff, decide_eq_false_iff_not, decide_eq_false_iff_not] at hc
        have hp : 0 < ds.length := by omega
        have c3 := e3 _ _ c2
        refine s_when (et_or (et_test (ev_i0 (ev_ixI (er_var rfl c3) ev_c (atI_nat (j := 0) (head_at hp))) ev_c)) (fun _ => et_test (ev_i0 (ev_ixI (er_var rfl c3) (ev_un ev_c ru_neg) (last_at hp)) ev_c))) (fun hc2 H4 e4 => ?_) (fun hc2 H4 e4 => ?_)
        · refine q2 (fun D => ?_) H4 ((e.trans e3).trans e4)
          rw [Bool.or_eq_true, decide_eq_true_eq, decide_eq_true_eq, D.head, D.last] at hc2
          omega
        · refine q1 ?_ H4 ((e.trans e3).trans e4)
          rw [Bool.or_eq_false_iff, decide_eq_false_iff_not, decide_eq_false_iff_not] at hc2
          have b1 := headD_bit bd
          have b2 := bit_getD bd (ds.length - 1)
          exact ⟨bd, by omega, by omega, by omega, by omega⟩
    · obtain ⟨v, rfl, hb, q⟩ := h
      refine ⟨_, (pss_cons (ps_expr (pe_callH (has_need_row T) (hr.mono (by decide)) (passes_call (takes_of rfl rfl rfl rfl) (fun _ _ _ _ h => h)) (pa_cons (pv 0) pa_nil)))
      (pss_cons (ps_if (PW.pt (pw_or (pt_cmpR op_lt (pe_callB (kk_len K) (by rfl) T.z_len b_len (pa_cons (pv 0) pa_nil)) (pe_globI T.g_FEWEST_SIGNS) (nomark _)) (pw_or1 (pt_cmpR op_gt (pe_callB (kk_len K) (by rfl) T.z_len b_len (pa_cons (pv 0) pa_nil)) (pe_globI T.g_MOST_SIGNS) (nomark _))))) (pss_one (ps_raise rfl (takes_of rfl rfl rfl rfl) (pmk_own PySem.F.excBase_ValueError T.e_NoDivisor.x T.e_NoDivisor.g T.e_NoDivisor.k T.e_NoDivisor.r (by exact rfl)))) pss_nil)
      (pss_one (ps_if (PW.pt (pw_or (pt_cmpR op_eqII (pe_ix (kk_ixl K) (pv 0) pe_int (fun _ _ => rfl)) pe_int (nomark _)) (pw_or1 (pt_cmpR op_eqII (pe_ix (kk_ixl K) (pv 0) (pe_un un_neg pe_int) (fun _ _ => rfl)) pe_int (nomark _))))) (pss_one (ps_raise rfl (takes_of rfl rfl rfl rfl) (pmk_own PySem.F.excBase_ValueError T.e_NoDivisor.x T.e_NoDivisor.g T.e_NoDivisor.k T.e_NoDivisor.r (by exact rfl)))) pss_nil)))), ?_⟩
      exact q_dropC (ea_one (ev_var rfl)) fun H1 e1 => .inr ⟨_, rfl, hb.mono e1, fun H2 e2 => q H2 (e1.trans e2)⟩

theorem red1_at {ds R : List Int} (D : IsDiv ds) (h : RowOf (ds.length - 1) R) {j : Nat} (hj : j < ds.length - 1) : (redR (R ++ [1]) ds).getD j 0 = ((nxt ds R).getD j 0 + if j = ds.length - 2 then 1 else 0) % 2 := by
  have h2 := D.two
  have hl : (R ++ [1]).length = ds.length := by
    rw [List.length_append, h.2]
    show _ + 1 = _
    omega
  have bl : Bits (R ++ [1]) := h.1.append (.one (.inr rfl))
  have st := step_at hl D.head bl D.bits (by omega) (j + 1) (by omega)
  have hh : (R ++ [1]).headD 0 = R.headD 0 := by
    cases R with
    | nil => exact absurd h.2 (by show ¬ 0 = _; omega)
    | cons x r => rfl
  rw [if_pos (by omega), Nat.add_sub_cancel, hh] at st
  rw [nxt_at D h hj]
  have b1 := bit_getD (redR_bits bl D.bits) j
  have b4 := headD_bit h.1
  have b3 := bit_getD D.bits (j + 1)
  by_cases c : j = ds.length - 2
  · have z1 : (R ++ [1]).getD (j + 1) 0 = 1 := by
      rw [List.getD_eq_getElem?_getD, List.getElem?_append_right (by rw [h.2]; omega), h.2, show j + 1 - (ds.length - 1) = 0 by omega]
      rfl
    have z0 : (R ++ [0]).getD (j + 1) 0 = 0 := by
      rw [List.getD_eq_getElem?_getD, List.getElem?_append_right (by rw [h.2]; omega), h.2, show j + 1 - (ds.length - 1) = 0 by omega]
      rfl
    rw [z1] at st
    rw [z0, if_pos c]
    rcases b1 with a | a <;> rcases b3 with c | c <;> rcases b4 with d | d <;> rw [a, c, d] at st <;> rw [a, c, d] <;> first | rfl | exact absurd st (by decide)
  · rw [getD_left (by rw [h.2]; omega)] at st
    rw [getD_left (by rw [h.2]; omega), if_neg c]
    have b2 := bit_getD h.1 (j + 1)
    rcases b1 with a | a <;> rcases b2 with b | b <;> rcases b3 with c | c <;> rcases b4 with d | d <;> rw [a, b, c, d] at st <;> rw [a, b, c, d] <;> first | rfl | exact absurd st (by decide)
theorem red1_row {ds R : List Int} (D : IsDiv ds) (h : RowOf (ds.length - 1) R) : RowOf (ds.length - 1) (redR (R ++ [1]) ds) := by
  have h2 := D.two
  have hl : (R ++ [1]).length = ds.length := by
    rw [List.length_append, h.2]
    show _ + 1 = _
    omega
  exact ⟨redR_bits (h.1.append (.one (.inr rfl))) D.bits, by rw [redR_len hl, hl]⟩
theorem no_yes {w : Nat} {R : List Int} (h : RowOf w R) : ¬ (1 : Int) ∈ R ↔ R = List.replicate w 0 := by
  constructor
  · intro hn
    refine row_ext h ⟨.rep _ (.inl rfl), List.length_replicate⟩ fun j hj => ?_
    rw [zer_getD]
    rcases bit_getD h.1 j with e | e
    · exact e
    · refine absurd ?_ hn
      have hj' : j < R.length := by rw [h.2]; exact hj
      rw [List.getD_eq_getElem?_getD, List.getElem?_eq_getElem hj'] at e
      rw [← (show R[j] = 1 from e)]
      exact List.getElem_mem _
  · intro e hm
    rw [e] at hm
    exact absurd (List.mem_replicate.mp hm).2 (by decide)
theorem red1_zero {ds R : List Int} (D : IsDiv ds) (h : RowOf (ds.length - 1) R) : ¬ (1 : Int) ∈ redR (R ++ [1]) ds ↔ nxt ds R = beg ds := by
  rw [no_yes (red1_row D h)]
  have h2 := D.two
  constructor
  · intro e
    refine row_ext (nxt_row D h) (beg_row D) fun j hj => ?_
    have a := red1_at D h hj
    rw [e, zer_getD] at a
    rw [beg_getD D]
    have b := bit_getD (nxt_row D h).1 j
    split <;> rename_i c
    · rw [if_pos c] at a
      omega
    · rw [if_neg c] at a
      omega
  · intro e
    refine row_ext (red1_row D h) ⟨.rep _ (.inl rfl), List.length_replicate⟩ fun j hj => ?_
    rw [red1_at D h hj, e, beg_getD D, zer_getD]
    split <;> rfl
theorem prun_one {ds : List Int} (D : IsDiv ds) : (prun ds [1]).2 = beg ds := by
  have h2 := D.two
  show redR (List.replicate (ds.length - 1) 0 ++ [1]) ds = beg ds
  unfold redR beg
  rw [show ds.length - 1 = (ds.length - 2) + 1 by omega, List.replicate_succ]
  rfl
def g_reach (cs : Cs) : Sp := fun vs H Q E => ∃ (b : Addr) (ds : List Int), vs = [.ref b] ∧ H b = some (.lst (iv ds)) ∧ Bits ds ∧ (IsDiv ds → RetV (.int (rch ds : Nat)) H Q) ∧ (¬ IsDiv ds → ∀ H', Ex H H' → E (.ref cs.NoDivisor) none H')
def sp_reach (K : PySem.W.Frag) (cs : Cs) : Sp := fun vs H Q E => g_reach cs vs H Q E ∨ ∃ v, vs = [v] ∧ BadR K H v ∧ ∀ H', Ex H H' → E (.ref cs.NoRow) none H'
theorem has_reach (T : Txt K mg cs) : Has P w K mg base 5 "reach" ["divisor"] (sp_reach K cs) := by
  refine T.d_reach.ok sc_reach (fun vs H Q E h => ?_) (fun f cdv A outer s H vs Q E hr h => ?_)
  · rcases h with ⟨b, ds, rfl, _⟩ | ⟨v, rfl, _⟩ <;> rfl
  · rcases h with ⟨b, ds, rfl, hb, bd, q1, q2⟩ | h
    · refine ⟨_, (pss_cons (ps_expr (pe_callH (has_need_gate_divisor T) (hr.mono (by decide)) (passes_call (takes_of rfl rfl rfl rfl) (fun _ _ _ _ h => h)) (pa_cons (pv 0) pa_nil)))
      (pss_cons (ps_set (i := 1) sc_reach.nd rfl (Or.inl rfl) pe_int)
      (pss_cons (ps_asg (pe_callH (has_parted T) (hr.mono (by decide)) (passes_call (takes_of rfl rfl rfl rfl) (fun _ _ _ _ h => h)) (pa_cons (pe_lst (pa_cons pe_int pa_nil)) (pa_cons (pv 0) pa_nil))) (pg_tup rfl (pgs_cons (pg_name (i := 2) sc_reach.nd rfl (Or.inl rfl)) (pgs_cons (pg_name (i := 3) sc_reach.nd rfl (Or.inl rfl)) pgs_nil))))
      (pss_cons (ps_while (passes_of rfl) (pt_cmpR (kk_in K) pe_int (pe_callH (has_reduced T) (hr.mono (by decide)) (passes_call (takes_of rfl rfl rfl rfl) (fun _ _ _ _ h => h)) (pa_cons (pe_op op_cat (pv 3) (pe_lst (pa_cons pe_int pa_nil))) (pa_cons (pv 0) pa_nil))) rfl) (pss_cons (ps_set (i := 3) sc_reach.nd rfl (Or.inl rfl) (pe_callH (has_reduced T) (hr.mono (by decide)) (passes_call (takes_of rfl rfl rfl rfl) (fun _ _ _ _ h => h)) (pa_cons (pe_op op_cat (pv 3) (pe_lst (pa_cons pe_int pa_nil))) (pa_cons (pv 0) pa_nil))))
      (pss_one (ps_aug (i := 1) sc_reach.nd rfl (Or.inl rfl) pe_int ip_add))))
      (pss_one (ps_ret (pv 1))))))), ?_⟩
      refine q_dropC (by walk_at "cg ea") fun H1 e1 => .inl ⟨b, ds, rfl, by walk_at "cg hp", bd, fun D H2 e2 => ?_, fun D H2 e2 => q2 D H2 (e1.trans e2)⟩
      have h2 := D.two
      have ht := D.top
      have I := rch_is D
      refine q_asg ev_c fun H3 e3 => ?_
      refine q_asgG (call_go ((eap_er (er_L (el_oneI (n := 1) ev_c)) (eap_ev (ev_var rfl) eap_nil)) H3 (Ex.refl H3) _ fun vs H4 e4 hv => ?_))
      obtain ⟨p, _, rfl, hp, _, rfl, rfl⟩ := hv
      have c4 : H4 b = some (.lst (iv ds)) := by walk_at "cg hp"
      have e := ((e1.trans e2).trans e3).trans e4
      clear e1 e2 e3 e4
      refine .inl ⟨p, b, [1], ds, rfl, hp, c4, .one (.inr rfl), bd, by decide, by omega, fun _ pt pq pr H5 e5 _ _ _ ht5 _ hr5 => ?_, fun h => absurd D.head h⟩
      rw [prun_one D] at hr5
      refine tup2_go (st_of ht5) ?_
      refine q_while (fun m σ' H' => Ex H H' ∧ ∃ (k : Nat) (p2 : Addr) (v : Option V), k + m = rch ds ∧ 1 ≤ m ∧ σ' = [some (.ref b), some (.int ((k : Int) + 1)), v, some (.ref p2)] ∧ H' p2 = some (.lst (iv (its ds k (beg ds))))) (rch ds) ⟨e.trans e5, 0, pr, _, Nat.zero_add _, I.1.pos, rfl, hr5⟩ ?_
      rintro m σ' H' ⟨e', k, p2, v, hk, hm, rfl, hp2⟩
      have R := its_row D (beg_row D) k
      have cb : H' b = some (.lst (iv ds)) := e' _ _ hb
      have call : ∀ (s : Int) (H1 : Hp), Ex H' H1 → (s = 0 ∨ s = 1) → ∀ {E : XK}, EvL (tCall sp_reduced [] E (tCons (tOp rCat (tVar 3) (tLst (tCons (tC (.int s)) tNil))) (tCons (tVar 0) tNil))) [some (.ref b), some (.int ((k : Int) + 1)), v, some (.ref p2)] H1 (iv (redR (its ds k (beg ds) ++ [s]) ds)) := fun s H1 e1 hs E =>
        el_callP (eap_er (er_L (el_catI (er_var rfl (e1 _ _ hp2)) (er_L (el_oneI ev_c)) (by rw [R.2, List.length_singleton]; omega))) (eap_ev (ev_var rfl) eap_nil)) (by
          rintro vs H2 e2 ⟨p, _, rfl, hp, _, rfl, rfl⟩ Q qq
          have hl : (its ds k (beg ds) ++ [s]).length = ds.length := by
            rw [List.length_append, R.2]
            show _ + 1 = _
            omega
          exact ⟨p, b, _, ds, rfl, hp, e2 _ _ (e1 _ _ cb), R.1.append (.one hs), bd, hl, by omega, by omega, qq⟩)
      refine ⟨_, et_test (ev_inR ev_c (er_L (call 1 H' (Ex.refl H') (.inr rfl)))), fun hc H6 e6 => ?_, fun hc H6 e6 => ?_⟩
      · have hc' : its ds (k + 1) (beg ds) ≠ beg ds := fun z => (red1_zero D R).mpr z (of_decide_eq_true hc)
        have hk1 : k + 1 ≠ rch ds := fun z => hc' (z ▸ I.1.back)
        refine ⟨fun σ2 H2 => Ex H H2 ∧ ∃ (p2 : Addr) (v : Option V), σ2 = [some (.ref b), some (.int (((k + 1 : Nat) : Int) + 1)), v, some (.ref p2)] ∧ H2 p2 = some (.lst (iv (its ds (k + 1) (beg ds)))), fun σ2 H2 ⟨e2, p3, v3, es, h3⟩ => ⟨m - 1, by omega, e2, k + 1, p3, v3, by omega, by omega, es, h3⟩, ?_⟩
        refine q_asgL (call 0 H6 e6 (.inl rfl)) fun p3 H7 n7 e7 h7 => ?_
        refine s_aug (a := (k : Int) + 1) (b := 1) rfl ev_c fun H8 e8 => ⟨((e'.trans e6).trans e7).trans e8, p3, v, ?_, e8 _ _ h7⟩
        show [some (V.ref b), some (.int ((k : Int) + 1 + 1)), v, some (.ref p3)] = _
        rw [show ((k : Int) + 1 + 1) = (((k + 1 : Nat) : Int) + 1) by omega]
      · have hc' : its ds (k + 1) (beg ds) = beg ds := (red1_zero D R).mp (of_decide_eq_false hc)
        have er : rch ds = k + 1 := by
          have b : ¬ k + 1 < rch ds := fun h => I.1.least _ (by omega) h hc'
          omega
        refine s_ret (ev_var rfl) fun H7 e7 => ?_
        have z : (k : Int) + 1 = ((rch ds : Nat) : Int) := by rw [er]; omega
        rw [z]
        exact q1 D _ ((e'.trans e6).trans e7)
    · obtain ⟨v, rfl, hb, q⟩ := h
      refine ⟨_, (pss_cons (ps_expr (pe_callH (has_need_gate_divisor T) (hr.mono (by decide)) (passes_call (takes_of rfl rfl rfl rfl) (fun _ _ _ _ h => h)) (pa_cons (pv 0) pa_nil)))
      (pss_cons (ps_set (i := 1) sc_reach.nd rfl (Or.inl rfl) pe_int)
      (pss_cons (ps_asg (pe_callH (has_parted T) (hr.mono (by decide)) (passes_call (takes_of rfl rfl rfl rfl) (fun _ _ _ _ h => h)) (pa_cons (pe_lst (pa_cons pe_int pa_nil)) (pa_cons (pv 0) pa_nil))) (pg_tup rfl (pgs_cons (pg_name (i := 2) sc_reach.nd rfl (Or.inl rfl)) (pgs_cons (pg_name (i := 3) sc_reach.nd rfl (Or.inl rfl)) pgs_nil))))
      (pss_cons (ps_while (passes_of rfl) (pt_cmpR (kk_in K) pe_int (pe_callH (has_reduced T) (hr.mono (by decide)) (passes_call (takes_of rfl rfl rfl rfl) (fun _ _ _ _ h => h)) (pa_cons (pe_op op_cat (pv 3) (pe_lst (pa_cons pe_int pa_nil))) (pa_cons (pv 0) pa_nil))) rfl) (pss_cons (ps_set (i := 3) sc_reach.nd rfl (Or.inl rfl) (pe_callH (has_reduced T) (hr.mono (by decide)) (passes_call (takes_of rfl rfl rfl rfl) (fun _ _ _ _ h => h)) (pa_cons (pe_op op_cat (pv 3) (pe_lst (pa_cons pe_int pa_nil))) (pa_cons (pv 0) pa_nil))))
      (pss_one (ps_aug (i := 1) sc_reach.nd rfl (Or.inl rfl) pe_int ip_add))))
      (pss_one (ps_ret (pv 1))))))), ?_⟩
      exact q_dropC (ea_one (ev_var rfl)) fun H1 e1 => .inr ⟨_, rfl, hb.mono e1, fun H2 e2 => q H2 (e1.trans e2)⟩


/-! ## rows run through a divisor, from any rest on -/
def restR (ds xs : List Int) : List Int := (prun ds xs).2
def stepR (ds R : List Int) (s : Int) : List Int := redR (R ++ [s]) ds
def runR (ds R xs : List Int) : List Int := xs.foldl (stepR ds) R
theorem runR_append (ds R xs ys : List Int) : runR ds R (xs ++ ys) = runR ds (runR ds R xs) ys := List.foldl_append
theorem runR_snoc (ds R xs : List Int) (s : Int) : runR ds R (xs ++ [s]) = stepR ds (runR ds R xs) s := runR_append ds R xs [s]
theorem restR_run (ds xs : List Int) : restR ds xs = runR ds (zer ds) xs := by
  induction xs using snoc_ind with
  | h0 => rfl
  | h1 xs x ih =>
    rw [runR_snoc, ← ih]
    unfold restR
    rw [prun_snoc]
    rfl
theorem restR_snoc (ds xs : List Int) (s : Int) : restR ds (xs ++ [s]) = stepR ds (restR ds xs) s := by rw [restR_run, restR_run, runR_snoc]
theorem restR_append (ds xs ys : List Int) : restR ds (xs ++ ys) = runR ds (restR ds xs) ys := by rw [restR_run, restR_run, runR_append]
theorem step_row {ds R : List Int} {s : Int} (D : IsDiv ds) (h : RowOf (ds.length - 1) R) (hs : s = 0 ∨ s = 1) : RowOf (ds.length - 1) (stepR ds R s) := by
  have h2 := D.two
  have hl : (R ++ [s]).length = ds.length := by
    rw [List.length_append, h.2]
    show _ + 1 = _
    omega
  exact ⟨redR_bits (h.1.append (.one hs)) D.bits, by unfold stepR; rw [redR_len hl, hl]⟩
theorem run_row {ds : List Int} (D : IsDiv ds) : ∀ {xs R : List Int}, RowOf (ds.length - 1) R → Bits xs → RowOf (ds.length - 1) (runR ds R xs)
  | [], _, h, _ => h
  | x :: xs, _, h, hx => run_row D (xs := xs) (step_row D h (hx x List.mem_cons_self)) fun z k => hx z (List.mem_cons_of_mem _ k)
theorem rest_row {ds xs : List Int} (D : IsDiv ds) (hx : Bits xs) : RowOf (ds.length - 1) (restR ds xs) := by
  rw [restR_run]
  exact run_row D zer_row hx
theorem step_getD {ds R : List Int} {s : Int} (D : IsDiv ds) (h : RowOf (ds.length - 1) R) (hs : s = 0 ∨ s = 1) {j : Nat} (hj : j < ds.length - 1) :
    (stepR ds R s).getD j 0 = ((R ++ [s]).getD (j + 1) 0 + R.headD 0 * ds.getD (j + 1) 0) % 2 := by
  have h2 := D.two
  have hl : (R ++ [s]).length = ds.length := by
    rw [List.length_append, h.2]
    show _ + 1 = _
    omega
  have bl : Bits (R ++ [s]) := h.1.append (.one hs)
  have st := step_at hl D.head bl D.bits (by omega) (j + 1) (by omega)
  have hh : (R ++ [s]).headD 0 = R.headD 0 := by
    cases R with
    | nil => exact absurd h.2 (by show ¬ 0 = _; omega)
    | cons x r => rfl
  rw [if_pos (by omega), Nat.add_sub_cancel, hh] at st
  have b1 := bit_getD (redR_bits bl D.bits) j
  have b2 := bit_getD bl (j + 1)
  have b3 := bit_getD D.bits (j + 1)
  have b4 := headD_bit h.1
  show (redR (R ++ [s]) ds).getD j 0 = _
  rcases b1 with a | a <;> rcases b2 with b | b <;> rcases b3 with c | c <;> rcases b4 with d | d <;> rw [a, b, c, d] at st <;> rw [a, b, c, d] <;> first | rfl | exact absurd st (by decide)
/-! ### sums of rows of one length -/
theorem xor_getD : ∀ {A B : List Int}, Bits A → Bits B → A.length = B.length → ∀ j : Nat, (xorR A B).getD j 0 = (A.getD j 0 + B.getD j 0) % 2
  | [], [], _, _, _, _ => rfl
  | [], _ :: _, _, _, h, _ => nomatch h
  | _ :: _, [], _, _, h, _ => nomatch h
  | a :: A, b :: B, ha, hb, hl, j => by
    cases j with
    | zero => exact xor_bit (ha a List.mem_cons_self) (hb b List.mem_cons_self)
    | succ j => exact xor_getD (A := A) (B := B) ha.tail hb.tail (Nat.succ.inj hl) j
theorem xor_len {A B : List Int} (h : A.length = B.length) : (xorR A B).length = A.length := by
  unfold xorR
  rw [List.length_zipWith, h]
  exact Nat.min_self _
theorem xor_row {w : Nat} {A B : List Int} (h : RowOf w A) (k : RowOf w B) : RowOf w (xorR A B) := ⟨xorR_bits h.1 k.1, by rw [xor_len (h.2.trans k.2.symm), h.2]⟩
theorem xor_append {A B A' B' : List Int} (h : A.length = B.length) : xorR (A ++ A') (B ++ B') = xorR A B ++ xorR A' B' := List.zipWith_append h
theorem xor_rows {w : Nat} {A B C : List Int} (h : RowOf w A) (k : RowOf w B) (l : RowOf w C) (e : ∀ j, j < w → C.getD j 0 = (A.getD j 0 + B.getD j 0) % 2) : xorR A B = C :=
  row_ext (xor_row h k) l fun j hj => by rw [e j hj, xor_getD h.1 k.1 (h.2.trans k.2.symm)]
theorem rep_row (w : Nat) : RowOf w (List.replicate w (0 : Int)) := ⟨.rep _ (.inl rfl), List.length_replicate⟩
theorem xor_zero {w : Nat} {A : List Int} (h : RowOf w A) : xorR A (List.replicate w 0) = A := xor_rows h (rep_row w) h fun j _ => by
  rw [zer_getD]
  have := bit_getD h.1 j
  omega
theorem zero_xor {w : Nat} {A : List Int} (h : RowOf w A) : xorR (List.replicate w 0) A = A := xor_rows (rep_row w) h h fun j _ => by
  rw [zer_getD]
  have := bit_getD h.1 j
  omega
theorem xor_self {w : Nat} {A : List Int} (h : RowOf w A) : xorR A A = List.replicate w 0 := xor_rows h h (rep_row w) fun j _ => by
  rw [zer_getD]
  have := bit_getD h.1 j
  omega
theorem xor_eq_zero {w : Nat} {A B : List Int} (h : RowOf w A) (k : RowOf w B) (e : xorR A B = List.replicate w 0) : A = B := row_ext h k fun j hj => by
  have z := xor_getD h.1 k.1 (h.2.trans k.2.symm) j
  rw [e, zer_getD] at z
  have := bit_getD h.1 j
  have := bit_getD k.1 j
  omega
theorem xor_back {w : Nat} {A B : List Int} (h : RowOf w A) (k : RowOf w B) : xorR (xorR A B) B = A := xor_rows (xor_row h k) k h fun j _ => by
  rw [xor_getD h.1 k.1 (h.2.trans k.2.symm)]
  have := bit_getD h.1 j
  have := bit_getD k.1 j
  omega
theorem bxor_bit {a b : Int} (ha : a = 0 ∨ a = 1) (hb : b = 0 ∨ b = 1) : Builtin.bitXor a b = 0 ∨ Builtin.bitXor a b = 1 := by
  rw [xor_bit ha hb]
  exact bit_mod _
theorem step_xor {ds A B : List Int} {a b : Int} (D : IsDiv ds) (hA : RowOf (ds.length - 1) A) (hB : RowOf (ds.length - 1) B) (ha : a = 0 ∨ a = 1) (hb : b = 0 ∨ b = 1) :
    stepR ds (xorR A B) (Builtin.bitXor a b) = xorR (stepR ds A a) (stepR ds B b) := by
  have hx := xor_row hA hB
  have hl := hA.2.trans hB.2.symm
  have sA := step_row D hA ha
  have sB := step_row D hB hb
  refine row_ext (step_row D hx (bxor_bit ha hb)) (xor_row sA sB) fun j hj => ?_
  rw [step_getD D hx (bxor_bit ha hb) hj, xor_getD sA.1 sB.1 (sA.2.trans sB.2.symm), step_getD D hA ha hj, step_getD D hB hb hj]
  have e : xorR A B ++ [Builtin.bitXor a b] = xorR (A ++ [a]) (B ++ [b]) := (xor_append (A' := [a]) (B' := [b]) hl).symm
  rw [e, xor_getD (hA.1.append (.one ha)) (hB.1.append (.one hb)) (by rw [List.length_append, List.length_append, hl]; rfl), headD_getD, xor_getD hA.1 hB.1 hl, headD_getD, headD_getD]
  have b3 := bit_getD D.bits (j + 1)
  rcases b3 with c | c <;> rw [c] <;> omega
theorem run_xor {ds : List Int} (D : IsDiv ds) : ∀ {xs ys A B : List Int}, RowOf (ds.length - 1) A → RowOf (ds.length - 1) B → xs.length = ys.length → Bits xs → Bits ys → runR ds (xorR A B) (xorR xs ys) = xorR (runR ds A xs) (runR ds B ys)
  | [], [], _, _, _, _, _, _, _ => rfl
  | [], _ :: _, _, _, _, _, h, _, _ => nomatch h
  | _ :: _, [], _, _, _, _, h, _, _ => nomatch h
  | x :: xs, y :: ys, A, B, hA, hB, hl, hx, hy => by
    have bx := hx x List.mem_cons_self
    have by_ := hy y List.mem_cons_self
    show runR ds (stepR ds (xorR A B) (Builtin.bitXor x y)) (xorR xs ys) = xorR (runR ds (stepR ds A x) xs) (runR ds (stepR ds B y) ys)
    rw [step_xor D hA hB bx by_]
    exact run_xor D (step_row D hA bx) (step_row D hB by_) (Nat.succ.inj hl) hx.tail hy.tail
theorem rest_xor {ds xs ys : List Int} (D : IsDiv ds) (hl : xs.length = ys.length) (hx : Bits xs) (hy : Bits ys) : restR ds (xorR xs ys) = xorR (restR ds xs) (restR ds ys) := by
  rw [restR_run, restR_run, restR_run, ← run_xor D zer_row zer_row hl hx hy]
  congr 1
  exact (xor_self zer_row).symm
theorem run_zeros (ds R : List Int) : ∀ n, runR ds R (List.replicate n 0) = its ds n R
  | 0 => rfl
  | n + 1 => by
    rw [List.replicate_succ', runR_snoc, run_zeros ds R n]
    rfl
theorem rest_zeros (ds xs : List Int) (n : Nat) : restR ds (xs ++ List.replicate n 0) = its ds n (restR ds xs) := by rw [restR_append, run_zeros]
/-- a row no longer than the width is its own rest -/
theorem run_small {ds : List Int} (D : IsDiv ds) {xs : List Int} (hl : xs.length ≤ ds.length - 1) : restR ds xs = List.replicate (ds.length - 1 - xs.length) 0 ++ xs := by
  induction xs using snoc_ind with
  | h0 =>
    rw [List.append_nil]
    rfl
  | h1 xs x ih =>
    rw [List.length_append] at hl
    have hl' : xs.length + 1 ≤ ds.length - 1 := hl
    rw [restR_snoc, ih (by omega), List.length_append]
    show redR _ ds = List.replicate (ds.length - 1 - (xs.length + 1)) 0 ++ (xs ++ [x])
    rw [show ds.length - 1 - xs.length = (ds.length - 1 - (xs.length + 1)) + 1 by omega, List.replicate_succ]
    unfold redR
    rw [if_pos (by rfl), List.cons_append, List.cons_append, List.tail_cons, List.append_assoc]
theorem rest_of_row {ds R : List Int} (D : IsDiv ds) (h : RowOf (ds.length - 1) R) : restR ds R = R := by
  rw [run_small D (by rw [h.2]; exact Nat.le_refl _), h.2, Nat.sub_self]
  rfl
theorem rest_later {ds R : List Int} (D : IsDiv ds) (h : RowOf (ds.length - 1) R) (n : Nat) : restR ds (R ++ List.replicate n 0) = its ds n R := by rw [rest_zeros, rest_of_row D h]
/-- behind a rest: what it becomes, and the rest of what follows -/
theorem run_from {ds R xs : List Int} (D : IsDiv ds) (h : RowOf (ds.length - 1) R) (hx : Bits xs) : runR ds R xs = xorR (its ds xs.length R) (restR ds xs) := by
  have e := run_xor D (xs := List.replicate xs.length 0) (ys := xs) h zer_row List.length_replicate (.rep _ (.inl rfl)) hx
  rw [show xorR R (zer ds) = R from xor_zero h, zero_xor ⟨hx, rfl⟩, run_zeros] at e
  rw [e, restR_run]
/-! ### the check -/
def chk (ds xs : List Int) : List Int := its ds (ds.length - 1) (restR ds xs)
theorem chk_row {ds xs : List Int} (D : IsDiv ds) (hx : Bits xs) : RowOf (ds.length - 1) (chk ds xs) := its_row D (rest_row D hx) _
theorem sealed_zero {ds xs : List Int} (D : IsDiv ds) (hx : Bits xs) : restR ds (xs ++ chk ds xs) = zer ds := by
  have C := chk_row D hx
  rw [restR_append, run_from D (rest_row D hx) C.1, C.2, rest_of_row D C]
  exact xor_self C
/-! ### one sign alone, and what is turned -/
def unitR (n p : Nat) : List Int := List.replicate p 0 ++ 1 :: List.replicate (n - 1 - p) 0
theorem unit_row {n p : Nat} (h : p < n) : RowOf n (unitR n p) := by
  refine ⟨(Bits.rep _ (.inl rfl)).append (.cons (.inr rfl) (.rep _ (.inl rfl))), ?_⟩
  unfold unitR
  rw [List.length_append, List.length_replicate, List.length_cons, List.length_replicate]
  omega
theorem step_one {ds : List Int} (D : IsDiv ds) : stepR ds (zer ds) 1 = beg ds := by
  rw [← prun_one D]
  rfl
theorem rest_unit {ds : List Int} (D : IsDiv ds) (n p : Nat) : restR ds (unitR n p) = its ds (n - 1 - p) (beg ds) := by
  unfold unitR
  rw [restR_run, runR_append, run_zeros, its_zer D]
  show runR ds (stepR ds (zer ds) 1) _ = _
  rw [step_one D, run_zeros]
theorem unit_getD {n p : Nat} (h : p < n) (j : Nat) : (unitR n p).getD j 0 = if j = p then 1 else 0 := by
  unfold unitR
  by_cases c : j < p
  · rw [getD_left (by rw [List.length_replicate]; omega), zer_getD, if_neg (by omega)]
  · rw [List.getD_eq_getElem?_getD, List.getElem?_append_right (by rw [List.length_replicate]; omega), List.length_replicate]
    by_cases c2 : j = p
    · subst c2
      rw [Nat.sub_self, if_pos rfl]
      rfl
    · rw [if_neg c2, show j - p = (j - p - 1) + 1 by omega, List.getElem?_cons_succ, ← List.getD_eq_getElem?_getD, zer_getD]
def turnR (xs : List Int) (p : Nat) : List Int := xs.take p ++ [1 - xs.getD p 0] ++ xs.drop (p + 1)
theorem turn_bits {xs : List Int} (h : Bits xs) (p : Nat) : Bits (turnR xs p) := ((h.take _).append (.one (by have := bit_getD h p; omega))).append (h.drop _)
theorem turn_len {xs : List Int} {p : Nat} (h : p < xs.length) : (turnR xs p).length = xs.length := by
  unfold turnR
  rw [List.length_append, List.length_append, List.length_take, List.length_drop, List.length_singleton]
  omega
theorem turn_getD {xs : List Int} {p : Nat} (h : p < xs.length) (j : Nat) : (turnR xs p).getD j 0 = if j = p then 1 - xs.getD p 0 else xs.getD j 0 := by
  unfold turnR
  have lt : (xs.take p).length = p := by rw [List.length_take]; omega
  rw [List.append_assoc]
  by_cases c : j < p
  · rw [getD_left (by omega), if_neg (by omega), List.getD_eq_getElem?_getD, List.getElem?_take, if_pos c, List.getD_eq_getElem?_getD]
  · rw [List.getD_eq_getElem?_getD, List.getElem?_append_right (by omega), lt]
    by_cases c2 : j = p
    · subst c2
      rw [Nat.sub_self, if_pos rfl]
      rfl
    · rw [if_neg c2, show j - p = (j - p - 1) + 1 by omega]
      show (((1 - xs.getD p 0) :: xs.drop (p + 1))[j - p - 1 + 1]?).getD 0 = _
      rw [List.getElem?_cons_succ, List.getElem?_drop, show p + 1 + (j - p - 1) = j by omega, ← List.getD_eq_getElem?_getD]
theorem turn_xor {xs : List Int} {p : Nat} (h : p < xs.length) (b : Bits xs) : turnR xs p = xorR xs (unitR xs.length p) :=
  (xor_rows ⟨b, rfl⟩ (unit_row h) ⟨turn_bits b p, turn_len h⟩ fun j _ => by
    rw [turn_getD h, unit_getD h]
    have := bit_getD b j
    split
    · rename_i e
      subst e
      omega
    · omega).symm
theorem turn_rest {ds xs : List Int} {p : Nat} (D : IsDiv ds) (h : p < xs.length) (b : Bits xs) : restR ds (turnR xs p) = xorR (restR ds xs) (its ds (xs.length - 1 - p) (beg ds)) := by
  rw [turn_xor h b, rest_xor D (unit_row h).2.symm b (unit_row h).1, rest_unit D]
theorem turn_turn {xs : List Int} {p : Nat} (h : p < xs.length) (b : Bits xs) : turnR (turnR xs p) p = xs := by
  rw [turn_xor (by rw [turn_len h]; exact h) (turn_bits b p), turn_len h, turn_xor h b]
  exact xor_back ⟨b, rfl⟩ (unit_row h)
/-- one sign alone leaves a yes, two leave unlike rests -/
theorem its_beg_ne {ds : List Int} (D : IsDiv ds) {p q : Nat} (hp : p < rch ds) (hq : q < rch ds) (e : its ds p (beg ds) = its ds q (beg ds)) : p = q := by
  have key : ∀ {a b : Nat}, a < b → b < rch ds → its ds a (beg ds) ≠ its ds b (beg ds) := fun {a b} hab hb z => by
    have I := (rch_is D).1
    rw [show b = a + (b - a) by omega, its_add] at z
    have z2 := its_inj D (beg_row D) (its_row D (beg_row D) (b - a)) a z
    exact I.least (b - a) (by omega) (by omega) z2.symm
  by_cases c : p < q
  · exact absurd e (key c hq)
  · by_cases c2 : q < p
    · exact absurd e.symm (key c2 hp)
    · omega
/-! ### what comes back when the reach is taken out -/
theorem its_xor {ds A B : List Int} (D : IsDiv ds) (hA : RowOf (ds.length - 1) A) (hB : RowOf (ds.length - 1) B) (n : Nat) : its ds n (xorR A B) = xorR (its ds n A) (its ds n B) := by
  rw [← run_zeros, ← run_zeros, ← run_zeros, ← run_xor D hA hB rfl (.rep _ (.inl rfl)) (.rep _ (.inl rfl))]
  congr 1
  exact (xor_self (rep_row n)).symm
theorem its_rch_run {ds : List Int} (D : IsDiv ds) {xs : List Int} (hx : Bits xs) : its ds (rch ds) (restR ds xs) = restR ds xs := by
  induction xs using snoc_ind with
  | h0 => exact its_zer D _
  | h1 xs x ih =>
    have b1 : Bits xs := fun y hy => hx y (List.mem_append_left _ hy)
    have b2 : x = 0 ∨ x = 1 := hx x (List.mem_append_right _ List.mem_cons_self)
    have R := rest_row D b1
    have nx := nxt_row D R
    have ih' := ih b1
    have com : its ds (rch ds) (nxt ds (restR ds xs)) = nxt ds (restR ds xs) := by
      have a := its_add ds (restR ds xs) 1 (rch ds)
      have b := its_add ds (restR ds xs) (rch ds) 1
      rw [Nat.add_comm, b] at a
      have a' : nxt ds (its ds (rch ds) (restR ds xs)) = its ds (rch ds) (nxt ds (restR ds xs)) := a
      rw [← a', ih']
    have I := (rch_is D).1
    rw [restR_snoc]
    rcases b2 with rfl | rfl
    · exact com
    · have e : stepR ds (restR ds xs) 1 = xorR (nxt ds (restR ds xs)) (beg ds) := by
        have z := step_xor (a := 0) (b := 1) D R zer_row (.inl rfl) (.inr rfl)
        rw [show xorR (restR ds xs) (zer ds) = restR ds xs from xor_zero R, step_one D] at z
        exact z
      rw [e, its_xor D nx (beg_row D), com, I.back]
theorem its_rch {ds R : List Int} (D : IsDiv ds) (h : RowOf (ds.length - 1) R) : its ds (rch ds) R = R := by
  have z := its_rch_run D h.1
  rw [rest_of_row D h] at z
  exact z
theorem its_mod {ds R : List Int} (D : IsDiv ds) (h : RowOf (ds.length - 1) R) (n : Nat) : its ds (n % rch ds) R = its ds n R := by
  have m : ∀ q, its ds (rch ds * q) R = R := fun q => by
    induction q with
    | zero => rfl
    | succ q ih => rw [Nat.mul_succ, its_add, its_rch D h, ih]
  conv => rhs; rw [← Nat.mod_add_div n (rch ds), its_add, m]
/-! ### a stretch -/
theorem stretch_ne {ds : List Int} (D : IsDiv ds) {P : List Int} (hb : Bits P) (hl : P.length ≤ ds.length - 1) (h1 : (1 : Int) ∈ P) (a t : Nat) : restR ds (List.replicate a 0 ++ P ++ List.replicate t 0) ≠ zer ds := by
  rw [rest_zeros, restR_append, restR_run, run_zeros, its_zer D, ← restR_run]
  refine its_ne D (rest_row D hb) (fun e => ?_) t
  rw [run_small D hl] at e
  have : (1 : Int) ∈ zer ds := by
    rw [← e]
    exact List.mem_append_right _ h1
  exact absurd (List.mem_replicate.mp this).2 (by decide)
/-! ### an even number of yes -/
theorem xor_sum : ∀ {A B : List Int}, Bits A → Bits B → A.length = B.length → (xorR A B).sum % 2 = (A.sum + B.sum) % 2
  | [], [], _, _, _ => rfl
  | [], _ :: _, _, _, h => nomatch h
  | _ :: _, [], _, _, h => nomatch h
  | a :: A, b :: B, ha, hb, hl => by
    have ih := xor_sum (A := A) (B := B) ha.tail hb.tail (Nat.succ.inj hl)
    show (Builtin.bitXor a b + (xorR A B).sum) % 2 = (a + A.sum + (b + B.sum)) % 2
    rw [xor_bit (ha a List.mem_cons_self) (hb b List.mem_cons_self)]
    omega
theorem red_sum {L ds : List Int} (hL : Bits L) (hd : Bits ds) (hl : L.length = ds.length) (h0 : ds.headD 0 = 1) (he : ds.sum % 2 = 0) : (redR L ds).sum % 2 = L.sum % 2 := by
  cases L with
  | nil =>
    cases ds with
    | nil => rfl
    | cons d e => cases hl
  | cons l r =>
    cases ds with
    | nil => cases hl
    | cons d e =>
      have d1 : d = 1 := h0
      subst d1
      have he' : (1 + e.sum) % 2 = 0 := he
      unfold redR
      show (if l = 0 then r else xorR r e).sum % 2 = (l + r.sum) % 2
      rcases hL l List.mem_cons_self with rfl | rfl
      · rw [if_pos rfl]
        omega
      · rw [if_neg (by decide), xor_sum (fun z k => hL z (List.mem_cons_of_mem _ k)) (fun z k => hd z (List.mem_cons_of_mem _ k)) (Nat.succ.inj hl)]
        omega
theorem rest_sum {ds : List Int} (D : IsDiv ds) (he : ds.sum % 2 = 0) {xs : List Int} (hx : Bits xs) : (restR ds xs).sum % 2 = xs.sum % 2 := by
  induction xs using snoc_ind with
  | h0 =>
    show (zer ds).sum % 2 = 0
    unfold zer
    generalize ds.length - 1 = n
    induction n with
    | zero => rfl
    | succ n ih =>
      show (0 + (List.replicate n (0 : Int)).sum) % 2 = 0
      omega
  | h1 xs x ih =>
    have b1 : Bits xs := fun y hy => hx y (List.mem_append_left _ hy)
    have b2 : x = 0 ∨ x = 1 := hx x (List.mem_append_right _ List.mem_cons_self)
    have R := rest_row D b1
    have h2 := D.two
    rw [restR_snoc]
    unfold stepR
    rw [red_sum (R.1.append (.one b2)) D.bits (by rw [List.length_append, R.2]; show _ + 1 = _; omega) D.head he, List.sum_append, List.sum_append]
    have := ih b1
    show (_ + (x + 0)) % 2 = (_ + (x + 0)) % 2
    omega
theorem odd_ne {ds xs : List Int} (D : IsDiv ds) (he : ds.sum % 2 = 0) (hx : Bits xs) (ho : xs.sum % 2 = 1) : restR ds xs ≠ zer ds := fun e => by
  have a := rest_sum D he hx
  have b := rest_sum (xs := []) D he .nil
  rw [e] at a
  have b' : (zer ds).sum % 2 = 0 := b
  omega


/-! ## Gate: what stands at its address -/
def gfs (r : Int) (da : Addr) (w : Int) (ev : Bool) : List (Str × V) := putF "even" (.bl ev) (putF "width" (.int w) (putF "divisor" (.ref da) (putF "reach" (.int r) [])))
theorem gfs_no {r : Int} {da : Addr} {w : Int} {ev : Bool} {m : Str} (h1 : ¬ m = "even") (h2 : ¬ m = "width") (h3 : ¬ m = "divisor") (h4 : ¬ m = "reach") : (gfs r da w ev).lookup m = none := by
  unfold gfs
  rw [lookup_putF, if_neg h1, lookup_putF, if_neg h2, lookup_putF, if_neg h3, lookup_putF, if_neg h4]
  rfl
theorem gfs_even {r : Int} {da : Addr} {w : Int} {ev : Bool} : (gfs r da w ev).lookup ("even" : Str) = some (V.bl ev) := by
  unfold gfs
  rw [lookup_putF, if_pos rfl]
theorem gfs_width {r : Int} {da : Addr} {w : Int} {ev : Bool} : (gfs r da w ev).lookup ("width" : Str) = some (V.int w) := by
  unfold gfs
  rw [lookup_putF, if_neg (by decide +kernel), lookup_putF, if_pos rfl]
theorem gfs_divisor {r : Int} {da : Addr} {w : Int} {ev : Bool} : (gfs r da w ev).lookup ("divisor" : Str) = some (V.ref da) := by
  unfold gfs
  rw [lookup_putF, if_neg (by decide +kernel), lookup_putF, if_neg (by decide +kernel), lookup_putF, if_pos rfl]
theorem gfs_reach {r : Int} {da : Addr} {w : Int} {ev : Bool} : (gfs r da w ev).lookup ("reach" : Str) = some (V.int r) := by
  unfold gfs
  rw [lookup_putF, if_neg (by decide +kernel), lookup_putF, if_neg (by decide +kernel), lookup_putF, if_neg (by decide +kernel), lookup_putF, if_pos rfl]
theorem putF_len (f : Str) (v : V) : ∀ fs : List (Str × V), (putF f v fs).length ≤ fs.length + 1
  | [] => Nat.le_refl _
  | (g, x) :: r => by
    show (if g = f then (g, v) :: r else (g, x) :: putF f v r).length ≤ _
    have := putF_len f v r
    split
    · exact Nat.le_succ _
    · rw [List.length_cons, List.length_cons]
      omega
def evenB (ds : List Int) : Bool := decide (((ds.count 1 : Nat) : Int) % 2 = 0)
structure GateAt (cs : Cs) (H : Hp) (g da : Addr) (ds : List Int) : Prop where
  D : IsDiv ds
  ob : ∃ dx, H g = some (.ins cs.Gate dx (gfs (rch ds : Nat) da (ds.length - 1 : Nat) (evenB ds)))
  dv : H da = some (.lst (iv ds))
theorem GateAt.mono {H H' : Hp} {g da : Addr} {ds : List Int} (G : GateAt cs H g da ds) (e : Ex H H') : GateAt cs H' g da ds := ⟨G.D, G.ob.imp fun _ h => e _ _ h, e _ _ G.dv⟩
theorem GateAt.kp {H H' : Hp} {g da l : Addr} {ds : List Int} (G : GateAt cs H g da ds) (k : Kp l H H') (n1 : g ≠ l) (n2 : da ≠ l) : GateAt cs H' g da ds := ⟨G.D, G.ob.imp fun _ h => k _ _ n1 h, k _ _ n2 G.dv⟩
def EvG (cs : Cs) (te : TE) (σ : L2.St) (H : Hp) (ds : List Int) : Prop := ∀ H1, Ex H H1 → ∀ Q : VK, (∀ g da H2, H1 g = none → H1 da = none → Ex H1 H2 → GateAt cs H2 g da ds → Q (.ref g) H2) → te σ H1 Q
theorem upd2_ex {H H' : Hp} {y dy : Addr} {o1 o2 : HO} (ny : H y = none) (nd : H dy = none) (k : Kp y (upd (upd H dy o1) y o2) H') : Ex H H' := fun a o h => by
  have h1 : a ≠ y := ne_of_none h ny
  refine k a o h1 ?_
  rw [upd_ne h1, upd_ne (ne_of_none h nd)]
  exact h
theorem upd2_none {H : Hp} {y dy a : Addr} {o1 o2 : HO} (h : upd (upd H dy o1) y o2 a = none) : H a = none ∧ a ≠ y ∧ a ≠ dy := by
  have h1 : a ≠ y := fun e => by rw [e, upd_same] at h; cases h
  rw [upd_ne h1] at h
  have h2 : a ≠ dy := fun e => by rw [e, upd_same] at h; cases h
  rw [upd_ne h2] at h
  exact ⟨h, h1, h2⟩
theorem upd2_at {H : Hp} {y dy a : Addr} {o o1 o2 : HO} (ny : H y = none) (nd : H dy = none) (h : H a = some o) : upd (upd H dy o1) y o2 a = some o := by
  rw [upd_ne (ne_of_none h ny), upd_ne (ne_of_none h nd)]
  exact h
theorem q_fldW {σ : L2.St} {H : Hp} {ta te : TE} {f : Str} {D : Ends} {tz : TS}
    (h : te σ H fun y H1 => ta σ H1 fun x H2 => ∃ a C dx fs, x = .ref a ∧ H2 a = some (.ins C dx fs) ∧ Cls K C ∧ NoAttr K C f ∧ fs.length < 1000 ∧ tz D σ (upd H2 a (.ins C dx (putF f y fs)))) : tSeq (sFld K ta te f) tz D σ H := h
theorem var_go {σ : L2.St} {H : Hp} {i : Nat} {v : V} {Q : VK} (h : σ[i]? = some (some v)) (k : Q v H) : tVar i σ H Q := ⟨v, h, k⟩
def g_Gate___init__ (cs : Cs) : Sp := fun vs H Q E => ∃ (p dx b : Addr) (ds : List Int), vs = [.ref p, .ref b] ∧ H p = some (.ins cs.Gate dx []) ∧ H b = some (.lst (iv ds)) ∧ Bits ds ∧
  (IsDiv ds → ∀ da H', H da = none → Kp p H H' → GateAt cs H' p da ds → Q .non H') ∧ (¬ IsDiv ds → ∀ H', Ex H H' → E (.ref cs.NoDivisor) none H')
def sp_Gate___init__ (K : PySem.W.Frag) (cs : Cs) : Sp := fun vs H Q E => g_Gate___init__ cs vs H Q E ∨ ∃ (p dx : Addr) (v : V), vs = [.ref p, v] ∧ H p = some (.ins cs.Gate dx []) ∧ BadR K H v ∧ ∀ H', Ex H H' → E (.ref cs.NoRow) none H'
theorem has_Gate___init__ (T : Txt K mg cs) : HasI P w K mg base 6 cs.Gate ["self", "divisor"] (sp_Gate___init__ K cs) := by
  refine T.i_Gate.ok sc_Gate___init__ (fun vs H Q E h => ?_) (fun f cdv A outer s H vs Q E hr h => ?_)
  · rcases h with ⟨p, dx, b, ds, rfl, _⟩ | ⟨p, dx, v, rfl, _⟩ <;> rfl
  · rcases h with ⟨p, dx, b, ds, rfl, hp, hb, bd, q1, q2⟩ | h
    · refine ⟨_, (pss_cons (ps_fld (pv 0) (pe_callH (has_reach T) (hr.mono (by decide)) (passes_call (takes_of rfl rfl rfl rfl) (fun _ _ _ _ h => h)) (pa_cons (pv 1) pa_nil)) rfl)
      (pss_cons (ps_fld (pv 0) (pe_callTy (kk_list K) (by rfl) T.z_list b_list (pa_cons (pv 1) pa_nil)) rfl)
      (pss_cons (ps_fld (pv 0) (pe_op op_sub (pe_callB (kk_len K) (by rfl) T.z_len b_len (pa_cons (pv 1) pa_nil)) pe_int) rfl)
      (pss_one (ps_fld (pv 0) (pe_cmpR op_eqII (pe_op op_mod (pe_bm PySem.F.plainAttrs_list PySem.F.slot_list_count PySem.F.type_list_count (kk_count K) (pv 1) (pa_cons pe_int pa_nil)) pe_int) pe_int (nomark _)) rfl))))), ?_⟩
      have npb : b ≠ p := ne_of hb hp (by intro z; cases z)
      refine q_fldW (call_go (ea_go (by walk_at "cg ea") fun H1 e1 => .inl ⟨b, ds, rfl, e1 _ _ hb, bd, fun D H2 e2 => var_go rfl ⟨p, cs.Gate, dx, [], rfl, e2 _ _ (e1 _ _ hp), T.c_Gate.cl, T.n_Gate_reach, by decide, ?_⟩, fun D H2 e2 => q2 D H2 (e1.trans e2)⟩))
      have k3 : Kp p H (upd H2 p (.ins cs.Gate dx (putF "reach" (.int (rch ds : Nat)) []))) := (Kp.of (e1.trans e2)).trans .upd
      have h3 : (upd H2 p (.ins cs.Gate dx (putF "reach" (.int (rch ds : Nat)) []))) p = some (.ins cs.Gate dx (putF "reach" (.int (rch ds : Nat)) [])) := upd_same
      generalize (upd H2 p (.ins cs.Gate dx (putF "reach" (.int (rch ds : Nat)) []))) = H3 at k3 h3 ⊢
      have b3 : H3 b = some (.lst (iv ds)) := k3 _ _ npb hb
      clear e1 e2
      refine q_fldL (el_listR (er_var rfl b3)) (ev_var rfl) h3 T.c_Gate.cl T.n_Gate_divisor (Nat.lt_of_le_of_lt (putF_len _ _ _) (by show 1 < 1000; decide)) fun da H4 n4 e4 h4 => ?_
      have nda : H da = none := by
        cases hd : H da with
        | none => rfl
        | some o =>
          by_cases c : da = p
          · rw [c, h3] at n4
            cases n4
          · rw [k3 _ _ c hd] at n4
            cases n4
      have ndp : da ≠ p := (ne_of_none h3 n4).symm
      have npd : p ≠ da := fun e => ndp e.symm
      have k5 : Kp p H (upd H4 p (.ins cs.Gate dx (putF "divisor" (.ref da) (putF "reach" (.int (rch ds : Nat)) [])))) := (k3.trans (Kp.of e4)).trans .upd
      have h5 : (upd H4 p (.ins cs.Gate dx (putF "divisor" (.ref da) (putF "reach" (.int (rch ds : Nat)) [])))) p = some (.ins cs.Gate dx (putF "divisor" (.ref da) (putF "reach" (.int (rch ds : Nat)) []))) := upd_same
      have d5 : (upd H4 p (.ins cs.Gate dx (putF "divisor" (.ref da) (putF "reach" (.int (rch ds : Nat)) [])))) da = some (.lst (iv ds)) := by rw [upd_ne ndp]; exact h4
      generalize (upd H4 p (.ins cs.Gate dx (putF "divisor" (.ref da) (putF "reach" (.int (rch ds : Nat)) [])))) = H5 at k5 h5 d5 ⊢
      have b5 : H5 b = some (.lst (iv ds)) := k5 _ _ npb hb
      have two := D.two
      clear k3 b3 e4 h4 h3
      refine q_fld (v := .int ((ds.length - 1 : Nat) : Int)) (ev_is (v := .int ((ds.length : Int) - 1)) (ev_i0 (ev_lenI (er_var rfl b5)) ev_c) (congrArg V.int (by omega))) (ev_var rfl) h5 T.c_Gate.cl T.n_Gate_width (Nat.lt_of_le_of_lt (putF_len _ _ _) (by show 2 < 1000; decide)) fun H6 e6 => ?_
      have k7 : Kp p H (upd H6 p (.ins cs.Gate dx (putF "width" (.int ((ds.length - 1 : Nat) : Int)) (putF "divisor" (.ref da) (putF "reach" (.int (rch ds : Nat)) []))))) := (k5.trans (Kp.of e6)).trans .upd
      have h7 : (upd H6 p (.ins cs.Gate dx (putF "width" (.int ((ds.length - 1 : Nat) : Int)) (putF "divisor" (.ref da) (putF "reach" (.int (rch ds : Nat)) []))))) p = some (.ins cs.Gate dx (putF "width" (.int ((ds.length - 1 : Nat) : Int)) (putF "divisor" (.ref da) (putF "reach" (.int (rch ds : Nat)) [])))) := upd_same
      have d7 : (upd H6 p (.ins cs.Gate dx (putF "width" (.int ((ds.length - 1 : Nat) : Int)) (putF "divisor" (.ref da) (putF "reach" (.int (rch ds : Nat)) []))))) da = some (.lst (iv ds)) := by rw [upd_ne ndp]; exact e6 _ _ d5
      generalize (upd H6 p (.ins cs.Gate dx (putF "width" (.int ((ds.length - 1 : Nat) : Int)) (putF "divisor" (.ref da) (putF "reach" (.int (rch ds : Nat)) []))))) = H7 at k7 h7 d7 ⊢
      have b7 : H7 b = some (.lst (iv ds)) := k7 _ _ npb hb
      clear k5 b5 e6 h5 d5
      refine s_fld (v := .bl (evenB ds)) (ev_is (ev_i0 (ev_mod (ev_count (er_var rfl b7) ev_c) ev_c (by walk_at "cg ar")) ev_c) rfl) (ev_var rfl) h7 T.c_Gate.cl T.n_Gate_even (Nat.lt_of_le_of_lt (putF_len _ _ _) (Nat.lt_of_le_of_lt (Nat.succ_le_succ (putF_len _ _ _)) (by show 3 < 1000; decide))) fun H8 e8 => ?_
      refine q1 D da _ nda ((k7.trans (Kp.of e8)).trans .upd) ⟨D, ⟨dx, upd_same⟩, ?_⟩
      rw [upd_ne ndp]
      exact e8 _ _ d7
    · obtain ⟨p, dx, v, rfl, hp, hb, q⟩ := h
      refine ⟨_, (pss_cons (ps_fld (pv 0) (pe_callH (has_reach T) (hr.mono (by decide)) (passes_call (takes_of rfl rfl rfl rfl) (fun _ _ _ _ h => h)) (pa_cons (pv 1) pa_nil)) rfl)
      (pss_cons (ps_fld (pv 0) (pe_callTy (kk_list K) (by rfl) T.z_list b_list (pa_cons (pv 1) pa_nil)) rfl)
      (pss_cons (ps_fld (pv 0) (pe_op op_sub (pe_callB (kk_len K) (by rfl) T.z_len b_len (pa_cons (pv 1) pa_nil)) pe_int) rfl)
      (pss_one (ps_fld (pv 0) (pe_cmpR op_eqII (pe_op op_mod (pe_bm PySem.F.plainAttrs_list PySem.F.slot_list_count PySem.F.type_list_count (kk_count K) (pv 1) (pa_cons pe_int pa_nil)) pe_int) pe_int (nomark _)) rfl))))), ?_⟩
      exact q_fldW (call_go (ea_go (ea_one (ev_var rfl)) fun H1 e1 => .inr ⟨_, rfl, hb.mono e1, fun H2 e2 => q H2 (e1.trans e2)⟩))

theorem eg_make {E : XK} {σ : L2.St} {H : Hp} {tx : TE} {ds : List Int} (D : IsDiv ds) (h : EvR tx σ H (iv ds)) : EvG cs (tMake cs.Gate (sp_Gate___init__ K cs) [] E (tCons tx tNil)) σ H ds := fun H1 e Q q =>
  h H1 e _ fun b H2 e2 h2 => fun y dy ny nd ne => .inl ⟨y, dy, b, ds, rfl, upd_same, upd2_at ny nd h2, D.bits, fun D da H' nda k G =>
    ⟨rfl, q y da H' (fresh_back e2 ny) (fresh_back e2 (upd2_none nda).1) (e2.trans (upd2_ex ny nd k)) G⟩, fun n => absurd D n⟩


/-! ## Gate.rest -/
theorem gfs_rest {r : Int} {da : Addr} {w : Int} {ev : Bool} : (gfs r da w ev).lookup ("rest" : Str) = none := gfs_no (by decide +kernel) (by decide +kernel) (by decide +kernel) (by decide +kernel)
def g_Gate_rest (cs : Cs) : Sp := fun vs H Q _ => ∃ (g da a : Addr) (ds xs : List Int), vs = [.ref g, .ref a] ∧ GateAt cs H g da ds ∧ H a = some (.lst (iv xs)) ∧ Bits xs ∧ xs.length ≤ 10000 ∧ RetL (iv (restR ds xs)) H Q
def sp_Gate_rest (K : PySem.W.Frag) (cs : Cs) : Sp := fun vs H Q E => g_Gate_rest cs vs H Q E ∨ ∃ (g da : Addr) (v : V) (ds : List Int), vs = [.ref g, v] ∧ GateAt cs H g da ds ∧ BadR K H v ∧ ∀ H', Ex H H' → E (.ref cs.NoRow) none H'
theorem has_Gate_rest (T : Txt K mg cs) : HasM P w K mg base 5 cs.Gate "rest" ["self", "row"] (sp_Gate_rest K cs) := by
  refine T.m_Gate_rest.ok sc_Gate_rest (fun vs H Q E h => ?_) (fun f cdv A outer s H vs Q E hr h => ?_)
  · rcases h with ⟨g, da, a, ds, xs, rfl, _⟩ | ⟨g, da, v, ds, rfl, _⟩ <;> rfl
  · rcases h with ⟨g, da, a, ds, xs, rfl, G, ha, bx, lx, q⟩ | h
    · refine ⟨_, (pss_cons (ps_asg (pe_callH (has_parted T) (hr.mono (by decide)) (passes_call (takes_of rfl rfl rfl rfl) (fun _ _ _ _ h => h)) (pa_cons (pv 1) (pa_cons (pe_fld (pv 0) rfl) pa_nil))) (pg_tup rfl (pgs_cons (pg_name (i := 2) sc_Gate_rest.nd rfl (Or.inl rfl)) (pgs_cons (pg_name (i := 3) sc_Gate_rest.nd rfl (Or.inl rfl)) pgs_nil))))
      (pss_one (ps_ret (pv 3)))), ?_⟩
      obtain ⟨dx, ho⟩ := G.ob
      have top := G.D.top
      refine q_asgG (call_go (ea_go (vs := [.ref a, .ref da]) (ea_cons (ev_var rfl) (ea_one (ev_fld (ev_var rfl) ho T.c_Gate.cl T.n_Gate_divisor gfs_divisor))) fun H1 e1 => ?_))
      refine .inl ⟨a, da, xs, ds, rfl, e1 _ _ ha, e1 _ _ G.dv, bx, G.D.bits, lx, by omega, fun _ pt pq pr H2 e2 _ nr _ ht _ hR => ?_, fun h => absurd G.D.head h⟩
      refine tup2_go (st_of ht) ?_
      exact s_ret (ev_var rfl) fun H3 e3 => q pr H3 (fresh_back e1 nr) ((e1.trans e2).trans e3) (e3 _ _ hR)
    · obtain ⟨g, da, v, ds, rfl, G, hb, q⟩ := h
      refine ⟨_, (pss_cons (ps_asg (pe_callH (has_parted T) (hr.mono (by decide)) (passes_call (takes_of rfl rfl rfl rfl) (fun _ _ _ _ h => h)) (pa_cons (pv 1) (pa_cons (pe_fld (pv 0) rfl) pa_nil))) (pg_tup rfl (pgs_cons (pg_name (i := 2) sc_Gate_rest.nd rfl (Or.inl rfl)) (pgs_cons (pg_name (i := 3) sc_Gate_rest.nd rfl (Or.inl rfl)) pgs_nil))))
      (pss_one (ps_ret (pv 3)))), ?_⟩
      obtain ⟨dx, ho⟩ := G.ob
      refine q_asgG (call_go (ea_go (ea_two (ev_var rfl) (ev_fld (ev_var rfl) ho T.c_Gate.cl T.n_Gate_divisor gfs_divisor)) fun H1 e1 => ?_))
      exact .inr ⟨_, _, rfl, .inl (hb.mono e1), fun H2 e2 => q H2 (e1.trans e2)⟩

theorem el_rest {E : XK} {σ : L2.St} {H : Hp} {ta te : TE} {g da : Addr} {ds xs : List Int} (ha : Ev ta σ H (.ref g)) (G : GateAt cs H g da ds) (h : EvR te σ H (iv xs)) (bx : Bits xs) (lx : xs.length ≤ 10000) : EvL (tMeth cs.Gate "rest" (sp_Gate_rest K cs) [] E ta (tCons te tNil)) σ H (iv (restR ds xs)) := by
  obtain ⟨dx, ho⟩ := G.ob
  refine el_meth ha ho gfs_rest (eap_er h eap_nil) fun vs H1 e1 hv Q q => ?_
  obtain ⟨p, _, rfl, hp, rfl⟩ := hv
  exact .inl ⟨g, da, p, ds, xs, rfl, G.mono e1, hp, bx, lx, q⟩


/-! ## Gate.holds -/
def zeroB (ds xs : List Int) : Bool := !decide ((1 : Int) ∈ restR ds xs)
theorem zeroB_iff {ds xs : List Int} (D : IsDiv ds) (hx : Bits xs) : zeroB ds xs = true ↔ restR ds xs = zer ds := by
  have z := no_yes (rest_row D hx)
  unfold zeroB
  rw [Bool.not_eq_true', decide_eq_false_iff_not]
  exact z
theorem zeroB_no {ds xs : List Int} (D : IsDiv ds) (hx : Bits xs) (h : restR ds xs ≠ zer ds) : zeroB ds xs = false := by
  cases e : zeroB ds xs with
  | false => rfl
  | true => exact absurd ((zeroB_iff D hx).mp e) h
theorem zeroB_yes {ds xs : List Int} (D : IsDiv ds) (hx : Bits xs) (h : restR ds xs = zer ds) : zeroB ds xs = true := (zeroB_iff D hx).mpr h
theorem gfs_holds {r : Int} {da : Addr} {w : Int} {ev : Bool} : (gfs r da w ev).lookup ("holds" : Str) = none := gfs_no (by decide +kernel) (by decide +kernel) (by decide +kernel) (by decide +kernel)
def g_Gate_holds (cs : Cs) : Sp := fun vs H Q E => ∃ (g da a : Addr) (ds xs : List Int), vs = [.ref g, .ref a] ∧ GateAt cs H g da ds ∧ H a = some (.lst (iv xs)) ∧ Bits xs ∧ xs.length ≤ 9000 ∧
  (xs.length < ds.length - 1 → ∀ H', Ex H H' → E (.ref cs.TooShort) none H') ∧ (rch ds < xs.length → ∀ H', Ex H H' → E (.ref cs.TooLong) none H') ∧ (ds.length - 1 ≤ xs.length → xs.length ≤ rch ds → RetV (.bl (zeroB ds xs)) H Q)
def sp_Gate_holds (K : PySem.W.Frag) (cs : Cs) : Sp := fun vs H Q E => g_Gate_holds cs vs H Q E ∨ ∃ (g da : Addr) (v : V) (ds : List Int), vs = [.ref g, v] ∧ GateAt cs H g da ds ∧ BadR K H v ∧ ∀ H', Ex H H' → E (.ref cs.NoRow) none H'
theorem has_Gate_holds (T : Txt K mg cs) : HasM P w K mg base 6 cs.Gate "holds" ["self", "row"] (sp_Gate_holds K cs) := by
  refine T.m_Gate_holds.ok sc_Gate_holds (fun vs H Q E h => ?_) (fun f cdv A outer s H vs Q E hr h => ?_)
  · rcases h with ⟨g, da, a, ds, xs, rfl, _⟩ | ⟨g, da, v, ds, rfl, _⟩ <;> rfl
  · rcases h with ⟨g, da, a, ds, xs, rfl, G, ha, bx, lx, q1, q2, q3⟩ | h
    · refine ⟨_, (pss_cons (ps_expr (pe_callH (has_need_row T) (hr.mono (by decide)) (passes_call (takes_of rfl rfl rfl rfl) (fun _ _ _ _ h => h)) (pa_cons (pv 1) pa_nil)))
      (pss_cons (ps_if (pt_cmpR op_lt (pe_callB (kk_len K) (by rfl) T.z_len b_len (pa_cons (pv 1) pa_nil)) (pe_fld (pv 0) rfl) (nomark _)) (pss_one (ps_raise rfl (takes_of rfl rfl rfl rfl) (pmk_own PySem.F.excBase_ValueError T.e_TooShort.x T.e_TooShort.g T.e_TooShort.k T.e_TooShort.r (by exact rfl)))) pss_nil)
      (pss_cons (ps_if (pt_cmpR op_gt (pe_callB (kk_len K) (by rfl) T.z_len b_len (pa_cons (pv 1) pa_nil)) (pe_fld (pv 0) rfl) (nomark _)) (pss_one (ps_raise rfl (takes_of rfl rfl rfl rfl) (pmk_own PySem.F.excBase_ValueError T.e_TooLong.x T.e_TooLong.g T.e_TooLong.k T.e_TooLong.r (by exact rfl)))) pss_nil)
      (pss_one (ps_ret (pe_cmpR (kk_ni K) pe_int (pe_methH (pv 0) T.c_Gate.cl (has_Gate_rest T) (hr.mono (by decide)) (passes_call (takes_of rfl rfl rfl rfl) (fun _ _ _ _ h => h)) (pa_cons (pv 1) pa_nil)) rfl)))))), ?_⟩
      have iw := rch_wide G.D
      refine q_dropC (by walk_at "cg ea") fun H1 e1 => .inl ⟨a, xs, rfl, e1 _ _ ha, bx, fun H2 e2 => ?_⟩
      have e := e1.trans e2
      have a2 : H2 a = some (.lst (iv xs)) := e _ _ ha
      have G2 := G.mono e
      obtain ⟨dx, ho⟩ := G2.ob
      clear e1 e2
      refine q_when (et_test (ev_i0 (ev_lenI (er_var rfl a2)) (ev_fld (ev_var rfl) ho T.c_Gate.cl T.n_Gate_width gfs_width))) (fun hc H3 e3 => ?_) (fun hc H3 e3 => ?_)
      · have hc' := of_decide_eq_true hc
        exact q1 (by omega) H3 (e.trans e3)
      · have hc' := of_decide_eq_false hc
        refine q_when (et_test (ev_i0 (ev_lenI (er_var rfl (e3 _ _ a2))) (ev_fld (ev_var rfl) (e3 _ _ ho) T.c_Gate.cl T.n_Gate_reach gfs_reach))) (fun hc2 H4 e4 => ?_) (fun hc2 H4 e4 => ?_)
        · have hc2' := of_decide_eq_true hc2
          exact q2 (by omega) H4 ((e.trans e3).trans e4)
        · have hc2' := of_decide_eq_false hc2
          exact s_ret (ev_niR ev_c (er_L (el_rest (ev_var rfl) ((G2.mono e3).mono e4) (er_var rfl (e4 _ _ (e3 _ _ a2))) bx (by omega)))) fun H5 e5 => q3 (by omega) (by omega) H5 (((e.trans e3).trans e4).trans e5)
    · obtain ⟨g, da, v, ds, rfl, G, hb, q⟩ := h
      refine ⟨_, (pss_cons (ps_expr (pe_callH (has_need_row T) (hr.mono (by decide)) (passes_call (takes_of rfl rfl rfl rfl) (fun _ _ _ _ h => h)) (pa_cons (pv 1) pa_nil)))
      (pss_cons (ps_if (pt_cmpR op_lt (pe_callB (kk_len K) (by rfl) T.z_len b_len (pa_cons (pv 1) pa_nil)) (pe_fld (pv 0) rfl) (nomark _)) (pss_one (ps_raise rfl (takes_of rfl rfl rfl rfl) (pmk_own PySem.F.excBase_ValueError T.e_TooShort.x T.e_TooShort.g T.e_TooShort.k T.e_TooShort.r (by exact rfl)))) pss_nil)
      (pss_cons (ps_if (pt_cmpR op_gt (pe_callB (kk_len K) (by rfl) T.z_len b_len (pa_cons (pv 1) pa_nil)) (pe_fld (pv 0) rfl) (nomark _)) (pss_one (ps_raise rfl (takes_of rfl rfl rfl rfl) (pmk_own PySem.F.excBase_ValueError T.e_TooLong.x T.e_TooLong.g T.e_TooLong.k T.e_TooLong.r (by exact rfl)))) pss_nil)
      (pss_one (ps_ret (pe_cmpR (kk_ni K) pe_int (pe_methH (pv 0) T.c_Gate.cl (has_Gate_rest T) (hr.mono (by decide)) (passes_call (takes_of rfl rfl rfl rfl) (fun _ _ _ _ h => h)) (pa_cons (pv 1) pa_nil)) rfl)))))), ?_⟩
      exact q_dropC (ea_one (ev_var rfl)) fun H1 e1 => .inr ⟨_, rfl, hb.mono e1, fun H2 e2 => q H2 (e1.trans e2)⟩

theorem ev_holds {E : XK} {σ : L2.St} {H : Hp} {ta te : TE} {g da : Addr} {ds xs : List Int} (ha : Ev ta σ H (.ref g)) (G : GateAt cs H g da ds) (h : EvR te σ H (iv xs)) (bx : Bits xs) (l1 : ds.length - 1 ≤ xs.length) (l2 : xs.length ≤ rch ds) : Ev (tMeth cs.Gate "holds" (sp_Gate_holds K cs) [] E ta (tCons te tNil)) σ H (.bl (zeroB ds xs)) := by
  obtain ⟨dx, ho⟩ := G.ob
  have it := rch_top G.D
  refine ev_meth ha ho gfs_holds (eap_er h eap_nil) fun vs H1 e1 hv Q q => ?_
  obtain ⟨p, _, rfl, hp, rfl⟩ := hv
  exact .inl ⟨g, da, p, ds, xs, rfl, G.mono e1, hp, bx, by omega, fun h => by omega, fun h => by omega, fun _ _ => q⟩


/-! ## Gate.opened -/
theorem gfs_opened {r : Int} {da : Addr} {w : Int} {ev : Bool} : (gfs r da w ev).lookup ("opened" : Str) = none := gfs_no (by decide +kernel) (by decide +kernel) (by decide +kernel) (by decide +kernel)
def g_Gate_opened (cs : Cs) : Sp := fun vs H Q E => ∃ (g da a : Addr) (ds xs : List Int), vs = [.ref g, .ref a] ∧ GateAt cs H g da ds ∧ H a = some (.lst (iv xs)) ∧ Bits xs ∧ xs.length ≤ 9000 ∧
  (xs.length < ds.length - 1 → ∀ H', Ex H H' → E (.ref cs.TooShort) none H') ∧ (rch ds < xs.length → ∀ H', Ex H H' → E (.ref cs.TooLong) none H') ∧
  (ds.length - 1 ≤ xs.length → xs.length ≤ rch ds → (zeroB ds xs = true → RetL (iv (xs.take (xs.length - (ds.length - 1)))) H Q) ∧ (zeroB ds xs = false → ∀ H', Ex H H' → E (.ref cs.Broken) none H'))
def sp_Gate_opened (K : PySem.W.Frag) (cs : Cs) : Sp := fun vs H Q E => g_Gate_opened cs vs H Q E ∨ ∃ (g da : Addr) (v : V) (ds : List Int), vs = [.ref g, v] ∧ GateAt cs H g da ds ∧ BadR K H v ∧ ∀ H', Ex H H' → E (.ref cs.NoRow) none H'
theorem has_Gate_opened (T : Txt K mg cs) : HasM P w K mg base 7 cs.Gate "opened" ["self", "row"] (sp_Gate_opened K cs) := by
  refine T.m_Gate_opened.ok sc_Gate_opened (fun vs H Q E h => ?_) (fun f cdv A outer s H vs Q E hr h => ?_)
  · rcases h with ⟨g, da, a, ds, xs, rfl, _⟩ | ⟨g, da, v, ds, rfl, _⟩ <;> rfl
  · rcases h with ⟨g, da, a, ds, xs, rfl, G, ha, bx, lx, q1, q2, q3⟩ | h
    · refine ⟨_, (pss_cons (ps_if (pt_not (pt_val (pe_methH (pv 0) T.c_Gate.cl (has_Gate_holds T) (hr.mono (by decide)) (passes_call (takes_of rfl rfl rfl rfl) (fun _ _ _ _ h => h)) (pa_cons (pv 1) pa_nil)))) (pss_one (ps_raise rfl (takes_of rfl rfl rfl rfl) (pmk_own PySem.F.excBase_ValueError T.e_Broken.x T.e_Broken.g T.e_Broken.k T.e_Broken.r (by exact rfl)))) pss_nil)
      (pss_one (ps_ret (pe_slice (kk_sl K) (pv 1) po_none (po_some (pe_op op_sub (pe_callB (kk_len K) (by rfl) T.z_len b_len (pa_cons (pv 1) pa_nil)) (pe_fld (pv 0) rfl))))))), ?_⟩
      obtain ⟨dx, ho⟩ := G.ob
      refine q_ifW ?_
      refine nb_go ?_
      refine meth_go (ev_var rfl) ho gfs_holds fun H1 e1 => ?_
      refine ea_go (vs := [.ref a]) (by walk_at "cg ea") fun H2 e2 => ?_
      have e := e1.trans e2
      have G2 := G.mono e
      have a2 := e _ _ ha
      have ho2 := e _ _ ho
      clear e1 e2
      refine .inl ⟨g, da, a, ds, xs, rfl, G2, a2, bx, lx, fun h H3 e3 => q1 h H3 (e.trans e3), fun h H3 e3 => q2 h H3 (e.trans e3), fun h1 h2 H3 e3 => ⟨zeroB ds xs, rfl, ?_⟩⟩
      obtain ⟨q4, q5⟩ := q3 h1 h2
      cases hz : zeroB ds xs with
      | false => exact if_yes (q5 hz H3 (e.trans e3))
      | true =>
        refine if_no ?_
        dsimp only
        refine s_retL (xs := iv (xs.take (xs.length - (ds.length - 1)))) (el_is (el_slToI (n := (xs.length : Int) - ((ds.length - 1 : Nat) : Int)) (er_var rfl (e3 _ _ a2)) (ev_i0 (ev_lenI (er_var rfl (e3 _ _ a2))) (ev_fld (ev_var rfl) (e3 _ _ ho2) T.c_Gate.cl T.n_Gate_width gfs_width)) (by omega)) ?_) fun p H4 n4 e4 h4 => q4 hz p H4 (fresh_back (e.trans e3) n4) ((e.trans e3).trans e4) h4
        congr 2
        omega
    · obtain ⟨g, da, v, ds, rfl, G, hb, q⟩ := h
      refine ⟨_, (pss_cons (ps_if (pt_not (pt_val (pe_methH (pv 0) T.c_Gate.cl (has_Gate_holds T) (hr.mono (by decide)) (passes_call (takes_of rfl rfl rfl rfl) (fun _ _ _ _ h => h)) (pa_cons (pv 1) pa_nil)))) (pss_one (ps_raise rfl (takes_of rfl rfl rfl rfl) (pmk_own PySem.F.excBase_ValueError T.e_Broken.x T.e_Broken.g T.e_Broken.k T.e_Broken.r (by exact rfl)))) pss_nil)
      (pss_one (ps_ret (pe_slice (kk_sl K) (pv 1) po_none (po_some (pe_op op_sub (pe_callB (kk_len K) (by rfl) T.z_len b_len (pa_cons (pv 1) pa_nil)) (pe_fld (pv 0) rfl))))))), ?_⟩
      obtain ⟨dx, ho⟩ := G.ob
      refine q_ifW ?_
      refine nb_go ?_
      refine meth_go (ev_var rfl) ho gfs_holds fun H1 e1 => ?_
      refine ea_go (ea_one (ev_var rfl)) fun H2 e2 => ?_
      exact .inr ⟨g, da, v, ds, rfl, (G.mono e1).mono e2, (hb.mono e1).mono e2, fun H3 e3 => q H3 ((e1.trans e2).trans e3)⟩

theorem el_opened {E : XK} {σ : L2.St} {H : Hp} {ta te : TE} {g da : Addr} {ds xs : List Int} (ha : Ev ta σ H (.ref g)) (G : GateAt cs H g da ds) (h : EvR te σ H (iv xs)) (bx : Bits xs) (l1 : ds.length - 1 ≤ xs.length) (l2 : xs.length ≤ rch ds) (hz : zeroB ds xs = true) : EvL (tMeth cs.Gate "opened" (sp_Gate_opened K cs) [] E ta (tCons te tNil)) σ H (iv (xs.take (xs.length - (ds.length - 1)))) := by
  obtain ⟨dx, ho⟩ := G.ob
  have it := rch_top G.D
  refine el_meth ha ho gfs_opened (eap_er h eap_nil) fun vs H1 e1 hv Q q => ?_
  obtain ⟨p, _, rfl, hp, rfl⟩ := hv
  exact .inl ⟨g, da, p, ds, xs, rfl, G.mono e1, hp, bx, by omega, fun h => by omega, fun h => by omega, fun _ _ => ⟨fun _ => q, fun z => by rw [hz] at z; cases z⟩⟩


/-! ## a row with one sign turned, as it is written -/
theorem el_turn {σ : L2.St} {H : Hp} {i j : Nat} {a : Addr} {xs : List Int} {p : Nat} (hi : σ[i]? = some (some (.ref a))) (hj : σ[j]? = some (some (.int (p : Int)))) (ha : H a = some (.lst (iv xs))) (hp : p < xs.length) (lx : xs.length ≤ 10000) :
    EvL (tOp rCat (tOp rCat (tSl (rSlL K) (tVar i) tNoPart (tPart (tVar j))) (tLst (tCons (tOp (rI0 fun i j => .int (i - j)) (tC (.int 1)) (tOp (rIxL K) (tVar i) (tVar j))) tNil))) (tSl (rSlL K) (tVar i) (tPart (tOp (rI0 fun i j => .int (i + j)) (tVar j) (tC (.int 1)))) tNoPart)) σ H (iv (turnR xs p)) := by
  have g : xs[p]? = some (xs.getD p 0) := by rw [List.getD_eq_getElem?_getD, List.getElem?_eq_getElem hp]; rfl
  have e1 : ((p : Int)).toNat = p := Int.toNat_natCast p
  have e2 : ((p : Int) + 1).toNat = p + 1 := by omega
  refine el_is (el_catI (xs := xs.take (p : Int).toNat ++ [1 - xs.getD p 0]) (ys := xs.drop ((p : Int) + 1).toNat) (er_L (el_catI (er_L (el_slToI (er_var hi ha) (ev_var hj) (by omega))) (er_L (el_oneI (ev_i0 ev_c (ev_ixI (er_var hi ha) (ev_var hj) (atI_nat g))))) (by rw [List.length_take]; show _ + 1 ≤ _; omega))) (er_L (el_slFromI (er_var hi ha) (ev_i0 (ev_var hj) ev_c) (by omega))) (by rw [List.length_append, List.length_take, List.length_drop]; show _ + 1 + _ ≤ _; omega)) ?_
  rw [e1, e2]
  rfl


/-! ## turned, Gate.mended -/
def sp_turned : Sp := fun vs H Q _ => ∃ (a : Addr) (xs : List Int) (p : Nat), vs = [.ref a, .int (p : Int)] ∧ H a = some (.lst (iv xs)) ∧ p < xs.length ∧ xs.length ≤ 10000 ∧ RetL (iv (turnR xs p)) H Q
theorem has_turned (T : Txt K mg cs) : Has P w K mg base 1 "turned" ["row", "place"] sp_turned := by
  refine T.d_turned.ok sc_turned (fun vs H Q E h => ?_) (fun f cdv A outer s H vs Q E hr h => ?_)
  · obtain ⟨a, xs, p, rfl, _⟩ := h
    rfl
  · obtain ⟨a, xs, p, rfl, ha, hp, lx, q⟩ := h
    refine ⟨_, (pss_one (ps_ret (pe_op op_cat (pe_op op_cat (pe_slice (kk_sl K) (pv 0) po_none (po_some (pv 1))) (pe_lst (pa_cons (pe_op op_sub pe_int (pe_ix (kk_ixl K) (pv 0) (pv 1) (fun _ _ => rfl))) pa_nil))) (pe_slice (kk_sl K) (pv 0) (po_some (pe_op op_add (pv 1) pe_int)) po_none)))), ?_⟩
    exact s_retL (el_turn rfl rfl ha hp lx) fun l H1 n1 e1 h1 => q l H1 n1 e1 h1
def scanR (ds W : List Int) : Nat → Nat → Option Nat
  | 0, _ => none
  | m + 1, k => if its ds k (beg ds) = W then some k else scanR ds W m (k + 1)
theorem scan_succ (ds W : List Int) (m k : Nat) : scanR ds W (m + 1) k = if its ds k (beg ds) = W then some k else scanR ds W m (k + 1) := rfl
noncomputable def mendR (ds xs : List Int) : Option (List Int) := if zeroB ds xs = true then some xs else (scanR ds (restR ds xs) xs.length 0).map fun k => turnR xs (xs.length - 1 - k)
theorem scan_some {ds W : List Int} : ∀ {m k j : Nat}, scanR ds W m k = some j → its ds j (beg ds) = W ∧ k ≤ j ∧ j < k + m
  | 0, _, _, h => nomatch h
  | m + 1, k, j, h => by
    unfold scanR at h
    split at h
    · rename_i c
      cases h
      exact ⟨c, Nat.le_refl _, by omega⟩
    · have := scan_some (m := m) h
      exact ⟨this.1, by omega, by omega⟩
theorem scan_find {ds W : List Int} (D : IsDiv ds) {p : Nat} (hp : its ds p (beg ds) = W) : ∀ {m k : Nat}, k ≤ p → p < k + m → k + m ≤ rch ds → scanR ds W m k = some p
  | 0, _, h1, h2, _ => by omega
  | m + 1, k, h1, h2, h3 => by
    unfold scanR
    split
    · rename_i c
      rw [its_beg_ne D (by omega) (by omega) (c.trans hp.symm)]
    · rename_i c
      have : k ≠ p := fun e => c (e ▸ hp)
      exact scan_find D hp (by omega) (by omega) (by omega)
theorem mend_self {ds xs : List Int} (h : zeroB ds xs = true) : mendR ds xs = some xs := by
  unfold mendR
  rw [if_pos h]
theorem mend_turn {ds S : List Int} (D : IsDiv ds) (bS : Bits S) (zS : restR ds S = zer ds) (hl : S.length ≤ rch ds) {p : Nat} (hp : p < S.length) : mendR ds (turnR S p) = some S := by
  have r : restR ds (turnR S p) = its ds (S.length - 1 - p) (beg ds) := by
    rw [turn_rest D hp bS, zS]
    exact zero_xor (its_row D (beg_row D) _)
  have z : zeroB ds (turnR S p) = false := zeroB_no D (turn_bits bS p) (by rw [r]; exact its_ne D (beg_row D) (beg_ne D) _)
  unfold mendR
  rw [z, if_neg (by decide), turn_len hp, r, scan_find D rfl (by omega) (by omega) (by omega)]
  show some (turnR (turnR S p) (S.length - 1 - (S.length - 1 - p))) = some S
  rw [show S.length - 1 - (S.length - 1 - p) = p by omega, turn_turn hp bS]
theorem mend_zero {ds xs zs : List Int} (D : IsDiv ds) (bx : Bits xs) (h : mendR ds xs = some zs) : restR ds zs = zer ds ∧ Bits zs ∧ zs.length = xs.length := by
  unfold mendR at h
  split at h
  · rename_i c
    cases h
    exact ⟨(zeroB_iff D bx).mp c, bx, rfl⟩
  · cases hs : scanR ds (restR ds xs) xs.length 0 with
    | none => rw [hs] at h; cases h
    | some k =>
      rw [hs] at h
      cases h
      obtain ⟨a, _, b⟩ := scan_some hs
      have hp : xs.length - 1 - k < xs.length := by omega
      refine ⟨?_, turn_bits bx _, turn_len hp⟩
      rw [turn_rest D hp bx, show xs.length - 1 - (xs.length - 1 - k) = k by omega, ← a]
      exact xor_self (its_row D (beg_row D) k)
theorem gfs_mended {r : Int} {da : Addr} {w : Int} {ev : Bool} : (gfs r da w ev).lookup ("mended" : Str) = none := gfs_no (by decide +kernel) (by decide +kernel) (by decide +kernel) (by decide +kernel)
def g_Gate_mended (cs : Cs) : Sp := fun vs H Q E => ∃ (g da a : Addr) (ds xs : List Int), vs = [.ref g, .ref a] ∧ GateAt cs H g da ds ∧ H a = some (.lst (iv xs)) ∧ Bits xs ∧ xs.length ≤ 9000 ∧
  (xs.length < ds.length - 1 → ∀ H', Ex H H' → E (.ref cs.TooShort) none H') ∧ (rch ds < xs.length → ∀ H', Ex H H' → E (.ref cs.TooLong) none H') ∧
  (ds.length - 1 ≤ xs.length → xs.length ≤ rch ds → (∀ zs, mendR ds xs = some zs → RetL (iv zs) H Q) ∧ (mendR ds xs = none → ∀ H', Ex H H' → E (.ref cs.Broken) none H'))
def sp_Gate_mended (K : PySem.W.Frag) (cs : Cs) : Sp := fun vs H Q E => g_Gate_mended cs vs H Q E ∨ ∃ (g da : Addr) (v : V) (ds : List Int), vs = [.ref g, v] ∧ GateAt cs H g da ds ∧ BadR K H v ∧ ∀ H', Ex H H' → E (.ref cs.NoRow) none H'
theorem has_Gate_mended (T : Txt K mg cs) : HasM P w K mg base 7 cs.Gate "mended" ["self", "row"] (sp_Gate_mended K cs) := by
  refine T.m_Gate_mended.ok sc_Gate_mended (fun vs H Q E h => ?_) (fun f cdv A outer s H vs Q E hr h => ?_)
  · rcases h with ⟨g, da, a, ds, xs, rfl, _⟩ | ⟨g, da, v, ds, rfl, _⟩ <;> rfl
  · rcases h with ⟨g, da, a, ds, xs, rfl, G, ha, bx, lx, q1, q2, q3⟩ | h
    · refine ⟨_, (pss_cons (ps_if (pt_val (pe_methH (pv 0) T.c_Gate.cl (has_Gate_holds T) (hr.mono (by decide)) (passes_call (takes_of rfl rfl rfl rfl) (fun _ _ _ _ h => h)) (pa_cons (pv 1) pa_nil))) (pss_one (ps_ret (pe_callTy (kk_list K) (by rfl) T.z_list b_list (pa_cons (pv 1) pa_nil)))) pss_nil)
      (pss_cons (ps_set (i := 2) sc_Gate_mended.nd rfl (Or.inl rfl) (pe_methH (pv 0) T.c_Gate.cl (has_Gate_rest T) (hr.mono (by decide)) (passes_call (takes_of rfl rfl rfl rfl) (fun _ _ _ _ h => h)) (pa_cons (pv 1) pa_nil)))
      (pss_cons (ps_set (i := 3) sc_Gate_mended.nd rfl (Or.inl rfl) (pe_methH (pv 0) T.c_Gate.cl (has_Gate_rest T) (hr.mono (by decide)) (passes_call (takes_of rfl rfl rfl rfl) (fun _ _ _ _ h => h)) (pa_cons (pe_lst (pa_cons pe_int pa_nil)) pa_nil)))
      (pss_cons (ps_for (passes_of rfl) rfl (pi_range3 (by rfl) T.z_range (pa_cons (pe_op op_sub (pe_callB (kk_len K) (by rfl) T.z_len b_len (pa_cons (pv 1) pa_nil)) pe_int) (pa_cons (pe_un un_neg pe_int) (pa_cons (pe_un un_neg pe_int) pa_nil)))) (pg_name (i := 4) sc_Gate_mended.nd rfl (Or.inl rfl)) (pss_cons (ps_if (pt_cmpR (kk_eqD K hr.units) (pv 3) (pv 2) (nomark _)) (pss_one (ps_ret (pe_callH (has_turned T) (hr.mono (by decide)) (passes_call (takes_of rfl rfl rfl rfl) (fun _ _ _ _ h => h)) (pa_cons (pv 1) (pa_cons (pv 4) pa_nil))))) pss_nil)
      (pss_one (ps_set (i := 3) sc_Gate_mended.nd rfl (Or.inl rfl) (pe_callH (has_reduced T) (hr.mono (by decide)) (passes_call (takes_of rfl rfl rfl rfl) (fun _ _ _ _ h => h)) (pa_cons (pe_op op_cat (pv 3) (pe_lst (pa_cons pe_int pa_nil))) (pa_cons (pe_fld (pv 0) rfl) pa_nil)))))))
      (pss_one (ps_raise rfl (takes_of rfl rfl rfl rfl) (pmk_own PySem.F.excBase_ValueError T.e_Broken.x T.e_Broken.g T.e_Broken.k T.e_Broken.r (by exact rfl)))))))), ?_⟩
      obtain ⟨dx, ho⟩ := G.ob
      have D := G.D
      have two := D.two
      have top := D.top
      have it := rch_top D
      refine q_ifW ?_
      refine b_go ?_
      refine meth_go (ev_var rfl) ho gfs_holds fun H1 e1 => ?_
      refine ea_go (vs := [.ref a]) (by walk_at "cg ea") fun H2 e2 => ?_
      have e := e1.trans e2
      have G2 := G.mono e
      have a2 := e _ _ ha
      have ho2 := e _ _ ho
      clear e1 e2
      refine .inl ⟨g, da, a, ds, xs, rfl, G2, a2, bx, lx, fun h H3 e3 => q1 h H3 (e.trans e3), fun h H3 e3 => q2 h H3 (e.trans e3), fun h1 h2 H3 e3 => ⟨zeroB ds xs, rfl, ?_⟩⟩
      obtain ⟨q4, q5⟩ := q3 h1 h2
      cases hz : zeroB ds xs with
      | true =>
        refine if_yes ?_
        exact s_retL (el_listR (xs := iv xs) (er_var rfl (e3 _ _ a2))) fun l H4 n4 e4 h4 => q4 xs (mend_self hz) l H4 (fresh_back (e.trans e3) n4) ((e.trans e3).trans e4) h4
      | false =>
        refine if_no' ?_
        show tSeq _ _ _ _ _
        have eH := e.trans e3
        have G3 := G2.mono e3
        have a3 := e3 _ _ a2
        have ho3 := e3 _ _ ho2
        clear e e3 G2 a2 ho2
        refine q_asgL (el_rest (ev_var rfl) G3 (er_var rfl a3) bx (by omega)) fun pw H4 n4 e4 h4 => ?_
        have b1 : Bits [(1 : Int)] := .one (.inr rfl)
        refine q_asgL (el_rest (xs := [1]) (ev_var rfl) (G3.mono e4) (er_L (el_oneI ev_c)) b1 (by decide)) fun pb H5 n5 e5 h5 => ?_
        have r1 : restR ds [1] = beg ds := prun_one D
        rw [r1] at h5
        have eH5 := (eH.trans e4).trans e5
        have w5 := e5 _ _ h4
        have nw : H pw = none := fresh_back eH n4
        clear n4 n5 e4 e5 G3 a3 ho3 eH h4
        have inv : mendR ds xs = (scanR ds (restR ds xs) xs.length 0).map fun k => turnR xs (xs.length - 1 - k) := by
          unfold mendR
          rw [hz, if_neg (by decide)]
        refine q_forR3 (i0 := (xs.length : Int) - 1) (j0 := -1) (c := -1) (n := xs.length) (ea_cons (ev_i0 (ev_lenI (er_var rfl (eH5 _ _ ha))) ev_c) (ea_two (ev_un ev_c ru_neg) (ev_un ev_c ru_neg))) (by
          have z := RgC.neg (i := (xs.length : Int) - 1) (j := -1) (by omega) (by omega) (by omega) (by omega)
          rw [show ((xs.length : Int) - 1 - -1).toNat = xs.length by omega] at z
          exact z) (fun i σ' H' => Ex H H' ∧ H' pw = some (.lst (iv (restR ds xs))) ∧ scanR ds (restR ds xs) (xs.length - i) i = scanR ds (restR ds xs) xs.length 0 ∧ ∃ (pl : Addr) (v : Option V), σ' = [some (.ref g), some (.ref a), some (.ref pw), some (.ref pl), v] ∧ H' pl = some (.lst (iv (its ds i (beg ds))))) ?_ ?_ ?_
        · exact fun H6 e6 => ⟨eH5.trans e6, e6 _ _ w5, rfl, pb, none, rfl, e6 _ _ h5⟩
        · rintro i σ' H' hi ⟨e', hw, hsc, pl, v, rfl, hpl⟩
          have R := its_row D (beg_row D) i
          rw [show xs.length - i = (xs.length - (i + 1)) + 1 by omega, scan_succ] at hsc
          refine q_when (et_test (ev_eqR (er_var rfl hpl) (er_var rfl hw))) (fun hc H6 e6 => ?_) (fun hc H6 e6 => ?_)
          · rw [if_pos (of_decide_eq_true hc)] at hsc
            refine s_retP (eap_ev (ev_var rfl) (eap_ev (ev_is (v := .int ((xs.length : Int) - 1 + (i : Int) * -1)) (w := .int ((xs.length - 1 - i : Nat) : Int)) (ev_var rfl) (congrArg V.int (by omega))) eap_nil)) ?_
            rintro vs H7 e7 ⟨_, rfl, _, rfl, rfl⟩
            have eH7 := (e'.trans e6).trans e7
            refine ⟨a, xs, xs.length - 1 - i, rfl, eH7 _ _ ha, by omega, by omega, fun l H8 n8 e8 h8 => ?_⟩
            exact q4 _ (by rw [inv, ← hsc]; rfl) l H8 (fresh_back eH7 n8) (eH7.trans e8) h8
          · rw [if_neg (of_decide_eq_false hc)] at hsc
            have eH6 := e'.trans e6
            have G6 := G.mono eH6
            obtain ⟨dx6, ho6⟩ := G6.ob
            refine s_asgL (el_callP (eap_er (er_L (el_catI (xs := its ds i (beg ds)) (ys := [0]) (er_var rfl (e6 _ _ hpl)) (er_L (el_oneI ev_c)) (by rw [R.2, List.length_singleton]; omega))) (eap_ev (ev_fld (ev_var rfl) ho6 T.c_Gate.cl T.n_Gate_divisor gfs_divisor) eap_nil)) (by
              rintro vs H7 e7 ⟨r, _, rfl, hr', _, rfl, rfl⟩ Q' q'
              exact ⟨r, da, its ds i (beg ds) ++ [0], ds, rfl, hr', e7 _ _ G6.dv, R.1.append (.one (.inl rfl)), D.bits, by rw [List.length_append, R.2]; show _ + 1 = _; omega, by rw [List.length_append, R.2]; show 0 < _ + 1; omega, by rw [List.length_append, R.2]; show _ + 1 ≤ _; omega, q'⟩)) fun l H7 n7 e7 h7 => ⟨eH6.trans e7, e7 _ _ (e6 _ _ hw), hsc, l, _, rfl, h7⟩
        · rintro σ' H' ⟨e', hw, hsc, pl, v, rfl, hpl⟩
          rw [Nat.sub_self] at hsc
          exact q5 (by rw [inv, ← hsc]; rfl) H' e'
    · obtain ⟨g, da, v, ds, rfl, G, hb, q⟩ := h
      refine ⟨_, (pss_cons (ps_if (pt_val (pe_methH (pv 0) T.c_Gate.cl (has_Gate_holds T) (hr.mono (by decide)) (passes_call (takes_of rfl rfl rfl rfl) (fun _ _ _ _ h => h)) (pa_cons (pv 1) pa_nil))) (pss_one (ps_ret (pe_callTy (kk_list K) (by rfl) T.z_list b_list (pa_cons (pv 1) pa_nil)))) pss_nil)
      (pss_cons (ps_set (i := 2) sc_Gate_mended.nd rfl (Or.inl rfl) (pe_methH (pv 0) T.c_Gate.cl (has_Gate_rest T) (hr.mono (by decide)) (passes_call (takes_of rfl rfl rfl rfl) (fun _ _ _ _ h => h)) (pa_cons (pv 1) pa_nil)))
      (pss_cons (ps_set (i := 3) sc_Gate_mended.nd rfl (Or.inl rfl) (pe_methH (pv 0) T.c_Gate.cl (has_Gate_rest T) (hr.mono (by decide)) (passes_call (takes_of rfl rfl rfl rfl) (fun _ _ _ _ h => h)) (pa_cons (pe_lst (pa_cons pe_int pa_nil)) pa_nil)))
      (pss_cons (ps_for (passes_of rfl) rfl (pi_range3 (by rfl) T.z_range (pa_cons (pe_op op_sub (pe_callB (kk_len K) (by rfl) T.z_len b_len (pa_cons (pv 1) pa_nil)) pe_int) (pa_cons (pe_un un_neg pe_int) (pa_cons (pe_un un_neg pe_int) pa_nil)))) (pg_name (i := 4) sc_Gate_mended.nd rfl (Or.inl rfl)) (pss_cons (ps_if (pt_cmpR (kk_eqD K hr.units) (pv 3) (pv 2) (nomark _)) (pss_one (ps_ret (pe_callH (has_turned T) (hr.mono (by decide)) (passes_call (takes_of rfl rfl rfl rfl) (fun _ _ _ _ h => h)) (pa_cons (pv 1) (pa_cons (pv 4) pa_nil))))) pss_nil)
      (pss_one (ps_set (i := 3) sc_Gate_mended.nd rfl (Or.inl rfl) (pe_callH (has_reduced T) (hr.mono (by decide)) (passes_call (takes_of rfl rfl rfl rfl) (fun _ _ _ _ h => h)) (pa_cons (pe_op op_cat (pv 3) (pe_lst (pa_cons pe_int pa_nil))) (pa_cons (pe_fld (pv 0) rfl) pa_nil)))))))
      (pss_one (ps_raise rfl (takes_of rfl rfl rfl rfl) (pmk_own PySem.F.excBase_ValueError T.e_Broken.x T.e_Broken.g T.e_Broken.k T.e_Broken.r (by exact rfl)))))))), ?_⟩
      obtain ⟨dx, ho⟩ := G.ob
      refine q_ifW ?_
      refine b_go ?_
      refine meth_go (ev_var rfl) ho gfs_holds fun H1 e1 => ?_
      refine ea_go (ea_one (ev_var rfl)) fun H2 e2 => ?_
      exact .inr ⟨g, da, v, ds, rfl, (G.mono e1).mono e2, (hb.mono e1).mono e2, fun H3 e3 => q H3 ((e1.trans e2).trans e3)⟩

theorem el_mended {E : XK} {σ : L2.St} {H : Hp} {ta te : TE} {g da : Addr} {ds xs zs : List Int} (ha : Ev ta σ H (.ref g)) (G : GateAt cs H g da ds) (h : EvR te σ H (iv xs)) (bx : Bits xs) (l1 : ds.length - 1 ≤ xs.length) (l2 : xs.length ≤ rch ds) (hz : mendR ds xs = some zs) : EvL (tMeth cs.Gate "mended" (sp_Gate_mended K cs) [] E ta (tCons te tNil)) σ H (iv zs) := by
  obtain ⟨dx, ho⟩ := G.ob
  have it := rch_top G.D
  refine el_meth ha ho gfs_mended (eap_er h eap_nil) fun vs H1 e1 hv Q q => ?_
  obtain ⟨p, _, rfl, hp, rfl⟩ := hv
  exact .inl ⟨g, da, p, ds, xs, rfl, G.mono e1, hp, bx, by omega, fun h => by omega, fun h => by omega, fun _ _ => ⟨fun zs' hz' => by rw [hz] at hz'; cases hz'; exact q, fun z => by rw [hz] at z; cases z⟩⟩


/-! ## what only refuses here -/
def sp_added (K : PySem.W.Frag) (cs : Cs) : Sp := fun vs H _ E => ∃ v1 v2, vs = [v1, v2] ∧ (BadR K H v1 ∨ ∃ (a : Addr) (xs : List Int), v1 = .ref a ∧ H a = some (.lst (iv xs)) ∧ Bits xs ∧ BadR K H v2) ∧ ∀ H', Ex H H' → E (.ref cs.NoRow) none H'
theorem has_added (T : Txt K mg cs) : Has P w K mg base 3 "added" ["one", "other"] (sp_added K cs) := by
  refine T.d_added.ok sc_added (fun vs H Q E h => ?_) (fun f cdv A outer s H vs Q E hr h => ?_)
  · obtain ⟨v1, v2, rfl, _⟩ := h
    rfl
  · obtain ⟨v1, v2, rfl, hb, q⟩ := h
    refine ⟨_, (pss_cons (ps_expr (pe_callH (has_need_row T) (hr.mono (by decide)) (passes_call (takes_of rfl rfl rfl rfl) (fun _ _ _ _ h => h)) (pa_cons (pv 0) pa_nil)))
      (pss_cons (ps_expr (pe_callH (has_need_row T) (hr.mono (by decide)) (passes_call (takes_of rfl rfl rfl rfl) (fun _ _ _ _ h => h)) (pa_cons (pv 1) pa_nil)))
      pss_never)), ?_⟩
    rcases hb with hb | ⟨a, xs, rfl, ha, bx, hb⟩
    · exact q_dropC (ea_one (ev_var rfl)) fun H1 e1 => .inr ⟨_, rfl, hb.mono e1, fun H2 e2 => q H2 (e1.trans e2)⟩
    · refine q_dropC (ea_one (ev_var rfl)) fun H1 e1 => .inl ⟨a, xs, rfl, e1 _ _ ha, bx, fun H2 e2 => ?_⟩
      exact q_dropC (ea_one (ev_var rfl)) fun H3 e3 => .inr ⟨_, rfl, hb.mono ((e1.trans e2).trans e3), fun H4 e4 => q H4 (((e1.trans e2).trans e3).trans e4)⟩
theorem has_times (T : Txt K mg cs) : Has P w K mg base 3 "times" ["one", "other"] (sp_added K cs) := by
  refine T.d_times.ok sc_times (fun vs H Q E h => ?_) (fun f cdv A outer s H vs Q E hr h => ?_)
  · obtain ⟨v1, v2, rfl, _⟩ := h
    rfl
  · obtain ⟨v1, v2, rfl, hb, q⟩ := h
    refine ⟨_, (pss_cons (ps_expr (pe_callH (has_need_row T) (hr.mono (by decide)) (passes_call (takes_of rfl rfl rfl rfl) (fun _ _ _ _ h => h)) (pa_cons (pv 0) pa_nil)))
      (pss_cons (ps_expr (pe_callH (has_need_row T) (hr.mono (by decide)) (passes_call (takes_of rfl rfl rfl rfl) (fun _ _ _ _ h => h)) (pa_cons (pv 1) pa_nil)))
      pss_never)), ?_⟩
    rcases hb with hb | ⟨a, xs, rfl, ha, bx, hb⟩
    · exact q_dropC (ea_one (ev_var rfl)) fun H1 e1 => .inr ⟨_, rfl, hb.mono e1, fun H2 e2 => q H2 (e1.trans e2)⟩
    · refine q_dropC (ea_one (ev_var rfl)) fun H1 e1 => .inl ⟨a, xs, rfl, e1 _ _ ha, bx, fun H2 e2 => ?_⟩
      exact q_dropC (ea_one (ev_var rfl)) fun H3 e3 => .inr ⟨_, rfl, hb.mono ((e1.trans e2).trans e3), fun H4 e4 => q H4 (((e1.trans e2).trans e3).trans e4)⟩
/-! ## is_count, Gate.later -/
def countB : V → Option Bool
  | .int i => some (decide (0 ≤ i) && decide (i ≤ 1000000000000000000))
  | .bl _ => some false
  | .non => some false
  | _ => none
def sp_is_count : Sp := fun vs H Q _ => ∃ (v : V) (b : Bool), vs = [v] ∧ countB v = some b ∧ RetV (.bl b) H Q
theorem has_is_count (T : Txt K mg cs) : Has P w K mg base 1 "is_count" ["value"] sp_is_count := by
  refine T.d_is_count.ok sc_is_count (fun vs H Q E h => ?_) (fun f cdv A outer s H vs Q E hr h => ?_)
  · obtain ⟨v, b, rfl, _⟩ := h
    rfl
  · obtain ⟨v, b, rfl, hv, q⟩ := h
    refine ⟨_, (pss_cons (ps_if (PW.pt (pw_or (pt_not (pt_val (pe_callB (kk_isi K) (by rfl) T.z_isinstance b_isinstance (pa_cons (pv 0) (pa_cons (pe_bltn (v := .ty "int") (u := .type "int") (by rfl) T.z_int b_int rfl) pa_nil))))) (pw_or1 (pt_val (pe_callB (kk_isi K) (by rfl) T.z_isinstance b_isinstance (pa_cons (pv 0) (pa_cons (pe_bltn (v := .ty "bool") (u := .type "bool") (by rfl) T.z_bool b_bool rfl) pa_nil))))))) (pss_one (ps_ret pe_bl)) pss_nil)
      (pss_one (ps_ret (pe_chain op_le op_le pe_int (pv 0) (pe_globI T.g_MOST_NOUGHTS))))), ?_⟩
    cases v with
    | int i =>
      cases hv
      refine q_when (b := false) (et_is (et_or (a := false) (et_is (et_not (et_B (ev_isiF (ev_var rfl) rfl kit_int_int))) rfl) (fun _ => et_B (ev_isiF (ev_var rfl) rfl kit_int_bool))) rfl) (fun h => nomatch h) (fun _ H1 e1 => ?_)
      obtain ⟨t, gm⟩ := T.g_MOST_NOUGHTS
      exact s_ret (ev_chain ev_c (ev_var rfl) ev_c) fun H2 e2 => q H2 (e1.trans e2)
    | bl k =>
      cases hv
      refine q_when (b := true) (et_is (et_or (a := false) (et_is (et_not (et_B (ev_isiF (ev_var rfl) rfl kit_bool_int))) rfl) (fun _ => et_B (ev_isiF (ev_var rfl) rfl kit_bool_bool))) rfl) (fun _ H1 e1 => ?_) (fun h => nomatch h)
      exact s_ret ev_c fun H2 e2 => q H2 (e1.trans e2)
    | non =>
      cases hv
      refine q_when (b := true) (et_is (et_or (a := true) (et_is (et_not (et_B (ev_isiF (ev_var rfl) rfl kit_NoneType_int))) rfl) (b := false) (fun h => nomatch h)) rfl) (fun _ H1 e1 => ?_) (fun h => nomatch h)
      exact s_ret ev_c fun H2 e2 => q H2 (e1.trans e2)
    | str _ => cases hv
    | byt _ => cases hv
    | flt _ => cases hv
    | ref _ => cases hv
    | ty _ => cases hv
theorem gfs_later {r : Int} {da : Addr} {w : Int} {ev : Bool} : (gfs r da w ev).lookup ("later" : Str) = none := gfs_no (by decide +kernel) (by decide +kernel) (by decide +kernel) (by decide +kernel)


def sp_Gate_later (K : PySem.W.Frag) (cs : Cs) : Sp := fun vs H _ E => ∃ (g da : Addr) (v m : V) (ds : List Int), vs = [.ref g, v, m] ∧ GateAt cs H g da ds ∧ ((BadR K H v ∧ ∀ H', Ex H H' → E (.ref cs.NoRow) none H') ∨
  ∃ (a : Addr) (R : List Int), v = .ref a ∧ H a = some (.lst (iv R)) ∧ Bits R ∧ ((R.length ≠ ds.length - 1 ∧ ∀ H', Ex H H' → E (.ref cs.NoRow) none H') ∨ (R.length = ds.length - 1 ∧ countB m = some false ∧ ∀ H', Ex H H' → E (.ref cs.NoCount) none H')))
theorem has_Gate_later (T : Txt K mg cs) : HasM P w K mg base 6 cs.Gate "later" ["self", "rest", "many"] (sp_Gate_later K cs) := by
  refine T.m_Gate_later.ok sc_Gate_later (fun vs H Q E h => ?_) (fun f cdv A outer s H vs Q E hr h => ?_)
  · obtain ⟨g, da, v, m, ds, rfl, _⟩ := h
    rfl
  · obtain ⟨g, da, v, m, ds, rfl, G, hor⟩ := h
    refine ⟨_, (pss_cons (ps_expr (pe_callH (has_need_row T) (hr.mono (by decide)) (passes_call (takes_of rfl rfl rfl rfl) (fun _ _ _ _ h => h)) (pa_cons (pv 1) pa_nil)))
      (pss_cons (ps_if (pt_cmpR op_neII (pe_callB (kk_len K) (by rfl) T.z_len b_len (pa_cons (pv 1) pa_nil)) (pe_fld (pv 0) rfl) (nomark _)) (pss_one (ps_raise rfl (takes_of rfl rfl rfl rfl) (pmk_own PySem.F.excBase_ValueError T.e_NoRow.x T.e_NoRow.g T.e_NoRow.k T.e_NoRow.r (by exact rfl)))) pss_nil)
      (pss_cons (ps_if (pt_not (pt_val (pe_callH (has_is_count T) (hr.mono (by decide)) (passes_call (takes_of rfl rfl rfl rfl) (fun _ _ _ _ h => h)) (pa_cons (pv 2) pa_nil)))) (pss_one (ps_raise rfl (takes_of rfl rfl rfl rfl) (pmk_own PySem.F.excBase_ValueError T.e_NoCount.x T.e_NoCount.g T.e_NoCount.k T.e_NoCount.r (by exact rfl)))) pss_nil)
      pss_never))), ?_⟩
    rcases hor with ⟨hb, q⟩ | ⟨a, R, rfl, ha, bR, hor⟩
    · exact q_dropC (ea_one (ev_var rfl)) fun H1 e1 => .inr ⟨_, rfl, hb.mono e1, fun H2 e2 => q H2 (e1.trans e2)⟩
    · refine q_dropC (ea_one (ev_var rfl)) fun H1 e1 => .inl ⟨a, R, rfl, e1 _ _ ha, bR, fun H2 e2 => ?_⟩
      have e := e1.trans e2
      have G2 := G.mono e
      obtain ⟨dx, ho⟩ := G2.ob
      refine q_when (et_test (ev_i0 (ev_lenI (er_var rfl (e _ _ ha))) (ev_fld (ev_var rfl) ho T.c_Gate.cl T.n_Gate_width gfs_width))) (fun hc H3 e3 => ?_) (fun hc H3 e3 => ?_)
      · rw [Bool.not_eq_true', decide_eq_false_iff_not] at hc
        rcases hor with ⟨_, q⟩ | ⟨h, _⟩
        · exact q H3 (e.trans e3)
        · rw [h] at hc
          exact absurd rfl hc
      · rw [Bool.not_eq_false', decide_eq_true_eq] at hc
        rcases hor with ⟨h, _⟩ | ⟨_, hv, q⟩
        · omega
        · exact q_when (b := true) (et_is (et_not (et_B (ev_call (vs := [m]) (by walk_at "cg ea") fun H1 e1 Q q _ => ⟨_, false, rfl, hv, q⟩))) rfl) (fun _ H4 e4 => q H4 ((e.trans e3).trans e4)) (fun h => nomatch h)
def sp_Gate_check (K : PySem.W.Frag) (cs : Cs) : Sp := fun vs H _ E => ∃ (g : V) (v : V), vs = [g, v] ∧ BadR K H v ∧ ∀ H', Ex H H' → E (.ref cs.NoRow) none H'
theorem has_Gate_check (T : Txt K mg cs) : HasM P w K mg base 6 cs.Gate "check" ["self", "row"] (sp_Gate_check K cs) := by
  refine T.m_Gate_check.ok sc_Gate_check (fun vs H Q E h => ?_) (fun f cdv A outer s H vs Q E hr h => ?_)
  · obtain ⟨g, v, rfl, _⟩ := h
    rfl
  · obtain ⟨g, v, rfl, hb, q⟩ := h
    refine ⟨_, (pss_cons (ps_expr (pe_callH (has_need_row T) (hr.mono (by decide)) (passes_call (takes_of rfl rfl rfl rfl) (fun _ _ _ _ h => h)) (pa_cons (pv 1) pa_nil)))
      pss_never), ?_⟩
    exact q_dropC (ea_one (ev_var rfl)) fun H1 e1 => .inr ⟨_, rfl, hb.mono e1, fun H2 e2 => q H2 (e1.trans e2)⟩
def sp_Gate_sealed (K : PySem.W.Frag) (cs : Cs) : Sp := fun vs H _ E => ∃ (g da : Addr) (v : V) (ds : List Int), vs = [.ref g, v] ∧ GateAt cs H g da ds ∧ ((BadR K H v ∧ ∀ H', Ex H H' → E (.ref cs.NoRow) none H') ∨
  ∃ (a : Addr) (R : List Int), v = .ref a ∧ H a = some (.lst (iv R)) ∧ Bits R ∧ rch ds < R.length + (ds.length - 1) ∧ ∀ H', Ex H H' → E (.ref cs.TooLong) none H')
theorem has_Gate_sealed (T : Txt K mg cs) : HasM P w K mg base 8 cs.Gate "sealed" ["self", "row"] (sp_Gate_sealed K cs) := by
  refine T.m_Gate_sealed.ok sc_Gate_sealed (fun vs H Q E h => ?_) (fun f cdv A outer s H vs Q E hr h => ?_)
  · obtain ⟨g, da, v, ds, rfl, _⟩ := h
    rfl
  · obtain ⟨g, da, v, ds, rfl, G, hor⟩ := h
    refine ⟨_, (pss_cons (ps_expr (pe_callH (has_need_row T) (hr.mono (by decide)) (passes_call (takes_of rfl rfl rfl rfl) (fun _ _ _ _ h => h)) (pa_cons (pv 1) pa_nil)))
      (pss_cons (ps_if (pt_cmpR op_gt (pe_op op_add (pe_callB (kk_len K) (by rfl) T.z_len b_len (pa_cons (pv 1) pa_nil)) (pe_fld (pv 0) rfl)) (pe_fld (pv 0) rfl) (nomark _)) (pss_one (ps_raise rfl (takes_of rfl rfl rfl rfl) (pmk_own PySem.F.excBase_ValueError T.e_TooLong.x T.e_TooLong.g T.e_TooLong.k T.e_TooLong.r (by exact rfl)))) pss_nil)
      pss_never)), ?_⟩
    rcases hor with ⟨hb, q⟩ | ⟨a, R, rfl, ha, bR, hl, q⟩
    · exact q_dropC (ea_one (ev_var rfl)) fun H1 e1 => .inr ⟨_, rfl, hb.mono e1, fun H2 e2 => q H2 (e1.trans e2)⟩
    · refine q_dropC (ea_one (ev_var rfl)) fun H1 e1 => .inl ⟨a, R, rfl, e1 _ _ ha, bR, fun H2 e2 => ?_⟩
      have e := e1.trans e2
      have G2 := G.mono e
      obtain ⟨dx, ho⟩ := G2.ob
      refine q_when (b := true) (et_is (et_test (ev_i0 (ev_i0 (ev_lenI (er_var rfl (e _ _ ha))) (ev_fld (ev_var rfl) ho T.c_Gate.cl T.n_Gate_width gfs_width)) (ev_fld (ev_var rfl) ho T.c_Gate.cl T.n_Gate_reach gfs_reach))) (by rw [decide_eq_true_eq]; omega)) (fun _ H3 e3 => q H3 (e.trans e3)) (fun h => nomatch h)
def sp_text_of (K : PySem.W.Frag) (cs : Cs) : Sp := fun vs H _ E => ∃ (v : V), vs = [v] ∧ BadR K H v ∧ ∀ H', Ex H H' → E (.ref cs.NoRow) none H'
theorem has_text_of (T : Txt K mg cs) : Has P w K mg base 3 "text_of" ["row"] (sp_text_of K cs) := by
  refine T.d_text_of.ok sc_text_of (fun vs H Q E h => ?_) (fun f cdv A outer s H vs Q E hr h => ?_)
  · obtain ⟨v, rfl, _⟩ := h
    rfl
  · obtain ⟨v, rfl, hb, q⟩ := h
    refine ⟨_, (pss_cons (ps_expr (pe_callH (has_need_row T) (hr.mono (by decide)) (passes_call (takes_of rfl rfl rfl rfl) (fun _ _ _ _ h => h)) (pa_cons (pv 0) pa_nil)))
      pss_never), ?_⟩
    exact q_dropC (ea_one (ev_var rfl)) fun H1 e1 => .inr ⟨_, rfl, hb.mono e1, fun H2 e2 => q H2 (e1.trans e2)⟩
def sp_row_of (cs : Cs) : Sp := fun vs H _ E => ∃ (a : Addr) (ys : List V), vs = [.ref a] ∧ H a = some (.lst ys) ∧ ∀ H', Ex H H' → E (.ref cs.NoText) none H'
theorem has_row_of (T : Txt K mg cs) : Has P w K mg base 2 "row_of" ["text"] (sp_row_of cs) := by
  refine T.d_row_of.ok sc_row_of (fun vs H Q E h => ?_) (fun f cdv A outer s H vs Q E hr h => ?_)
  · obtain ⟨a, ys, rfl, _⟩ := h
    rfl
  · obtain ⟨a, ys, rfl, ha, q⟩ := h
    refine ⟨_, (pss_cons (ps_if (pt_not (pt_val (pe_callB (kk_isi K) (by rfl) T.z_isinstance b_isinstance (pa_cons (pv 0) (pa_cons (pe_bltn (v := .ty "str") (u := .type "str") (by rfl) T.z_str b_str rfl) pa_nil))))) (pss_one (ps_raise rfl (takes_of rfl rfl rfl rfl) (pmk_own PySem.F.excBase_ValueError T.e_NoText.x T.e_NoText.g T.e_NoText.k T.e_NoText.r (by exact rfl)))) pss_nil)
      pss_never), ?_⟩
    exact q_when (b := true) (et_is (et_not (et_B (ev_isiR (er_var rfl ha) kit_list_str))) rfl) (fun _ H1 e1 => q H1 e1) (fun h => nomatch h)
def sp_Register_put (K : PySem.W.Frag) (cs : Cs) : Sp := fun vs H _ E => ∃ (r v : V), vs = [r, v] ∧ NotSign K H v ∧ ∀ H', Ex H H' → E (.ref cs.NoSign) none H'
theorem has_Register_put (T : Txt K mg cs) : HasM P w K mg base 2 cs.Register "put" ["self", "sign"] (sp_Register_put K cs) := by
  refine T.m_Register_put.ok sc_Register_put (fun vs H Q E h => ?_) (fun f cdv A outer s H vs Q E hr h => ?_)
  · obtain ⟨r, v, rfl, _⟩ := h
    rfl
  · obtain ⟨r, v, rfl, nx, q⟩ := h
    refine ⟨_, (pss_cons (ps_if (pt_not (pt_val (pe_callH (has_is_sign T) (hr.mono (by decide)) (passes_call (takes_of rfl rfl rfl rfl) (fun _ _ _ _ h => h)) (pa_cons (pv 1) pa_nil)))) (pss_one (ps_raise rfl (takes_of rfl rfl rfl rfl) (pmk_own PySem.F.excBase_ValueError T.e_NoSign.x T.e_NoSign.g T.e_NoSign.k T.e_NoSign.r (by exact rfl)))) pss_nil)
      pss_never), ?_⟩
    exact q_when (b := true) (et_is (et_not (et_B (ev_call (vs := [v]) (by walk_at "cg ea") fun H1 e1 Q q _ => ⟨_, false, rfl, .inr ⟨rfl, nx.mono e1⟩, q⟩))) rfl) (fun _ H1 e1 => q H1 e1) (fun h => nomatch h)
def sp_Register_joined (cs : Cs) : Sp := fun vs H _ E => ∃ (r : V) (a : Addr) (ys : List V), vs = [r, .ref a] ∧ H a = some (.lst ys) ∧ ∀ H', Ex H H' → E (.ref cs.NoMate) none H'
theorem has_Register_joined (T : Txt K mg cs) : HasM P w K mg base 7 cs.Register "joined" ["self", "other"] (sp_Register_joined cs) := by
  refine T.m_Register_joined.ok sc_Register_joined (fun vs H Q E h => ?_) (fun f cdv A outer s H vs Q E hr h => ?_)
  · obtain ⟨r, a, ys, rfl, _⟩ := h
    rfl
  · obtain ⟨r, a, ys, rfl, ha, q⟩ := h
    refine ⟨_, (pss_cons (ps_if (pt_not (pt_val (pe_callB (kk_isi K) (by rfl) T.z_isinstance b_isinstance (pa_cons (pv 1) (pa_cons (pe_glob (v := .ref cs.Register) rfl T.c_Register.g rfl) pa_nil))))) (pss_one (ps_raise rfl (takes_of rfl rfl rfl rfl) (pmk_own PySem.F.excBase_ValueError T.e_NoMate.x T.e_NoMate.g T.e_NoMate.k T.e_NoMate.r (by exact rfl)))) pss_nil)
      pss_never), ?_⟩
    exact q_when (b := true) (et_is (et_not (et_B (ev_isiO (ev_var rfl) (fun H1 e1 => .base (.lst (e1 _ _ ha))) (T.w_Register.kit T.b_list_Register (fun _ h => nomatch h))))) rfl) (fun _ H1 e1 => q H1 e1) (fun h => nomatch h)


/-! ## Register: what stands at its address -/
def rfs (ga : Addr) (m : Int) (ra : Addr) : List (Str × V) := putF "_rest" (.ref ra) (putF "many" (.int m) (putF "gate" (.ref ga) []))
theorem rfs_no {ga : Addr} {i : Int} {ra : Addr} {m : Str} (h1 : ¬ m = "_rest") (h2 : ¬ m = "many") (h3 : ¬ m = "gate") : (rfs ga i ra).lookup m = none := by
  unfold rfs
  rw [lookup_putF, if_neg h1, lookup_putF, if_neg h2, lookup_putF, if_neg h3]
  rfl
theorem rfs_rest {ga : Addr} {i : Int} {ra : Addr} : (rfs ga i ra).lookup ("_rest" : Str) = some (V.ref ra) := by
  unfold rfs
  rw [lookup_putF, if_pos rfl]
theorem rfs_many {ga : Addr} {i : Int} {ra : Addr} : (rfs ga i ra).lookup ("many" : Str) = some (V.int i) := by
  unfold rfs
  rw [lookup_putF, if_neg (by decide +kernel), lookup_putF, if_pos rfl]
theorem rfs_gate {ga : Addr} {i : Int} {ra : Addr} : (rfs ga i ra).lookup ("gate" : Str) = some (V.ref ga) := by
  unfold rfs
  rw [lookup_putF, if_neg (by decide +kernel), lookup_putF, if_neg (by decide +kernel), lookup_putF, if_pos rfl]
theorem rfs_put {ga : Addr} {i : Int} {ra : Addr} : (rfs ga i ra).lookup ("put" : Str) = none := rfs_no (by decide +kernel) (by decide +kernel) (by decide +kernel)
theorem rfs_joined {ga : Addr} {i : Int} {ra : Addr} : (rfs ga i ra).lookup ("joined" : Str) = none := rfs_no (by decide +kernel) (by decide +kernel) (by decide +kernel)
structure RegAt (cs : Cs) (H : Hp) (r g da ra : Addr) (ds R : List Int) (m : Int) : Prop where
  ob : ∃ dx, H r = some (.ins cs.Register dx (rfs g m ra))
  G : GateAt cs H g da ds
  rv : H ra = some (.lst (iv R))
  row : RowOf (ds.length - 1) R
theorem RegAt.mono {H H' : Hp} {r g da ra : Addr} {ds R : List Int} {m : Int} (h : RegAt cs H r g da ra ds R m) (e : Ex H H') : RegAt cs H' r g da ra ds R m := ⟨h.ob.imp fun _ z => e _ _ z, h.G.mono e, e _ _ h.rv, h.row⟩
def sp_Register___init__ (cs : Cs) : Sp := fun vs H Q _ => ∃ (p dx g da : Addr) (ds : List Int), vs = [.ref p, .ref g] ∧ H p = some (.ins cs.Register dx []) ∧ GateAt cs H g da ds ∧ ∀ g2 d2 ra H', H g2 = none → H d2 = none → H ra = none → Kp p H H' → RegAt cs H' p g2 d2 ra ds (List.replicate (ds.length - 1) 0) 0 → Q .non H'
theorem has_Register___init__ (T : Txt K mg cs) : HasI P w K mg base 8 cs.Register ["self", "gate"] (sp_Register___init__ cs) := by
  refine T.i_Register.ok sc_Register___init__ (fun vs H Q E h => ?_) (fun f cdv A outer s H vs Q E hr h => ?_)
  · obtain ⟨p, dx, g, da, ds, rfl, _⟩ := h
    rfl
  · obtain ⟨p, dx, g, da, ds, rfl, hp, G, q⟩ := h
    refine ⟨_, (pss_cons (ps_fld (pv 0) (pe_makeH (has_Gate___init__ T) (hr.mono (by decide)) T.c_Gate.g (passes_call (takes_of rfl rfl rfl rfl) (fun _ _ _ _ h => h)) (pa_cons (pe_fld (pv 1) rfl) pa_nil)) rfl)
      (pss_cons (ps_fld (pv 0) pe_int rfl)
      (pss_one (ps_fld (pv 0) (pe_op op_rep (pe_lst (pa_cons pe_int pa_nil)) (pe_fld (pe_fld (pv 0) rfl) rfl)) rfl)))), ?_⟩
    have D := G.D
    have top := D.top
    have two := D.two
    obtain ⟨dxg, hog⟩ := G.ob
    refine q_fldW ?_
    refine eg_make (cs := cs) D (er_ev (ev_fld (ev_var rfl) hog T.c_Gate.cl T.n_Gate_divisor gfs_divisor) G.dv) H (.refl H) _ fun g2 d2 H1 ng2 nd2 e1 G2 => var_go rfl ⟨p, cs.Register, dx, [], rfl, e1 _ _ hp, T.c_Register.cl, T.n_Register_gate, by decide, ?_⟩
    have npg : g2 ≠ p := (ne_of_none hp ng2).symm
    have npd : d2 ≠ p := (ne_of_none hp nd2).symm
    have k2 : Kp p H (upd H1 p (.ins cs.Register dx (putF "gate" (.ref g2) []))) := (Kp.of e1).trans .upd
    have h2 : (upd H1 p (.ins cs.Register dx (putF "gate" (.ref g2) []))) p = some (.ins cs.Register dx (putF "gate" (.ref g2) [])) := upd_same
    have G3 : GateAt cs (upd H1 p (.ins cs.Register dx (putF "gate" (.ref g2) []))) g2 d2 ds := G2.kp .upd npg npd
    generalize (upd H1 p (.ins cs.Register dx (putF "gate" (.ref g2) []))) = H2 at k2 h2 G3 ⊢
    refine q_fld (v := .int 0) ev_c (ev_var rfl) h2 T.c_Register.cl T.n_Register_many (by show 1 < 1000; decide) fun H3 e3 => ?_
    have k4 : Kp p H (upd H3 p (.ins cs.Register dx (putF "many" (.int 0) (putF "gate" (.ref g2) [])))) := (k2.trans (Kp.of e3)).trans .upd
    have h4 : (upd H3 p (.ins cs.Register dx (putF "many" (.int 0) (putF "gate" (.ref g2) [])))) p = some (.ins cs.Register dx (putF "many" (.int 0) (putF "gate" (.ref g2) []))) := upd_same
    have G4 : GateAt cs (upd H3 p (.ins cs.Register dx (putF "many" (.int 0) (putF "gate" (.ref g2) [])))) g2 d2 ds := (G3.mono e3).kp .upd npg npd
    generalize (upd H3 p (.ins cs.Register dx (putF "many" (.int 0) (putF "gate" (.ref g2) [])))) = H4 at k4 h4 G4 ⊢
    obtain ⟨dx2, ho2⟩ := G4.ob
    have lk : (putF "many" (V.int 0) (putF "gate" (V.ref g2) [])).lookup ("gate" : Str) = some (V.ref g2) := by
      rw [lookup_putF, if_neg (by decide +kernel), lookup_putF, if_pos rfl]
    refine s_fldL (xs := iv (List.replicate (ds.length - 1) 0)) (el_repN ev_c (ev_fld (ev_fld (ev_var rfl) h4 T.c_Register.cl T.n_Register_gate lk) ho2 T.c_Gate.cl T.n_Gate_width gfs_width) (by omega)) (ev_var rfl) h4 T.c_Register.cl T.n_Register__rest (Nat.lt_of_le_of_lt (putF_len _ _ _) (by show 2 < 1000; decide)) fun ra H5 n5 e5 h5 => ?_
    have nrp : ra ≠ p := (ne_of_none h4 n5).symm
    refine q g2 d2 ra _ (fresh_back (.refl H) ng2) nd2 ?_ ((k4.trans (Kp.of e5)).trans .upd) ⟨⟨dx, upd_same⟩, (G4.mono e5).kp .upd npg npd, by rw [upd_ne nrp]; exact h5, rep_row _⟩
    cases hh : H ra with
    | none => rfl
    | some o =>
      rw [k4 _ _ nrp hh] at n5
      cases n5
/-- Register(..), told by what it is -/
theorem reg_make {E : XK} {σ : L2.St} {H : Hp} {tx : TE} {g da : Addr} {ds : List Int} (h : Ev tx σ H (.ref g)) (G : GateAt cs H g da ds) {Q : VK}
    (k : ∀ r g2 d2 ra H2, H r = none → H g2 = none → H d2 = none → H ra = none → Ex H H2 → RegAt cs H2 r g2 d2 ra ds (List.replicate (ds.length - 1) 0) 0 → Q (.ref r) H2) : tMake cs.Register (sp_Register___init__ cs) [] E (tCons tx tNil) σ H Q :=
  h H (.refl H) _ fun H1 e1 => fun y dy ny nd ne => ⟨y, dy, g, da, ds, rfl, upd_same, by
    obtain ⟨dx, ho⟩ := G.ob
    exact ⟨G.D, ⟨dx, upd2_at ny nd (e1 _ _ ho)⟩, upd2_at ny nd (e1 _ _ G.dv)⟩, fun g2 d2 ra H' n1 n2 n3 kp R => ⟨rfl, k y g2 d2 ra H' (fresh_back e1 ny) (fresh_back e1 (upd2_none n1).1) (fresh_back e1 (upd2_none n2).1) (fresh_back e1 (upd2_none n3).1) (e1.trans (upd2_ex ny nd kp)) R⟩⟩


/-! ## a number by a length -/
theorem mod_place (c : Int) {n : Nat} (h : 0 < n) : ∃ k : Nat, c % (n : Int) = (k : Int) ∧ k < n := ⟨(c % (n : Int)).toNat, by
  have := Int.emod_nonneg c (show (n : Int) ≠ 0 by omega)
  omega, by
  have := Int.emod_lt_of_pos c (show (0 : Int) < (n : Int) by omega)
  omega⟩
theorem str_eq (x y : Str) : decide (V.str x = V.str y) = decide (x = y) := by
  by_cases h : x = y
  · subst h; simp
  · have : ¬ V.str x = V.str y := fun e => h (V.str.inj e)
    simp [h, this]


/-! ## _law_bad and what is called -/
theorem ne_of_sub {K : PySem.W.Frag} {D C : Addr} (h1 : PySem.W.subIn K (.ref D) (.ref C) = some false) (h2 : PySem.W.subIn K (.ref D) (.ref D) = some true) : C ≠ D := fun e => by
  rw [e, h2] at h1
  cases h1
section
variable {σ : L2.St} {H : Hp} {te tb : TE} {tr t : TA} {n : Nat} {B : V → Hp → Prop}
/-- written things, each of them such -/
def AllB (B : V → Hp → Prop) (t : TA) (σ : L2.St) (H : Hp) (n : Nat) : Prop := EvAP t σ H (fun vs G => vs.length = n ∧ ∀ v ∈ vs, B v G)
theorem allb_nil : AllB B tNil σ H 0 := fun H1 _ _ q => q [] H1 (Ex.refl H1) ⟨rfl, fun v h => by cases h⟩
theorem allb_cons (m : ∀ v H1 H2, Ex H1 H2 → B v H1 → B v H2) (h : EvP te σ H B) (hr : AllB B tr σ H n) : AllB B (tCons te tr) σ H (n + 1) := fun H1 e Q q =>
  h H1 e _ fun v H2 e2 p => hr H2 (e.trans e2) _ fun vs H3 e3 ⟨l, a⟩ => q _ H3 (e2.trans e3) ⟨by rw [List.length_cons, l], fun u hu => by
    rcases List.mem_cons.mp hu with rfl | hu
    · exact m _ _ _ e3 p
    · exact a u hu⟩
theorem ep_any {i : Int} (m : ∀ v H1 H2, Ex H1 H2 → B v H1 → B v H2) (h : AllB B t σ H n) (hb : Ev tb σ H (.int i)) (h0 : 0 ≤ i) (h1 : i < (n : Int)) (hn : n ≤ 1000) : EvP (tOp (rIxL K) (tLst t) tb) σ H B :=
  ep_pick h hb h0 fun vs H1 ⟨l, a⟩ => ⟨by omega, by omega, fun v hv H2 e2 => m _ _ _ e2 (a v (List.mem_of_getElem? hv))⟩
theorem badm : ∀ v H1 H2, Ex H1 H2 → (fun v G => BadR K G v) v H1 → (fun v G => BadR K G v) v H2 := fun _ _ _ e h => BadR.mono h e
theorem notm : ∀ v H1 H2, Ex H1 H2 → (fun v G => NotSign K G v) v H1 → (fun v G => NotSign K G v) v H2 := fun _ _ _ e h => NotSign.mono h e
theorem epb_flat {x : V} {s : String} (h : Ev te σ H x) (ht : tyName x = some s) (hk : kitB s "list" = some false) : EvP te σ H (fun v G => BadR K G v) := ep_of h fun H1 e1 => .inl ⟨s, hk, fun H2 e2 => tyx_flat ht⟩
theorem epn_flat {x : V} {s : String} (h : Ev te σ H x) (ht : tyName x = some s) (hk : kitB s "int" = some false) : EvP te σ H (fun v G => NotSign K G v) := ep_of h fun H1 e1 => .inr (.inr ⟨s, hk, fun H2 e2 => tyx_flat ht⟩)
theorem epb_disp : EvP (tDisp [(tC (.int 0), tC (.int 1))]) σ H (fun v G => BadR K G v) := fun H1 e Q q p np => by
  refine ⟨upd_same, [(.inl 0, .int 1)], rfl, by decide, q _ _ ?_ (.inl ⟨"dict", kit_dict_list, fun H2 e2 => .base (.dK (e2 _ _ upd_same))⟩)⟩
  exact fun a o h => by
    rw [upd_ne (ne_of_none h np), upd_ne (ne_of_none h np)]
    exact h
/-- the part before, something that is no sign, the part behind -/
theorem ep_within {ta tc : TE} {xs ys : List Int} (ha : EvR ta σ H (iv xs)) (hb : EvP tb σ H (fun v G => NotSign K G v)) (hc : EvR tc σ H (iv ys)) (bx : Bits xs) (hz : xs.length + ys.length ≤ 10000) : EvP (tOp rCat (tOp rCat ta (tLst (tCons tb tNil))) tc) σ H (fun v G => BadR K G v) := fun H1 e Q q =>
  ha H1 e _ fun a H2 e2 h2 => hb H2 (e.trans e2) _ fun v H3 e3 nv => ⟨by show 1 ≤ 2 ^ 24; decide, fun l nl => by
    refine ⟨a, l, iv xs, [v], rfl, rfl, Ex.new nl _ _ (e3 _ _ h2), upd_same, by rw [iv_len]; show _ + 1 ≤ 2 ^ 24; omega, fun p np => ?_⟩
    have e4 : Ex H3 (upd (upd H3 l (.lst [v])) p (.lst (iv xs ++ [v]))) := (Ex.new nl).trans (Ex.new np)
    have h4 : (upd (upd H3 l (.lst [v])) p (.lst (iv xs ++ [v]))) p = some (.lst (iv xs ++ [v])) := upd_same
    generalize (upd (upd H3 l (.lst [v])) p (.lst (iv xs ++ [v]))) = H4 at e4 h4 ⊢
    refine hc H4 ((e.trans e2).trans (e3.trans e4)) _ fun b H5 e5 h5 => ⟨p, b, iv xs ++ [v], iv ys, rfl, rfl, e5 _ _ h4, h5, by rw [List.length_append, iv_len, iv_len]; show _ + 1 + _ ≤ 2 ^ 24; omega, fun r nr => ?_⟩
    refine q _ _ (((e2.trans (e3.trans e4)).trans e5).trans (Ex.new nr)) (.inr ⟨r, xs, v, iv ys, rfl, ?_, bx, (nv.mono (e4.trans e5)).mono (Ex.new nr)⟩)
    rw [upd_same, List.append_assoc]
    rfl⟩
end
def sp__law_bad (K : PySem.W.Frag) : Sp := fun vs H Q _ => ∃ (c : Int) (a : Addr) (ns : List Int), vs = [.int c, .ref a] ∧ H a = some (.lst (iv ns)) ∧ Bits ns ∧ ns.length ≤ 1000 ∧ ∀ v H', Ex H H' → BadR K H' v → Q v H'
theorem has__law_bad (T : Txt K mg cs) : Has P w K mg base 1 "_law_bad" ["_law_cell", "_law_row"] (sp__law_bad K) := by
  refine T.d__law_bad.ok sc__law_bad (fun vs H Q E h => ?_) (fun f cdv A outer s H vs Q E hr h => ?_)
  · obtain ⟨c, a, ns, rfl, _⟩ := h
    rfl
  · obtain ⟨c, a, ns, rfl, ha, bn, ln, q⟩ := h
    refine ⟨_, (pss_cons (ps_if (pt_cmpR op_gt (pe_op op_mod (pv 0) pe_int) pe_int (nomark _)) (pss_one (ps_ret (pe_ix (kk_ixl K) (pe_lst (pa_cons (pe_callTy (kk_tup K) (by rfl) T.z_tuple b_tuple (pa_cons (pv 1) pa_nil)) (pa_cons pe_str (pa_cons pe_non (pa_cons pe_int (pa_cons (pe_disp (pps_cons pe_int pe_int pps_nil) (by rfl) (by rfl) (fun z => by cases z) (by decide)) (pa_cons pe_bl pa_nil))))))) (pe_op op_sub (pe_op op_mod (pv 0) pe_int) pe_int) (fun _ _ => rfl)))) pss_nil)
      (pss_cons (ps_set (i := 2) sc__law_bad.nd rfl (Or.inl rfl) (pe_op op_mod (pe_op op_fdiv (pv 0) pe_int) (pe_op op_add (pe_callB (kk_len K) (by rfl) T.z_len b_len (pa_cons (pv 1) pa_nil)) pe_int)))
      (pss_one (ps_ret (pe_op op_cat (pe_op op_cat (pe_slice (kk_sl K) (pv 1) po_none (po_some (pv 2))) (pe_lst (pa_cons (pe_ix (kk_ixl K) (pe_lst (pa_cons pe_int (pa_cons (pe_un un_neg pe_int) (pa_cons pe_bl (pa_cons pe_bl (pa_cons pe_non (pa_cons pe_str (pa_cons (pe_lst (pa_cons pe_int pa_nil)) pa_nil)))))))) (pe_op op_mod (pv 0) pe_int) (fun _ _ => rfl)) pa_nil))) (pe_slice (kk_sl K) (pv 1) (po_some (pv 2)) po_none)))))), ?_⟩
    refine q_when (et_test (ev_i0 (ev_mod (ev_var rfl) ev_c (by walk_at "cg ar")) ev_c)) (fun hc H1 e1 => ?_) (fun hc H1 e1 => ?_)
    · have hc' := of_decide_eq_true hc
      have a1 := e1 _ _ ha
      have tup : EvP (tCB (rTup1 K) (tCons (tVar 1) tNil)) (start N__law_bad [V.int c, V.ref a]) H1 (fun v G => BadR K G v) := fun H2 e2 Q q => eu_tupL (er_var rfl (e2 _ _ a1)) H2 (.refl H2) _ fun p H3 n3 e3 h3 => q _ H3 e3 (.inl ⟨"tuple", kit_tuple_list, fun H4 e4 => .base (.tup (e4 _ _ h3))⟩)
      exact ep_any (n := 6) badm (allb_cons badm tup (allb_cons badm (epb_flat ev_c rfl kit_str_list) (allb_cons badm (epb_flat ev_c rfl kit_NoneType_list) (allb_cons badm (epb_flat ev_c rfl kit_int_list) (allb_cons badm epb_disp (allb_cons badm (epb_flat ev_c rfl kit_bool_list) allb_nil)))))) (ev_i0 (ev_mod (ev_var rfl) ev_c (by walk_at "cg ar")) ev_c) (by omega) (by omega) (by decide) H1 (.refl H1) _ fun v H2 e2 b => q v H2 (e1.trans e2) b
    · have hc' := of_decide_eq_false hc
      have a1 := e1 _ _ ha
      refine q_asg (ev_mod (ev_mod (ev_var rfl) ev_c (by walk_at "cg ar")) (ev_i0 (ev_lenI (er_var rfl a1)) ev_c) (by show 0 < _; omega)) fun H2 e2 => ?_
      obtain ⟨k, hk, lk⟩ := mod_place (c / 13) (n := ns.length + 1) (by omega)
      rw [show ((ns.length : Int) + 1) = ((ns.length + 1 : Nat) : Int) by omega, hk]
      have a2 := e2 _ _ a1
      refine ep_within (K := K) (xs := ns.take k) (ys := ns.drop k) ?_ ?_ ?_ (bn.take _) (by rw [List.length_take, List.length_drop]; omega) H2 (.refl H2) _ fun v H3 e3 b => q v H3 ((e1.trans e2).trans e3) b
      · exact er_L (el_is (el_slToI (er_var rfl a2) (ev_var rfl) (by omega)) (by rw [Int.toNat_natCast]))
      · exact ep_any (n := 7) notm (allb_cons notm (ep_of ev_c fun _ _ => .inl ⟨2, rfl, by decide, by decide⟩) (allb_cons notm (ep_of (ev_un ev_c ru_neg) fun _ _ => .inl ⟨-1, rfl, by decide, by decide⟩) (allb_cons notm (ep_of ev_c fun _ _ => .inr (.inl ⟨_, rfl⟩)) (allb_cons notm (ep_of ev_c fun _ _ => .inr (.inl ⟨_, rfl⟩)) (allb_cons notm (epn_flat ev_c rfl kit_NoneType_int) (allb_cons notm (epn_flat ev_c rfl kit_str_int) (allb_cons notm (fun H3 e3 Q q => el_oneI ev_c H3 e3 _ fun p H4 n4 e4 h4 => q _ H4 e4 (.inr (.inr ⟨"list", kit_list_int, fun H5 e5 => .base (.lst (e5 _ _ h4))⟩))) allb_nil))))))) (ev_mod (ev_var rfl) ev_c (by walk_at "cg ar")) (by omega) (by omega) (by decide)
      · exact er_L (el_is (el_slFromI (er_var rfl a2) (ev_var rfl) (by omega)) (by rw [Int.toNat_natCast]))
theorem gfs_check {r : Int} {da : Addr} {w : Int} {ev : Bool} : (gfs r da w ev).lookup ("check" : Str) = none := gfs_no (by decide +kernel) (by decide +kernel) (by decide +kernel) (by decide +kernel)
theorem gfs_sealed {r : Int} {da : Addr} {w : Int} {ev : Bool} : (gfs r da w ev).lookup ("sealed" : Str) = none := gfs_no (by decide +kernel) (by decide +kernel) (by decide +kernel) (by decide +kernel)
/-- one of many by its number -/
theorem q_at0 {i : Nat} {k n : Int} {σ : L2.St} {H : Hp} {tu tz : TS} {D : Ends} (hv : σ[i]? = some (some (.int k))) (h1 : k = n → tu { D with nx := tz D } σ H) (h2 : k ≠ n → tz D σ H) : tSeq (tIfS (tTest (tOp (rI0 fun i j => V.bl (decide (i = j))) (tVar i) (tC (.int n)))) tu tNext) tz D σ H :=
  ⟨_, hv, k, n, rfl, rfl, decide (k = n), rfl, by
    by_cases e : k = n
    · rw [decide_eq_true e]
      exact if_yes (h1 e)
    · rw [decide_eq_false e]
      exact if_no' (h2 e)⟩
theorem two_facts {ds : List Int} (hd : ds = [1, 0, 1, 1] ∨ ds = [1, 1, 0, 1]) (D : IsDiv ds) : ds.length = 4 ∧ 4 ≤ rch ds ∧ zeroB ds [1, 0, 0, 0] = false ∧ mendR ds [1, 1, 1] = none := by
  have I := (rch_is D).1
  have p := I.pos
  have b := I.back
  have far : ∀ k, k < 4 → k ≠ 0 → its ds k (beg ds) ≠ beg ds := by rcases hd with rfl | rfl <;> decide +kernel
  refine ⟨?_, ?_, ?_, ?_⟩
  · rcases hd with rfl | rfl <;> rfl
  · refine Nat.le_of_not_lt fun h => far _ h (by omega) b
  · rcases hd with rfl | rfl <;> decide +kernel
  · unfold mendR
    rcases hd with rfl | rfl
    · rw [if_neg (by decide +kernel), show scanR [1, 0, 1, 1] (restR [1, 0, 1, 1] [1, 1, 1]) [(1 : Int), 1, 1].length 0 = none by decide +kernel]
      rfl
    · rw [if_neg (by decide +kernel), show scanR [1, 1, 0, 1] (restR [1, 1, 0, 1] [1, 1, 1]) [(1 : Int), 1, 1].length 0 = none by decide +kernel]
      rfl
def sp__law_rows_called (K : PySem.W.Frag) (cs : Cs) : Sp := fun vs H _ E => ∃ (k : Int) (v : V) (a : Addr) (ns : List Int), vs = [.int k, v, .ref a] ∧ BadR K H v ∧ H a = some (.lst (iv ns)) ∧ Bits ns ∧ (∀ H', Ex H H' → E (.ref cs.NoRow) none H')
theorem has__law_rows_called (T : Txt K mg cs) : Has P w K mg base 8 "_law_rows_called" ["_law_which", "_law_bad_here", "_law_row"] (sp__law_rows_called K cs) := by
  refine T.d__law_rows_called.ok sc__law_rows_called (fun vs H Q E h => ?_) (fun f cdv A outer s H vs Q E hr h => ?_)
  · obtain ⟨k, v, a, ns, rfl, _⟩ := h
    rfl
  · obtain ⟨k, v, a, ns, rfl, hb, ha, bn, q⟩ := h
    refine ⟨_, (pss_cons (ps_if (pt_cmpR op_eqII (pv 0) pe_int (nomark _)) (pss_one (ps_ret (pe_callH (has_added T) (hr.mono (by decide)) (passes_call (takes_of rfl rfl rfl rfl) (fun _ _ _ _ h => h)) (pa_cons (pv 1) (pa_cons pe_non pa_nil))))) pss_nil)
      (pss_cons (ps_if (pt_cmpR op_eqII (pv 0) pe_int (nomark _)) (pss_one (ps_ret (pe_callH (has_added T) (hr.mono (by decide)) (passes_call (takes_of rfl rfl rfl rfl) (fun _ _ _ _ h => h)) (pa_cons (pv 2) (pa_cons (pv 1) pa_nil))))) pss_nil)
      (pss_cons (ps_if (pt_cmpR op_eqII (pv 0) pe_int (nomark _)) (pss_one (ps_ret (pe_callH (has_times T) (hr.mono (by decide)) (passes_call (takes_of rfl rfl rfl rfl) (fun _ _ _ _ h => h)) (pa_cons (pv 1) (pa_cons pe_non pa_nil))))) pss_nil)
      (pss_cons (ps_if (pt_cmpR op_eqII (pv 0) pe_int (nomark _)) (pss_one (ps_ret (pe_callH (has_times T) (hr.mono (by decide)) (passes_call (takes_of rfl rfl rfl rfl) (fun _ _ _ _ h => h)) (pa_cons (pv 2) (pa_cons (pv 1) pa_nil))))) pss_nil)
      (pss_cons (ps_if (pt_cmpR op_eqII (pv 0) pe_int (nomark _)) (pss_one (ps_ret (pe_callH (has_parted T) (hr.mono (by decide)) (passes_call (takes_of rfl rfl rfl rfl) (fun _ _ _ _ h => h)) (pa_cons (pv 1) (pa_cons (pe_lst pa_nil) pa_nil))))) pss_nil)
      (pss_cons (ps_if (pt_cmpR op_eqII (pv 0) pe_int (nomark _)) (pss_one (ps_ret (pe_callH (has_parted T) (hr.mono (by decide)) (passes_call (takes_of rfl rfl rfl rfl) (fun _ _ _ _ h => h)) (pa_cons (pv 2) (pa_cons (pv 1) pa_nil))))) pss_nil)
      (pss_cons (ps_if (pt_cmpR op_eqII (pv 0) pe_int (nomark _)) (pss_one (ps_ret (pe_callH (has_reach T) (hr.mono (by decide)) (passes_call (takes_of rfl rfl rfl rfl) (fun _ _ _ _ h => h)) (pa_cons (pv 1) pa_nil)))) pss_nil)
      (pss_cons (ps_if (pt_cmpR op_eqII (pv 0) pe_int (nomark _)) (pss_one (ps_ret (pe_makeH (has_Gate___init__ T) (hr.mono (by decide)) T.c_Gate.g (passes_call (takes_of rfl rfl rfl rfl) (fun _ _ _ _ h => h)) (pa_cons (pv 1) pa_nil)))) pss_nil)
      (pss_one (ps_ret (pe_callH (has_text_of T) (hr.mono (by decide)) (passes_call (takes_of rfl rfl rfl rfl) (fun _ _ _ _ h => h)) (pa_cons (pv 1) pa_nil)))))))))))), ?_⟩
    refine q_at0 rfl (fun _ => s_retC (ea_two (ev_var rfl) ev_c) fun H1 e1 => ⟨_, _, rfl, .inl (hb.mono e1), fun H2 e2 => q H2 (e1.trans e2)⟩) fun _ => ?_
    refine q_at0 rfl (fun _ => s_retC (ea_two (ev_var rfl) (ev_var rfl)) fun H1 e1 => ⟨_, _, rfl, .inr ⟨a, ns, rfl, e1 _ _ ha, bn, hb.mono e1⟩, fun H2 e2 => q H2 (e1.trans e2)⟩) fun _ => ?_
    refine q_at0 rfl (fun _ => s_retC (ea_two (ev_var rfl) ev_c) fun H1 e1 => ⟨_, _, rfl, .inl (hb.mono e1), fun H2 e2 => q H2 (e1.trans e2)⟩) fun _ => ?_
    refine q_at0 rfl (fun _ => s_retC (ea_two (ev_var rfl) (ev_var rfl)) fun H1 e1 => ⟨_, _, rfl, .inr ⟨a, ns, rfl, e1 _ _ ha, bn, hb.mono e1⟩, fun H2 e2 => q H2 (e1.trans e2)⟩) fun _ => ?_
    refine q_at0 rfl (fun _ => s_retP (eap_ev (ev_var rfl) (eap_er (er_L el_nilI) eap_nil)) ?_) fun _ => ?_
    · rintro vs H1 e1 ⟨_, rfl, p, _, rfl, hp, rfl⟩
      exact .inr ⟨_, _, rfl, .inl (hb.mono e1), fun H2 e2 => q H2 (e1.trans e2)⟩
    refine q_at0 rfl (fun _ => s_retC (ea_two (ev_var rfl) (ev_var rfl)) fun H1 e1 => .inr ⟨_, _, rfl, .inr ⟨a, ns, rfl, e1 _ _ ha, bn, hb.mono e1⟩, fun H2 e2 => q H2 (e1.trans e2)⟩) fun _ => ?_
    refine q_at0 rfl (fun _ => s_retC (ea_one (ev_var rfl)) fun H1 e1 => .inr ⟨_, rfl, hb.mono e1, fun H2 e2 => q H2 (e1.trans e2)⟩) fun _ => ?_
    refine q_at0 rfl (fun _ => s_retW (make_go (eap_ev (ev_var rfl) eap_nil) ?_)) fun _ => ?_
    · rintro vs H1 e1 ⟨_, rfl, rfl⟩ y dy ny nd ne
      have e2 : Ex H1 (upd (upd H1 dy (.own y)) y (.ins cs.Gate dy [])) := fun _ _ h => upd2_at ny nd h
      exact .inr ⟨y, dy, v, rfl, upd_same, (hb.mono e1).mono e2, fun H2 e3 => q H2 ((e1.trans e2).trans e3)⟩
    exact s_retC (ea_one (ev_var rfl)) fun H1 e1 => ⟨_, rfl, hb.mono e1, fun H2 e2 => q H2 (e1.trans e2)⟩
def sp__law_gate_called (K : PySem.W.Frag) (cs : Cs) : Sp := fun vs H _ E => ∃ (k : Int) (v : V) (g da : Addr) (ds : List Int), vs = [.int k, v, .ref g] ∧ BadR K H v ∧ GateAt cs H g da ds ∧ (∀ H', Ex H H' → E (.ref cs.NoRow) none H')
theorem has__law_gate_called (T : Txt K mg cs) : Has P w K mg base 9 "_law_gate_called" ["_law_which", "_law_bad_here", "_law_gate"] (sp__law_gate_called K cs) := by
  refine T.d__law_gate_called.ok sc__law_gate_called (fun vs H Q E h => ?_) (fun f cdv A outer s H vs Q E hr h => ?_)
  · obtain ⟨k, v, g, da, ds, rfl, _⟩ := h
    rfl
  · obtain ⟨k, v, g, da, ds, rfl, hb, G, q⟩ := h
    refine ⟨_, (pss_cons (ps_if (pt_cmpR op_eqII (pv 0) pe_int (nomark _)) (pss_one (ps_ret (pe_methH (pv 2) T.c_Gate.cl (has_Gate_rest T) (hr.mono (by decide)) (passes_call (takes_of rfl rfl rfl rfl) (fun _ _ _ _ h => h)) (pa_cons (pv 1) pa_nil)))) pss_nil)
      (pss_cons (ps_if (pt_cmpR op_eqII (pv 0) pe_int (nomark _)) (pss_one (ps_ret (pe_methH (pv 2) T.c_Gate.cl (has_Gate_later T) (hr.mono (by decide)) (passes_call (takes_of rfl rfl rfl rfl) (fun _ _ _ _ h => h)) (pa_cons (pv 1) (pa_cons (pe_un un_neg pe_int) pa_nil))))) pss_nil)
      (pss_cons (ps_if (pt_cmpR op_eqII (pv 0) pe_int (nomark _)) (pss_one (ps_ret (pe_methH (pv 2) T.c_Gate.cl (has_Gate_check T) (hr.mono (by decide)) (passes_call (takes_of rfl rfl rfl rfl) (fun _ _ _ _ h => h)) (pa_cons (pv 1) pa_nil)))) pss_nil)
      (pss_cons (ps_if (pt_cmpR op_eqII (pv 0) pe_int (nomark _)) (pss_one (ps_ret (pe_methH (pv 2) T.c_Gate.cl (has_Gate_sealed T) (hr.mono (by decide)) (passes_call (takes_of rfl rfl rfl rfl) (fun _ _ _ _ h => h)) (pa_cons (pv 1) pa_nil)))) pss_nil)
      (pss_cons (ps_if (pt_cmpR op_eqII (pv 0) pe_int (nomark _)) (pss_one (ps_ret (pe_methH (pv 2) T.c_Gate.cl (has_Gate_holds T) (hr.mono (by decide)) (passes_call (takes_of rfl rfl rfl rfl) (fun _ _ _ _ h => h)) (pa_cons (pv 1) pa_nil)))) pss_nil)
      (pss_cons (ps_if (pt_cmpR op_eqII (pv 0) pe_int (nomark _)) (pss_one (ps_ret (pe_methH (pv 2) T.c_Gate.cl (has_Gate_opened T) (hr.mono (by decide)) (passes_call (takes_of rfl rfl rfl rfl) (fun _ _ _ _ h => h)) (pa_cons (pv 1) pa_nil)))) pss_nil)
      (pss_one (ps_ret (pe_methH (pv 2) T.c_Gate.cl (has_Gate_mended T) (hr.mono (by decide)) (passes_call (takes_of rfl rfl rfl rfl) (fun _ _ _ _ h => h)) (pa_cons (pv 1) pa_nil)))))))))), ?_⟩
    obtain ⟨dx, ho⟩ := G.ob
    refine q_at0 rfl (fun _ => s_retW (meth_go (ev_var rfl) ho gfs_rest fun H1 e1 => ea_go (ea_one (ev_var rfl)) fun H2 e2 => .inr ⟨g, da, v, ds, rfl, (G.mono e1).mono e2, (hb.mono e1).mono e2, fun H3 e3 => q H3 ((e1.trans e2).trans e3)⟩)) fun _ => ?_
    refine q_at0 rfl (fun _ => s_retW (meth_go (ev_var rfl) ho gfs_later fun H1 e1 => ea_go (ea_two (ev_var rfl) (ev_un ev_c ru_neg)) fun H2 e2 => ⟨g, da, v, _, ds, rfl, (G.mono e1).mono e2, .inl ⟨(hb.mono e1).mono e2, fun H3 e3 => q H3 ((e1.trans e2).trans e3)⟩⟩)) fun _ => ?_
    refine q_at0 rfl (fun _ => s_retW (meth_go (ev_var rfl) ho gfs_check fun H1 e1 => ea_go (ea_one (ev_var rfl)) fun H2 e2 => ⟨_, v, rfl, (hb.mono e1).mono e2, fun H3 e3 => q H3 ((e1.trans e2).trans e3)⟩)) fun _ => ?_
    refine q_at0 rfl (fun _ => s_retW (meth_go (ev_var rfl) ho gfs_sealed fun H1 e1 => ea_go (ea_one (ev_var rfl)) fun H2 e2 => ⟨g, da, v, ds, rfl, (G.mono e1).mono e2, .inl ⟨(hb.mono e1).mono e2, fun H3 e3 => q H3 ((e1.trans e2).trans e3)⟩⟩)) fun _ => ?_
    refine q_at0 rfl (fun _ => s_retW (meth_go (ev_var rfl) ho gfs_holds fun H1 e1 => ea_go (ea_one (ev_var rfl)) fun H2 e2 => .inr ⟨g, da, v, ds, rfl, (G.mono e1).mono e2, (hb.mono e1).mono e2, fun H3 e3 => q H3 ((e1.trans e2).trans e3)⟩)) fun _ => ?_
    refine q_at0 rfl (fun _ => s_retW (meth_go (ev_var rfl) ho gfs_opened fun H1 e1 => ea_go (ea_one (ev_var rfl)) fun H2 e2 => .inr ⟨g, da, v, ds, rfl, (G.mono e1).mono e2, (hb.mono e1).mono e2, fun H3 e3 => q H3 ((e1.trans e2).trans e3)⟩)) fun _ => ?_
    exact s_retW (meth_go (ev_var rfl) ho gfs_mended fun H1 e1 => ea_go (ea_one (ev_var rfl)) fun H2 e2 => .inr ⟨g, da, v, ds, rfl, (G.mono e1).mono e2, (hb.mono e1).mono e2, fun H3 e3 => q H3 ((e1.trans e2).trans e3)⟩)
/-- what is due -/
def dueC (cs : Cs) (k : Int) : Addr := if k < 18 then cs.NoRow else if k = 18 then cs.NoSign else if k < 21 then cs.NoDivisor else if k = 21 then cs.NoCount else if k = 22 then cs.TooLong else if k = 23 then cs.TooShort else if k < 26 then cs.Broken else if k = 26 then cs.NoMate else cs.NoText
def sp__law_else_called (cs : Cs) : Sp := fun vs H _ E => ∃ (k : Int) (a g da : Addr) (ns ds : List Int), vs = [.int k, .ref a, .ref g] ∧ 16 ≤ k ∧ k < 28 ∧ H a = some (.lst (iv ns)) ∧ Bits ns ∧ ns.length ≤ 1000 ∧ GateAt cs H g da ds ∧ (ds = [1, 0, 1, 1] ∨ ds = [1, 1, 0, 1]) ∧ (∀ H', Ex H H' → E (.ref (dueC cs k)) none H')
theorem has__law_else_called (T : Txt K mg cs) : Has P w K mg base 10 "_law_else_called" ["_law_which", "_law_row", "_law_gate"] (sp__law_else_called cs) := by
  refine T.d__law_else_called.ok sc__law_else_called (fun vs H Q E h => ?_) (fun f cdv A outer s H vs Q E hr h => ?_)
  · obtain ⟨k, a, g, da, ns, ds, rfl, _⟩ := h
    rfl
  · obtain ⟨k, a, g, da, ns, ds, rfl, k1, k2, ha, bn, ln, G, hd, q⟩ := h
    refine ⟨_, (pss_cons (ps_if (pt_cmpR op_eqII (pv 0) pe_int (nomark _)) (pss_one (ps_ret (pe_methH (pv 2) T.c_Gate.cl (has_Gate_later T) (hr.mono (by decide)) (passes_call (takes_of rfl rfl rfl rfl) (fun _ _ _ _ h => h)) (pa_cons (pe_op op_cat (pv 1) (pe_op op_rep (pe_lst (pa_cons pe_int pa_nil)) (pe_op op_sub (pe_op op_add (pe_fld (pv 2) rfl) pe_int) (pe_callB (kk_len K) (by rfl) T.z_len b_len (pa_cons (pv 1) pa_nil))))) (pa_cons (pe_un un_neg pe_int) pa_nil))))) pss_nil)
      (pss_cons (ps_if (pt_cmpR op_eqII (pv 0) pe_int (nomark _)) (pss_one (ps_ret (pe_methH (pv 2) T.c_Gate.cl (has_Gate_later T) (hr.mono (by decide)) (passes_call (takes_of rfl rfl rfl rfl) (fun _ _ _ _ h => h)) (pa_cons (pe_op op_rep (pe_lst (pa_cons pe_int pa_nil)) (pe_op op_mod (pe_callB (kk_len K) (by rfl) T.z_len b_len (pa_cons (pv 1) pa_nil)) (pe_fld (pv 2) rfl))) (pa_cons pe_non pa_nil))))) pss_nil)
      (pss_cons (ps_if (pt_cmpR op_eqII (pv 0) pe_int (nomark _)) (pss_one (ps_ret (pe_methH (pe_makeH (has_Register___init__ T) (hr.mono (by decide)) T.c_Register.g (passes_call (takes_of rfl rfl rfl rfl) (fun _ _ _ _ h => h)) (pa_cons (pv 2) pa_nil)) T.c_Register.cl (has_Register_put T) (hr.mono (by decide)) (passes_call (takes_of rfl rfl rfl rfl) (fun _ _ _ _ h => h)) (pa_cons pe_int pa_nil)))) pss_nil)
      (pss_cons (ps_if (pt_cmpR op_eqII (pv 0) pe_int (nomark _)) (pss_one (ps_ret (pe_callH (has_parted T) (hr.mono (by decide)) (passes_call (takes_of rfl rfl rfl rfl) (fun _ _ _ _ h => h)) (pa_cons (pv 1) (pa_cons (pe_lst (pa_cons pe_int (pa_cons pe_int pa_nil))) pa_nil))))) pss_nil)
      (pss_cons (ps_if (pt_cmpR op_eqII (pv 0) pe_int (nomark _)) (pss_one (ps_ret (pe_makeH (has_Gate___init__ T) (hr.mono (by decide)) T.c_Gate.g (passes_call (takes_of rfl rfl rfl rfl) (fun _ _ _ _ h => h)) (pa_cons (pe_lst (pa_cons pe_int pa_nil)) pa_nil)))) pss_nil)
      (pss_cons (ps_if (pt_cmpR op_eqII (pv 0) pe_int (nomark _)) (pss_one (ps_ret (pe_methH (pv 2) T.c_Gate.cl (has_Gate_later T) (hr.mono (by decide)) (passes_call (takes_of rfl rfl rfl rfl) (fun _ _ _ _ h => h)) (pa_cons (pe_op op_rep (pe_lst (pa_cons pe_int pa_nil)) (pe_fld (pv 2) rfl)) (pa_cons (pe_op op_sub (pe_un un_neg pe_int) (pe_callB (kk_len K) (by rfl) T.z_len b_len (pa_cons (pv 1) pa_nil))) pa_nil))))) pss_nil)
      (pss_cons (ps_if (pt_cmpR op_eqII (pv 0) pe_int (nomark _)) (pss_one (ps_ret (pe_methH (pv 2) T.c_Gate.cl (has_Gate_sealed T) (hr.mono (by decide)) (passes_call (takes_of rfl rfl rfl rfl) (fun _ _ _ _ h => h)) (pa_cons (pe_op op_cat (pv 1) (pe_op op_rep (pe_lst (pa_cons pe_int pa_nil)) (pe_fld (pv 2) rfl))) pa_nil)))) pss_nil)
      (pss_cons (ps_if (pt_cmpR op_eqII (pv 0) pe_int (nomark _)) (pss_one (ps_ret (pe_methH (pv 2) T.c_Gate.cl (has_Gate_holds T) (hr.mono (by decide)) (passes_call (takes_of rfl rfl rfl rfl) (fun _ _ _ _ h => h)) (pa_cons (pe_op op_rep (pe_lst (pa_cons pe_int pa_nil)) (pe_op op_mod (pe_callB (kk_len K) (by rfl) T.z_len b_len (pa_cons (pv 1) pa_nil)) (pe_fld (pv 2) rfl))) pa_nil)))) pss_nil)
      (pss_cons (ps_if (pt_cmpR op_eqII (pv 0) pe_int (nomark _)) (pss_one (ps_ret (pe_methH (pv 2) T.c_Gate.cl (has_Gate_opened T) (hr.mono (by decide)) (passes_call (takes_of rfl rfl rfl rfl) (fun _ _ _ _ h => h)) (pa_cons (pe_op op_cat (pe_lst (pa_cons pe_int pa_nil)) (pe_op op_rep (pe_lst (pa_cons pe_int pa_nil)) (pe_fld (pv 2) rfl))) pa_nil)))) pss_nil)
      (pss_cons (ps_if (pt_cmpR op_eqII (pv 0) pe_int (nomark _)) (pss_one (ps_ret (pe_methH (pv 2) T.c_Gate.cl (has_Gate_mended T) (hr.mono (by decide)) (passes_call (takes_of rfl rfl rfl rfl) (fun _ _ _ _ h => h)) (pa_cons (pe_lst (pa_cons pe_int (pa_cons pe_int (pa_cons pe_int pa_nil)))) pa_nil)))) pss_nil)
      (pss_cons (ps_if (pt_cmpR op_eqII (pv 0) pe_int (nomark _)) (pss_one (ps_ret (pe_methH (pe_makeH (has_Register___init__ T) (hr.mono (by decide)) T.c_Register.g (passes_call (takes_of rfl rfl rfl rfl) (fun _ _ _ _ h => h)) (pa_cons (pv 2) pa_nil)) T.c_Register.cl (has_Register_joined T) (hr.mono (by decide)) (passes_call (takes_of rfl rfl rfl rfl) (fun _ _ _ _ h => h)) (pa_cons (pv 1) pa_nil)))) pss_nil)
      (pss_one (ps_ret (pe_callH (has_row_of T) (hr.mono (by decide)) (passes_call (takes_of rfl rfl rfl rfl) (fun _ _ _ _ h => h)) (pa_cons (pv 1) pa_nil))))))))))))))), ?_⟩
    have D := G.D
    have two := two_facts hd D
    obtain ⟨l4, r4, zB, mN⟩ := two
    obtain ⟨dx, ho⟩ := G.ob
    have rt := rch_top D
    have b1 : Bits [(1 : Int)] := .one (.inr rfl)
    have wd : ∀ {H1 : Hp}, Ex H H1 → Ev (tFld K (tVar 2) ("width" : Str)) (start N__law_else_called [V.int k, V.ref a, V.ref g]) H1 (.int ((ds.length - 1 : Nat) : Int)) := fun e => ev_fld (ev_var rfl) (e _ _ ho) T.c_Gate.cl T.n_Gate_width gfs_width
    have rc : ∀ {H1 : Hp}, Ex H H1 → Ev (tFld K (tVar 2) ("reach" : Str)) (start N__law_else_called [V.int k, V.ref a, V.ref g]) H1 (.int ((rch ds : Nat) : Int)) := fun e => ev_fld (ev_var rfl) (e _ _ ho) T.c_Gate.cl T.n_Gate_reach gfs_reach
    have ln' : ∀ {H1 : Hp}, Ex H H1 → Ev (tCB (rLenS K) (tCons (tVar 1) tNil)) (start N__law_else_called [V.int k, V.ref a, V.ref g]) H1 (.int ((ns.length : Nat) : Int)) := fun e => ev_lenI (er_var rfl (e _ _ ha))
    have md : ∀ {H1 : Hp}, Ex H H1 → Ev (tOp (rI (fun x j => 0 < j) fun i j => V.int (i % j)) (tCB (rLenS K) (tCons (tVar 1) tNil)) (tFld K (tVar 2) ("width" : Str))) (start N__law_else_called [V.int k, V.ref a, V.ref g]) H1 (.int ((ns.length % 3 : Nat) : Int)) := fun e => ev_is (ev_mod (ln' e) (wd e) (by rw [l4]; decide)) (congrArg V.int (by rw [l4]; omega))
    have m3 : ns.length % 3 < 3 := Nat.mod_lt _ (by decide)
    have bO : ∀ n, Bits (List.replicate n (1 : Int)) := fun n => .rep _ (.inr rfl)
    have bZ : ∀ n, Bits (List.replicate n (0 : Int)) := fun n => .rep _ (.inl rfl)
    refine q_at0 rfl (fun hk => s_retW (meth_go (ev_var rfl) ho gfs_later fun H1 e1 => ap_go (eap_er (er_L (el_catI (er_var rfl (e1 _ _ ha)) (er_L (el_repI ev_c (ev_i0 (ev_i0 (wd e1) ev_c) (ln' e1)) (by omega))) (by rw [List.length_replicate]; omega))) (eap_ev (ev_un ev_c ru_neg) eap_nil)) ?_)) fun _ => ?_
    · subst hk
      rintro vs H2 e2 ⟨p, _, rfl, hp, _, rfl, rfl⟩
      exact ⟨g, da, .ref p, _, ds, rfl, (G.mono e1).mono e2, .inr ⟨p, _, rfl, hp, bn.append (bZ _), .inl ⟨by rw [List.length_append, List.length_replicate]; omega, fun H3 e3 => q H3 ((e1.trans e2).trans e3)⟩⟩⟩
    refine q_at0 rfl (fun hk => s_retW (meth_go (ev_var rfl) ho gfs_later fun H1 e1 => ap_go (eap_er (er_L (el_repN ev_c (md e1) (by omega))) (eap_ev ev_c eap_nil)) ?_)) fun _ => ?_
    · subst hk
      rintro vs H2 e2 ⟨p, _, rfl, hp, _, rfl, rfl⟩
      exact ⟨g, da, .ref p, _, ds, rfl, (G.mono e1).mono e2, .inr ⟨p, _, rfl, hp, bO _, .inl ⟨by rw [List.length_replicate]; omega, fun H3 e3 => q H3 ((e1.trans e2).trans e3)⟩⟩⟩
    refine q_at0 rfl (fun hk => s_retW ?_) fun _ => ?_
    · subst hk
      show tMake cs.Register (sp_Register___init__ cs) [] E (tCons (tVar 2) tNil) _ H (fun x H1 => ∃ a dx fs, x = V.ref a ∧ H1 a = some (.ins cs.Register dx fs) ∧ fs.lookup ("put" : Str) = none ∧ _)
      refine reg_make (ev_var rfl) G fun r g2 d2 ra H1 _ _ _ _ e1 R => ?_
      obtain ⟨dxr, hor⟩ := R.ob
      exact ⟨r, dxr, _, rfl, hor, rfs_put, ea_go (ea_one ev_c) fun H2 e2 => ⟨.ref r, .int 2, rfl, .inl ⟨2, rfl, by decide, by decide⟩, fun H3 e3 => q H3 ((e1.trans e2).trans e3)⟩⟩
    refine q_at0 rfl (fun hk => s_retP (eap_ev (ev_var rfl) (eap_er (er_L (el_lst (vs := iv [0, 1]) (ea_two ev_c ev_c) (by show 2 ≤ 100000; decide))) eap_nil)) ?_) fun _ => ?_
    · subst hk
      rintro vs H1 e1 ⟨_, rfl, p, _, rfl, hp, rfl⟩
      exact .inl ⟨a, p, ns, [0, 1], rfl, e1 _ _ ha, hp, bn, by intro x hx; simp at hx; omega, by omega, by decide, fun h => absurd h (by decide), fun _ H2 e2 => q H2 (e1.trans e2)⟩
    refine q_at0 rfl (fun hk => s_retW (make_go (eap_er (er_L (el_oneI ev_c)) eap_nil) ?_)) fun _ => ?_
    · subst hk
      rintro vs H1 e1 ⟨p, _, rfl, hp, rfl⟩ y dy ny nd ne
      have e2 : Ex H1 (upd (upd H1 dy (.own y)) y (.ins cs.Gate dy [])) := fun _ _ h => upd2_at ny nd h
      exact .inl ⟨y, dy, p, [1], rfl, upd_same, e2 _ _ hp, b1, fun D1 => absurd D1.two (by decide), fun _ H2 e3 => q H2 ((e1.trans e2).trans e3)⟩
    refine q_at0 rfl (fun hk => s_retW (meth_go (ev_var rfl) ho gfs_later fun H1 e1 => ap_go (eap_er (er_L (el_repN ev_c (wd e1) (by omega))) (eap_ev (ev_i0 (ev_un ev_c ru_neg) (ln' e1)) eap_nil)) ?_)) fun _ => ?_
    · subst hk
      rintro vs H2 e2 ⟨p, _, rfl, hp, _, rfl, rfl⟩
      exact ⟨g, da, .ref p, _, ds, rfl, (G.mono e1).mono e2, .inr ⟨p, _, rfl, hp, bZ _, .inr ⟨List.length_replicate, by show some (decide _ && decide _) = _; rw [decide_eq_false (by omega)]; rfl, fun H3 e3 => q H3 ((e1.trans e2).trans e3)⟩⟩⟩
    refine q_at0 rfl (fun hk => s_retW (meth_go (ev_var rfl) ho gfs_sealed fun H1 e1 => ap_go (eap_er (er_L (el_catI (er_var rfl (e1 _ _ ha)) (er_L (el_repN ev_c (rc e1) (by omega))) (by rw [List.length_replicate]; omega))) eap_nil) ?_)) fun _ => ?_
    · subst hk
      rintro vs H2 e2 ⟨p, _, rfl, hp, rfl⟩
      exact ⟨g, da, .ref p, ds, rfl, (G.mono e1).mono e2, .inr ⟨p, _, rfl, hp, bn.append (bZ _), by rw [List.length_append, List.length_replicate]; omega, fun H3 e3 => q H3 ((e1.trans e2).trans e3)⟩⟩
    refine q_at0 rfl (fun hk => s_retW (meth_go (ev_var rfl) ho gfs_holds fun H1 e1 => ap_go (eap_er (er_L (el_repN ev_c (md e1) (by omega))) eap_nil) ?_)) fun _ => ?_
    · subst hk
      rintro vs H2 e2 ⟨p, _, rfl, hp, rfl⟩
      exact .inl ⟨g, da, p, ds, _, rfl, (G.mono e1).mono e2, hp, bO _, by rw [List.length_replicate]; omega, fun _ H3 e3 => q H3 ((e1.trans e2).trans e3), fun h => by rw [List.length_replicate] at h; omega, fun h => by rw [List.length_replicate] at h; omega⟩
    refine q_at0 rfl (fun hk => s_retW (meth_go (ev_var rfl) ho gfs_opened fun H1 e1 => ap_go (eap_er (er_L (el_catI (er_L (el_oneI ev_c)) (er_L (el_repN ev_c (wd e1) (by omega))) (by rw [List.length_replicate]; show 1 + _ ≤ _; omega))) eap_nil) ?_)) fun _ => ?_
    · subst hk
      rintro vs H2 e2 ⟨p, _, rfl, hp, rfl⟩
      have ex : ([1] ++ List.replicate (ds.length - 1) 0 : List Int) = [1, 0, 0, 0] := by rw [l4]; rfl
      rw [ex] at hp
      exact .inl ⟨g, da, p, ds, [1, 0, 0, 0], rfl, (G.mono e1).mono e2, hp, b1.append (bZ 3), by decide, fun h => absurd h (by rw [l4]; decide), fun h => absurd h (by show ¬ rch ds < 4; omega), fun _ _ => ⟨fun hz => (by rw [zB] at hz; cases hz), fun _ H3 e3 => q H3 ((e1.trans e2).trans e3)⟩⟩
    refine q_at0 rfl (fun hk => s_retW (meth_go (ev_var rfl) ho gfs_mended fun H1 e1 => ap_go (eap_er (er_L (el_lst (vs := iv [1, 1, 1]) (ea_cons ev_c (ea_two ev_c ev_c)) (by show 3 ≤ 100000; decide))) eap_nil) ?_)) fun _ => ?_
    · subst hk
      rintro vs H2 e2 ⟨p, _, rfl, hp, rfl⟩
      exact .inl ⟨g, da, p, ds, [1, 1, 1], rfl, (G.mono e1).mono e2, hp, bO 3, by decide, fun h => absurd h (by rw [l4]; decide), fun h => absurd h (by show ¬ rch ds < 3; omega), fun _ _ => ⟨fun zs hz => (by rw [mN] at hz; cases hz), fun _ H3 e3 => q H3 ((e1.trans e2).trans e3)⟩⟩
    refine q_at0 rfl (fun hk => s_retW ?_) fun _ => ?_
    · subst hk
      show tMake cs.Register (sp_Register___init__ cs) [] E (tCons (tVar 2) tNil) _ H (fun x H1 => ∃ a dx fs, x = V.ref a ∧ H1 a = some (.ins cs.Register dx fs) ∧ fs.lookup ("joined" : Str) = none ∧ _)
      refine reg_make (ev_var rfl) G fun r g2 d2 ra H1 _ _ _ _ e1 R => ?_
      obtain ⟨dxr, hor⟩ := R.ob
      exact ⟨r, dxr, _, rfl, hor, rfs_joined, ea_go (ea_one (ev_var rfl)) fun H2 e2 => ⟨.ref r, a, _, rfl, e2 _ _ (e1 _ _ ha), fun H3 e3 => q H3 ((e1.trans e2).trans e3)⟩⟩
    obtain rfl : k = 27 := by omega
    exact s_retC (ea_one (ev_var rfl)) fun H1 e1 => ⟨a, _, rfl, e1 _ _ ha, fun H2 e2 => q H2 (e1.trans e2)⟩
def dueS (k : Int) : Str := if k < 18 then "r" else if k = 18 then "s" else if k < 21 then "d" else if k = 21 then "c" else if k = 22 then "l" else if k = 23 then "h" else if k < 26 then "b" else if k = 26 then "m" else "t"
def sp__law_words (K : PySem.W.Frag) (cs : Cs) : Sp := fun vs H Q _ => ∃ (k : Int) (v : V) (a g da : Addr) (ns ds : List Int), vs = [.int k, v, .ref a, .ref g] ∧ k < 28 ∧ BadR K H v ∧ H a = some (.lst (iv ns)) ∧ Bits ns ∧ ns.length ≤ 1000 ∧ GateAt cs H g da ds ∧ (ds = [1, 0, 1, 1] ∨ ds = [1, 1, 0, 1]) ∧ RetV (.str (dueS k ++ ("v" : Str))) H Q
theorem has__law_words (T : Txt K mg cs) : Has P w K mg base 11 "_law_words" ["_law_which", "_law_bad_here", "_law_row", "_law_gate"] (sp__law_words K cs) := by
  refine T.d__law_words.ok sc__law_words (fun vs H Q E h => ?_) (fun f cdv A outer s H vs Q E hr h => ?_)
  · obtain ⟨k, v, a, g, da, ns, ds, rfl, _⟩ := h
    rfl
  · obtain ⟨k, v, a, g, da, ns, ds, rfl, k2, hb, ha, bn, ln, G, hd, q⟩ := h
    refine ⟨_, (pss_cons (ps_try_as (i := 4) rfl rfl sc__law_words.nd rfl rfl ⟨rfl, by decide, .inl T.e_GateError.g⟩ takes0 (fun W pn xe tk pOwn => (pss_one (ps_if (pt_cmpR op_lt (pv 0) pe_int (nomark _)) (pss_one (ps_expr (pe_callHS (has__law_rows_called T) (hr.mono (by decide)) (fun σ => passAt tk σ) (pa_cons (pv 0) (pa_cons (pv 1) (pa_cons (pv 2) pa_nil)))))) (pss_one (ps_if (pt_cmpR op_lt (pv 0) pe_int (nomark _)) (pss_one (ps_expr (pe_callHS (has__law_gate_called T) (hr.mono (by decide)) (fun σ => passAt tk σ) (pa_cons (pv 0) (pa_cons (pv 1) (pa_cons (pv 3) pa_nil)))))) (pss_one (ps_expr (pe_callHS (has__law_else_called T) (hr.mono (by decide)) (fun σ => passAt tk σ) (pa_cons (pv 0) (pa_cons (pv 2) (pa_cons (pv 3) pa_nil))))))))))) (fun a oe cls d pn hz hf => (pss_cons (ps_set (i := 5) sc__law_words.nd rfl (Or.inl rfl) (pe_op op_add_str (pe_op op_str01 pe_str (pe_callTy kk_int (by rfl) T.z_int b_int (pa_cons (pe_callB (call_isX hz hf) (by rfl) T.z_isinstance b_isinstance (pa_cons (pv 4) (pa_cons (pe_glob (v := .ref cs.NoRow) rfl T.e_NoRow.g rfl) pa_nil))) pa_nil))) (pe_op op_str01 pe_str (pe_callTy kk_int (by rfl) T.z_int b_int (pa_cons (pe_callB (call_isX hz hf) (by rfl) T.z_isinstance b_isinstance (pa_cons (pv 4) (pa_cons (pe_glob (v := .ref cs.NoSign) rfl T.e_NoSign.g rfl) pa_nil))) pa_nil)))))
      (pss_cons (ps_set (i := 5) sc__law_words.nd rfl (Or.inl rfl) (pe_op op_add_str (pe_op op_add_str (pv 5) (pe_op op_str01 pe_str (pe_callTy kk_int (by rfl) T.z_int b_int (pa_cons (pe_callB (call_isX hz hf) (by rfl) T.z_isinstance b_isinstance (pa_cons (pv 4) (pa_cons (pe_glob (v := .ref cs.NoDivisor) rfl T.e_NoDivisor.g rfl) pa_nil))) pa_nil)))) (pe_op op_str01 pe_str (pe_callTy kk_int (by rfl) T.z_int b_int (pa_cons (pe_callB (call_isX hz hf) (by rfl) T.z_isinstance b_isinstance (pa_cons (pv 4) (pa_cons (pe_glob (v := .ref cs.NoCount) rfl T.e_NoCount.g rfl) pa_nil))) pa_nil)))))
      (pss_cons (ps_set (i := 5) sc__law_words.nd rfl (Or.inl rfl) (pe_op op_add_str (pe_op op_add_str (pv 5) (pe_op op_str01 pe_str (pe_callTy kk_int (by rfl) T.z_int b_int (pa_cons (pe_callB (call_isX hz hf) (by rfl) T.z_isinstance b_isinstance (pa_cons (pv 4) (pa_cons (pe_glob (v := .ref cs.TooLong) rfl T.e_TooLong.g rfl) pa_nil))) pa_nil)))) (pe_op op_str01 pe_str (pe_callTy kk_int (by rfl) T.z_int b_int (pa_cons (pe_callB (call_isX hz hf) (by rfl) T.z_isinstance b_isinstance (pa_cons (pv 4) (pa_cons (pe_glob (v := .ref cs.TooShort) rfl T.e_TooShort.g rfl) pa_nil))) pa_nil)))))
      (pss_cons (ps_set (i := 5) sc__law_words.nd rfl (Or.inl rfl) (pe_op op_add_str (pe_op op_add_str (pv 5) (pe_op op_str01 pe_str (pe_callTy kk_int (by rfl) T.z_int b_int (pa_cons (pe_callB (call_isX hz hf) (by rfl) T.z_isinstance b_isinstance (pa_cons (pv 4) (pa_cons (pe_glob (v := .ref cs.Broken) rfl T.e_Broken.g rfl) pa_nil))) pa_nil)))) (pe_op op_str01 pe_str (pe_callTy kk_int (by rfl) T.z_int b_int (pa_cons (pe_callB (call_isX hz hf) (by rfl) T.z_isinstance b_isinstance (pa_cons (pv 4) (pa_cons (pe_glob (v := .ref cs.NoMate) rfl T.e_NoMate.g rfl) pa_nil))) pa_nil)))))
      (pss_one (ps_ret (pe_op op_add_str (pe_op op_add_str (pv 5) (pe_op op_str01 pe_str (pe_callTy kk_int (by rfl) T.z_int b_int (pa_cons (pe_callB (call_isX hz hf) (by rfl) T.z_isinstance b_isinstance (pa_cons (pv 4) (pa_cons (pe_glob (v := .ref cs.NoText) rfl T.e_NoText.g rfl) pa_nil))) pa_nil)))) (pe_op op_str01 pe_str (pe_callTy kk_int (by rfl) T.z_int b_int (pa_cons (pe_callB (call_isX hz hf) (by rfl) T.z_isinstance b_isinstance (pa_cons (pv 4) (pa_cons (pe_bltn (v := .ty "ValueError") (u := .type "ValueError") (by rfl) T.z_ValueError b_ValueError rfl) pa_nil))) pa_nil))))))))))))
      (pss_one (ps_ret pe_str))), ?_⟩
    refine s_if (et_test (ev_i0 (ev_var rfl) ev_c)) (fun hc H1 e1 => ?_) (fun hc H1 e1 => ?_)
    · have hc' : k < 9 := of_decide_eq_true hc
      have dk : dueS k = "r" := if_pos (by omega)
      rw [dk] at q
      refine s_dropS (ea_cons (ev_var rfl) (ea_two (ev_var rfl) (ev_var rfl))) fun H2 e2 => ⟨k, v, a, ns, rfl, (hb.mono e1).mono e2, e2 _ _ (e1 _ _ ha), bn, fun H3 e3 => ?_⟩
      have e := (e1.trans e2).trans e3
      have q : RetV (.str (("r" : Str) ++ ("v" : Str))) H Q := q
      refine ⟨true, T.e_GateError.exm T.p_NoRow_GateError, fun _ z hz => ?_, fun h => nomatch h⟩
      refine q_asg (ev_addS (ev_str01 (b := true) ev_c (ev_intB (b := true) (ev_isC (ev_var rfl) T.e_NoRow T.e_NoRow T.p_NoRow_NoRow (fun h => nomatch h)))) (ev_str01 (b := false) ev_c (ev_intB (b := false) (ev_isC (ev_var rfl) T.e_NoRow T.e_NoSign T.p_NoRow_NoSign (fun _ => ne_of_sub T.p_NoRow_NoSign T.p_NoRow_NoRow)))) (by decide +kernel)) fun S1 f1 => ?_
      refine q_asg (ev_addS (ev_addS (ev_var rfl) (ev_str01 (b := false) ev_c (ev_intB (b := false) (ev_isC (ev_var rfl) T.e_NoRow T.e_NoDivisor T.p_NoRow_NoDivisor (fun _ => ne_of_sub T.p_NoRow_NoDivisor T.p_NoRow_NoRow)))) (by decide +kernel)) (ev_str01 (b := false) ev_c (ev_intB (b := false) (ev_isC (ev_var rfl) T.e_NoRow T.e_NoCount T.p_NoRow_NoCount (fun _ => ne_of_sub T.p_NoRow_NoCount T.p_NoRow_NoRow)))) (by decide +kernel)) fun S2 f2 => ?_
      refine q_asg (ev_addS (ev_addS (ev_var rfl) (ev_str01 (b := false) ev_c (ev_intB (b := false) (ev_isC (ev_var rfl) T.e_NoRow T.e_TooLong T.p_NoRow_TooLong (fun _ => ne_of_sub T.p_NoRow_TooLong T.p_NoRow_NoRow)))) (by decide +kernel)) (ev_str01 (b := false) ev_c (ev_intB (b := false) (ev_isC (ev_var rfl) T.e_NoRow T.e_TooShort T.p_NoRow_TooShort (fun _ => ne_of_sub T.p_NoRow_TooShort T.p_NoRow_NoRow)))) (by decide +kernel)) fun S4 f4 => ?_
      refine q_asg (ev_addS (ev_addS (ev_var rfl) (ev_str01 (b := false) ev_c (ev_intB (b := false) (ev_isC (ev_var rfl) T.e_NoRow T.e_Broken T.p_NoRow_Broken (fun _ => ne_of_sub T.p_NoRow_Broken T.p_NoRow_NoRow)))) (by decide +kernel)) (ev_str01 (b := false) ev_c (ev_intB (b := false) (ev_isC (ev_var rfl) T.e_NoRow T.e_NoMate T.p_NoRow_NoMate (fun _ => ne_of_sub T.p_NoRow_NoMate T.p_NoRow_NoRow)))) (by decide +kernel)) fun S6 f6 => ?_
      refine s_ret (ev_is (ev_addS (ev_addS (ev_var rfl) (ev_str01 (b := false) ev_c (ev_intB (b := false) (ev_isC (ev_var rfl) T.e_NoRow T.e_NoText T.p_NoRow_NoText (fun _ => ne_of_sub T.p_NoRow_NoText T.p_NoRow_NoRow)))) (by decide +kernel)) (ev_str01 (b := true) ev_c (ev_intB (b := true) (ev_isV (ev_var rfl) T.e_NoRow))) (by decide +kernel)) (w := .str (("r" : Str) ++ ("v" : Str))) (congrArg V.str (by decide +kernel))) fun S8 f8 => ?_
      exact q S8 (((((e.trans f1).trans f2).trans f4).trans f6).trans f8)
    refine s_if (et_test (ev_i0 (ev_var rfl) ev_c)) (fun hc2 H2 e2 => ?_) (fun hc2 H2 e2 => ?_)
    · have hc' : k < 16 := of_decide_eq_true hc2
      have dk : dueS k = "r" := if_pos (by omega)
      rw [dk] at q
      have e12 := e1.trans e2
      refine s_dropS (ea_cons (ev_var rfl) (ea_two (ev_var rfl) (ev_var rfl))) fun H3 e3 => ⟨k, v, g, da, ds, rfl, (hb.mono e12).mono e3, (G.mono e12).mono e3, fun H4 e4 => ?_⟩
      have e := (e12.trans e3).trans e4
      have q : RetV (.str (("r" : Str) ++ ("v" : Str))) H Q := q
      refine ⟨true, T.e_GateError.exm T.p_NoRow_GateError, fun _ z hz => ?_, fun h => nomatch h⟩
      refine q_asg (ev_addS (ev_str01 (b := true) ev_c (ev_intB (b := true) (ev_isC (ev_var rfl) T.e_NoRow T.e_NoRow T.p_NoRow_NoRow (fun h => nomatch h)))) (ev_str01 (b := false) ev_c (ev_intB (b := false) (ev_isC (ev_var rfl) T.e_NoRow T.e_NoSign T.p_NoRow_NoSign (fun _ => ne_of_sub T.p_NoRow_NoSign T.p_NoRow_NoRow)))) (by decide +kernel)) fun S1 f1 => ?_
      refine q_asg (ev_addS (ev_addS (ev_var rfl) (ev_str01 (b := false) ev_c (ev_intB (b := false) (ev_isC (ev_var rfl) T.e_NoRow T.e_NoDivisor T.p_NoRow_NoDivisor (fun _ => ne_of_sub T.p_NoRow_NoDivisor T.p_NoRow_NoRow)))) (by decide +kernel)) (ev_str01 (b := false) ev_c (ev_intB (b := false) (ev_isC (ev_var rfl) T.e_NoRow T.e_NoCount T.p_NoRow_NoCount (fun _ => ne_of_sub T.p_NoRow_NoCount T.p_NoRow_NoRow)))) (by decide +kernel)) fun S2 f2 => ?_
      refine q_asg (ev_addS (ev_addS (ev_var rfl) (ev_str01 (b := false) ev_c (ev_intB (b := false) (ev_isC (ev_var rfl) T.e_NoRow T.e_TooLong T.p_NoRow_TooLong (fun _ => ne_of_sub T.p_NoRow_TooLong T.p_NoRow_NoRow)))) (by decide +kernel)) (ev_str01 (b := false) ev_c (ev_intB (b := false) (ev_isC (ev_var rfl) T.e_NoRow T.e_TooShort T.p_NoRow_TooShort (fun _ => ne_of_sub T.p_NoRow_TooShort T.p_NoRow_NoRow)))) (by decide +kernel)) fun S4 f4 => ?_
      refine q_asg (ev_addS (ev_addS (ev_var rfl) (ev_str01 (b := false) ev_c (ev_intB (b := false) (ev_isC (ev_var rfl) T.e_NoRow T.e_Broken T.p_NoRow_Broken (fun _ => ne_of_sub T.p_NoRow_Broken T.p_NoRow_NoRow)))) (by decide +kernel)) (ev_str01 (b := false) ev_c (ev_intB (b := false) (ev_isC (ev_var rfl) T.e_NoRow T.e_NoMate T.p_NoRow_NoMate (fun _ => ne_of_sub T.p_NoRow_NoMate T.p_NoRow_NoRow)))) (by decide +kernel)) fun S6 f6 => ?_
      refine s_ret (ev_is (ev_addS (ev_addS (ev_var rfl) (ev_str01 (b := false) ev_c (ev_intB (b := false) (ev_isC (ev_var rfl) T.e_NoRow T.e_NoText T.p_NoRow_NoText (fun _ => ne_of_sub T.p_NoRow_NoText T.p_NoRow_NoRow)))) (by decide +kernel)) (ev_str01 (b := true) ev_c (ev_intB (b := true) (ev_isV (ev_var rfl) T.e_NoRow))) (by decide +kernel)) (w := .str (("r" : Str) ++ ("v" : Str))) (congrArg V.str (by decide +kernel))) fun S8 f8 => ?_
      exact q S8 (((((e.trans f1).trans f2).trans f4).trans f6).trans f8)
    · have hc' : ¬ k < 16 := of_decide_eq_false hc2
      have e12 := e1.trans e2
      refine s_dropS (ea_cons (ev_var rfl) (ea_two (ev_var rfl) (ev_var rfl))) fun H3 e3 => ⟨k, a, g, da, ns, ds, rfl, by omega, k2, e3 _ _ (e12 _ _ ha), bn, ln, (G.mono e12).mono e3, hd, fun H4 e4 => ?_⟩
      have e := (e12.trans e3).trans e4
      rcases (show k = 16 ∨ k = 17 ∨ k = 18 ∨ k = 19 ∨ k = 20 ∨ k = 21 ∨ k = 22 ∨ k = 23 ∨ k = 24 ∨ k = 25 ∨ k = 26 ∨ k = 27 by omega) with rfl | rfl | rfl | rfl | rfl | rfl | rfl | rfl | rfl | rfl | rfl | rfl
      · have q : RetV (.str (("r" : Str) ++ ("v" : Str))) H Q := q
        refine ⟨true, T.e_GateError.exm T.p_NoRow_GateError, fun _ z hz => ?_, fun h => nomatch h⟩
        refine q_asg (ev_addS (ev_str01 (b := true) ev_c (ev_intB (b := true) (ev_isC (ev_var rfl) T.e_NoRow T.e_NoRow T.p_NoRow_NoRow (fun h => nomatch h)))) (ev_str01 (b := false) ev_c (ev_intB (b := false) (ev_isC (ev_var rfl) T.e_NoRow T.e_NoSign T.p_NoRow_NoSign (fun _ => ne_of_sub T.p_NoRow_NoSign T.p_NoRow_NoRow)))) (by decide +kernel)) fun S1 f1 => ?_
        refine q_asg (ev_addS (ev_addS (ev_var rfl) (ev_str01 (b := false) ev_c (ev_intB (b := false) (ev_isC (ev_var rfl) T.e_NoRow T.e_NoDivisor T.p_NoRow_NoDivisor (fun _ => ne_of_sub T.p_NoRow_NoDivisor T.p_NoRow_NoRow)))) (by decide +kernel)) (ev_str01 (b := false) ev_c (ev_intB (b := false) (ev_isC (ev_var rfl) T.e_NoRow T.e_NoCount T.p_NoRow_NoCount (fun _ => ne_of_sub T.p_NoRow_NoCount T.p_NoRow_NoRow)))) (by decide +kernel)) fun S2 f2 => ?_
        refine q_asg (ev_addS (ev_addS (ev_var rfl) (ev_str01 (b := false) ev_c (ev_intB (b := false) (ev_isC (ev_var rfl) T.e_NoRow T.e_TooLong T.p_NoRow_TooLong (fun _ => ne_of_sub T.p_NoRow_TooLong T.p_NoRow_NoRow)))) (by decide +kernel)) (ev_str01 (b := false) ev_c (ev_intB (b := false) (ev_isC (ev_var rfl) T.e_NoRow T.e_TooShort T.p_NoRow_TooShort (fun _ => ne_of_sub T.p_NoRow_TooShort T.p_NoRow_NoRow)))) (by decide +kernel)) fun S4 f4 => ?_
        refine q_asg (ev_addS (ev_addS (ev_var rfl) (ev_str01 (b := false) ev_c (ev_intB (b := false) (ev_isC (ev_var rfl) T.e_NoRow T.e_Broken T.p_NoRow_Broken (fun _ => ne_of_sub T.p_NoRow_Broken T.p_NoRow_NoRow)))) (by decide +kernel)) (ev_str01 (b := false) ev_c (ev_intB (b := false) (ev_isC (ev_var rfl) T.e_NoRow T.e_NoMate T.p_NoRow_NoMate (fun _ => ne_of_sub T.p_NoRow_NoMate T.p_NoRow_NoRow)))) (by decide +kernel)) fun S6 f6 => ?_
        refine s_ret (ev_is (ev_addS (ev_addS (ev_var rfl) (ev_str01 (b := false) ev_c (ev_intB (b := false) (ev_isC (ev_var rfl) T.e_NoRow T.e_NoText T.p_NoRow_NoText (fun _ => ne_of_sub T.p_NoRow_NoText T.p_NoRow_NoRow)))) (by decide +kernel)) (ev_str01 (b := true) ev_c (ev_intB (b := true) (ev_isV (ev_var rfl) T.e_NoRow))) (by decide +kernel)) (w := .str (("r" : Str) ++ ("v" : Str))) (congrArg V.str (by decide +kernel))) fun S8 f8 => ?_
        exact q S8 (((((e.trans f1).trans f2).trans f4).trans f6).trans f8)
      · have q : RetV (.str (("r" : Str) ++ ("v" : Str))) H Q := q
        refine ⟨true, T.e_GateError.exm T.p_NoRow_GateError, fun _ z hz => ?_, fun h => nomatch h⟩
        refine q_asg (ev_addS (ev_str01 (b := true) ev_c (ev_intB (b := true) (ev_isC (ev_var rfl) T.e_NoRow T.e_NoRow T.p_NoRow_NoRow (fun h => nomatch h)))) (ev_str01 (b := false) ev_c (ev_intB (b := false) (ev_isC (ev_var rfl) T.e_NoRow T.e_NoSign T.p_NoRow_NoSign (fun _ => ne_of_sub T.p_NoRow_NoSign T.p_NoRow_NoRow)))) (by decide +kernel)) fun S1 f1 => ?_
        refine q_asg (ev_addS (ev_addS (ev_var rfl) (ev_str01 (b := false) ev_c (ev_intB (b := false) (ev_isC (ev_var rfl) T.e_NoRow T.e_NoDivisor T.p_NoRow_NoDivisor (fun _ => ne_of_sub T.p_NoRow_NoDivisor T.p_NoRow_NoRow)))) (by decide +kernel)) (ev_str01 (b := false) ev_c (ev_intB (b := false) (ev_isC (ev_var rfl) T.e_NoRow T.e_NoCount T.p_NoRow_NoCount (fun _ => ne_of_sub T.p_NoRow_NoCount T.p_NoRow_NoRow)))) (by decide +kernel)) fun S2 f2 => ?_
        refine q_asg (ev_addS (ev_addS (ev_var rfl) (ev_str01 (b := false) ev_c (ev_intB (b := false) (ev_isC (ev_var rfl) T.e_NoRow T.e_TooLong T.p_NoRow_TooLong (fun _ => ne_of_sub T.p_NoRow_TooLong T.p_NoRow_NoRow)))) (by decide +kernel)) (ev_str01 (b := false) ev_c (ev_intB (b := false) (ev_isC (ev_var rfl) T.e_NoRow T.e_TooShort T.p_NoRow_TooShort (fun _ => ne_of_sub T.p_NoRow_TooShort T.p_NoRow_NoRow)))) (by decide +kernel)) fun S4 f4 => ?_
        refine q_asg (ev_addS (ev_addS (ev_var rfl) (ev_str01 (b := false) ev_c (ev_intB (b := false) (ev_isC (ev_var rfl) T.e_NoRow T.e_Broken T.p_NoRow_Broken (fun _ => ne_of_sub T.p_NoRow_Broken T.p_NoRow_NoRow)))) (by decide +kernel)) (ev_str01 (b := false) ev_c (ev_intB (b := false) (ev_isC (ev_var rfl) T.e_NoRow T.e_NoMate T.p_NoRow_NoMate (fun _ => ne_of_sub T.p_NoRow_NoMate T.p_NoRow_NoRow)))) (by decide +kernel)) fun S6 f6 => ?_
        refine s_ret (ev_is (ev_addS (ev_addS (ev_var rfl) (ev_str01 (b := false) ev_c (ev_intB (b := false) (ev_isC (ev_var rfl) T.e_NoRow T.e_NoText T.p_NoRow_NoText (fun _ => ne_of_sub T.p_NoRow_NoText T.p_NoRow_NoRow)))) (by decide +kernel)) (ev_str01 (b := true) ev_c (ev_intB (b := true) (ev_isV (ev_var rfl) T.e_NoRow))) (by decide +kernel)) (w := .str (("r" : Str) ++ ("v" : Str))) (congrArg V.str (by decide +kernel))) fun S8 f8 => ?_
        exact q S8 (((((e.trans f1).trans f2).trans f4).trans f6).trans f8)
      · have q : RetV (.str (("s" : Str) ++ ("v" : Str))) H Q := q
        refine ⟨true, T.e_GateError.exm T.p_NoSign_GateError, fun _ z hz => ?_, fun h => nomatch h⟩
        refine q_asg (ev_addS (ev_str01 (b := false) ev_c (ev_intB (b := false) (ev_isC (ev_var rfl) T.e_NoSign T.e_NoRow T.p_NoSign_NoRow (fun _ => ne_of_sub T.p_NoSign_NoRow T.p_NoSign_NoSign)))) (ev_str01 (b := true) ev_c (ev_intB (b := true) (ev_isC (ev_var rfl) T.e_NoSign T.e_NoSign T.p_NoSign_NoSign (fun h => nomatch h)))) (by decide +kernel)) fun S1 f1 => ?_
        refine q_asg (ev_addS (ev_addS (ev_var rfl) (ev_str01 (b := false) ev_c (ev_intB (b := false) (ev_isC (ev_var rfl) T.e_NoSign T.e_NoDivisor T.p_NoSign_NoDivisor (fun _ => ne_of_sub T.p_NoSign_NoDivisor T.p_NoSign_NoSign)))) (by decide +kernel)) (ev_str01 (b := false) ev_c (ev_intB (b := false) (ev_isC (ev_var rfl) T.e_NoSign T.e_NoCount T.p_NoSign_NoCount (fun _ => ne_of_sub T.p_NoSign_NoCount T.p_NoSign_NoSign)))) (by decide +kernel)) fun S2 f2 => ?_
        refine q_asg (ev_addS (ev_addS (ev_var rfl) (ev_str01 (b := false) ev_c (ev_intB (b := false) (ev_isC (ev_var rfl) T.e_NoSign T.e_TooLong T.p_NoSign_TooLong (fun _ => ne_of_sub T.p_NoSign_TooLong T.p_NoSign_NoSign)))) (by decide +kernel)) (ev_str01 (b := false) ev_c (ev_intB (b := false) (ev_isC (ev_var rfl) T.e_NoSign T.e_TooShort T.p_NoSign_TooShort (fun _ => ne_of_sub T.p_NoSign_TooShort T.p_NoSign_NoSign)))) (by decide +kernel)) fun S4 f4 => ?_
        refine q_asg (ev_addS (ev_addS (ev_var rfl) (ev_str01 (b := false) ev_c (ev_intB (b := false) (ev_isC (ev_var rfl) T.e_NoSign T.e_Broken T.p_NoSign_Broken (fun _ => ne_of_sub T.p_NoSign_Broken T.p_NoSign_NoSign)))) (by decide +kernel)) (ev_str01 (b := false) ev_c (ev_intB (b := false) (ev_isC (ev_var rfl) T.e_NoSign T.e_NoMate T.p_NoSign_NoMate (fun _ => ne_of_sub T.p_NoSign_NoMate T.p_NoSign_NoSign)))) (by decide +kernel)) fun S6 f6 => ?_
        refine s_ret (ev_is (ev_addS (ev_addS (ev_var rfl) (ev_str01 (b := false) ev_c (ev_intB (b := false) (ev_isC (ev_var rfl) T.e_NoSign T.e_NoText T.p_NoSign_NoText (fun _ => ne_of_sub T.p_NoSign_NoText T.p_NoSign_NoSign)))) (by decide +kernel)) (ev_str01 (b := true) ev_c (ev_intB (b := true) (ev_isV (ev_var rfl) T.e_NoSign))) (by decide +kernel)) (w := .str (("s" : Str) ++ ("v" : Str))) (congrArg V.str (by decide +kernel))) fun S8 f8 => ?_
        exact q S8 (((((e.trans f1).trans f2).trans f4).trans f6).trans f8)
      · have q : RetV (.str (("d" : Str) ++ ("v" : Str))) H Q := q
        refine ⟨true, T.e_GateError.exm T.p_NoDivisor_GateError, fun _ z hz => ?_, fun h => nomatch h⟩
        refine q_asg (ev_addS (ev_str01 (b := false) ev_c (ev_intB (b := false) (ev_isC (ev_var rfl) T.e_NoDivisor T.e_NoRow T.p_NoDivisor_NoRow (fun _ => ne_of_sub T.p_NoDivisor_NoRow T.p_NoDivisor_NoDivisor)))) (ev_str01 (b := false) ev_c (ev_intB (b := false) (ev_isC (ev_var rfl) T.e_NoDivisor T.e_NoSign T.p_NoDivisor_NoSign (fun _ => ne_of_sub T.p_NoDivisor_NoSign T.p_NoDivisor_NoDivisor)))) (by decide +kernel)) fun S1 f1 => ?_
        refine q_asg (ev_addS (ev_addS (ev_var rfl) (ev_str01 (b := true) ev_c (ev_intB (b := true) (ev_isC (ev_var rfl) T.e_NoDivisor T.e_NoDivisor T.p_NoDivisor_NoDivisor (fun h => nomatch h)))) (by decide +kernel)) (ev_str01 (b := false) ev_c (ev_intB (b := false) (ev_isC (ev_var rfl) T.e_NoDivisor T.e_NoCount T.p_NoDivisor_NoCount (fun _ => ne_of_sub T.p_NoDivisor_NoCount T.p_NoDivisor_NoDivisor)))) (by decide +kernel)) fun S2 f2 => ?_
        refine q_asg (ev_addS (ev_addS (ev_var rfl) (ev_str01 (b := false) ev_c (ev_intB (b := false) (ev_isC (ev_var rfl) T.e_NoDivisor T.e_TooLong T.p_NoDivisor_TooLong (fun _ => ne_of_sub T.p_NoDivisor_TooLong T.p_NoDivisor_NoDivisor)))) (by decide +kernel)) (ev_str01 (b := false) ev_c (ev_intB (b := false) (ev_isC (ev_var rfl) T.e_NoDivisor T.e_TooShort T.p_NoDivisor_TooShort (fun _ => ne_of_sub T.p_NoDivisor_TooShort T.p_NoDivisor_NoDivisor)))) (by decide +kernel)) fun S4 f4 => ?_
        refine q_asg (ev_addS (ev_addS (ev_var rfl) (ev_str01 (b := false) ev_c (ev_intB (b := false) (ev_isC (ev_var rfl) T.e_NoDivisor T.e_Broken T.p_NoDivisor_Broken (fun _ => ne_of_sub T.p_NoDivisor_Broken T.p_NoDivisor_NoDivisor)))) (by decide +kernel)) (ev_str01 (b := false) ev_c (ev_intB (b := false) (ev_isC (ev_var rfl) T.e_NoDivisor T.e_NoMate T.p_NoDivisor_NoMate (fun _ => ne_of_sub T.p_NoDivisor_NoMate T.p_NoDivisor_NoDivisor)))) (by decide +kernel)) fun S6 f6 => ?_
        refine s_ret (ev_is (ev_addS (ev_addS (ev_var rfl) (ev_str01 (b := false) ev_c (ev_intB (b := false) (ev_isC (ev_var rfl) T.e_NoDivisor T.e_NoText T.p_NoDivisor_NoText (fun _ => ne_of_sub T.p_NoDivisor_NoText T.p_NoDivisor_NoDivisor)))) (by decide +kernel)) (ev_str01 (b := true) ev_c (ev_intB (b := true) (ev_isV (ev_var rfl) T.e_NoDivisor))) (by decide +kernel)) (w := .str (("d" : Str) ++ ("v" : Str))) (congrArg V.str (by decide +kernel))) fun S8 f8 => ?_
        exact q S8 (((((e.trans f1).trans f2).trans f4).trans f6).trans f8)
      · have q : RetV (.str (("d" : Str) ++ ("v" : Str))) H Q := q
        refine ⟨true, T.e_GateError.exm T.p_NoDivisor_GateError, fun _ z hz => ?_, fun h => nomatch h⟩
        refine q_asg (ev_addS (ev_str01 (b := false) ev_c (ev_intB (b := false) (ev_isC (ev_var rfl) T.e_NoDivisor T.e_NoRow T.p_NoDivisor_NoRow (fun _ => ne_of_sub T.p_NoDivisor_NoRow T.p_NoDivisor_NoDivisor)))) (ev_str01 (b := false) ev_c (ev_intB (b := false) (ev_isC (ev_var rfl) T.e_NoDivisor T.e_NoSign T.p_NoDivisor_NoSign (fun _ => ne_of_sub T.p_NoDivisor_NoSign T.p_NoDivisor_NoDivisor)))) (by decide +kernel)) fun S1 f1 => ?_
        refine q_asg (ev_addS (ev_addS (ev_var rfl) (ev_str01 (b := true) ev_c (ev_intB (b := true) (ev_isC (ev_var rfl) T.e_NoDivisor T.e_NoDivisor T.p_NoDivisor_NoDivisor (fun h => nomatch h)))) (by decide +kernel)) (ev_str01 (b := false) ev_c (ev_intB (b := false) (ev_isC (ev_var rfl) T.e_NoDivisor T.e_NoCount T.p_NoDivisor_NoCount (fun _ => ne_of_sub T.p_NoDivisor_NoCount T.p_NoDivisor_NoDivisor)))) (by decide +kernel)) fun S2 f2 => ?_
        refine q_asg (ev_addS (ev_addS (ev_var rfl) (ev_str01 (b := false) ev_c (ev_intB (b := false) (ev_isC (ev_var rfl) T.e_NoDivisor T.e_TooLong T.p_NoDivisor_TooLong (fun _ => ne_of_sub T.p_NoDivisor_TooLong T.p_NoDivisor_NoDivisor)))) (by decide +kernel)) (ev_str01 (b := false) ev_c (ev_intB (b := false) (ev_isC (ev_var rfl) T.e_NoDivisor T.e_TooShort T.p_NoDivisor_TooShort (fun _ => ne_of_sub T.p_NoDivisor_TooShort T.p_NoDivisor_NoDivisor)))) (by decide +kernel)) fun S4 f4 => ?_
        refine q_asg (ev_addS (ev_addS (ev_var rfl) (ev_str01 (b := false) ev_c (ev_intB (b := false) (ev_isC (ev_var rfl) T.e_NoDivisor T.e_Broken T.p_NoDivisor_Broken (fun _ => ne_of_sub T.p_NoDivisor_Broken T.p_NoDivisor_NoDivisor)))) (by decide +kernel)) (ev_str01 (b := false) ev_c (ev_intB (b := false) (ev_isC (ev_var rfl) T.e_NoDivisor T.e_NoMate T.p_NoDivisor_NoMate (fun _ => ne_of_sub T.p_NoDivisor_NoMate T.p_NoDivisor_NoDivisor)))) (by decide +kernel)) fun S6 f6 => ?_
        refine s_ret (ev_is (ev_addS (ev_addS (ev_var rfl) (ev_str01 (b := false) ev_c (ev_intB (b := false) (ev_isC (ev_var rfl) T.e_NoDivisor T.e_NoText T.p_NoDivisor_NoText (fun _ => ne_of_sub T.p_NoDivisor_NoText T.p_NoDivisor_NoDivisor)))) (by decide +kernel)) (ev_str01 (b := true) ev_c (ev_intB (b := true) (ev_isV (ev_var rfl) T.e_NoDivisor))) (by decide +kernel)) (w := .str (("d" : Str) ++ ("v" : Str))) (congrArg V.str (by decide +kernel))) fun S8 f8 => ?_
        exact q S8 (((((e.trans f1).trans f2).trans f4).trans f6).trans f8)
      · have q : RetV (.str (("c" : Str) ++ ("v" : Str))) H Q := q
        refine ⟨true, T.e_GateError.exm T.p_NoCount_GateError, fun _ z hz => ?_, fun h => nomatch h⟩
        refine q_asg (ev_addS (ev_str01 (b := false) ev_c (ev_intB (b := false) (ev_isC (ev_var rfl) T.e_NoCount T.e_NoRow T.p_NoCount_NoRow (fun _ => ne_of_sub T.p_NoCount_NoRow T.p_NoCount_NoCount)))) (ev_str01 (b := false) ev_c (ev_intB (b := false) (ev_isC (ev_var rfl) T.e_NoCount T.e_NoSign T.p_NoCount_NoSign (fun _ => ne_of_sub T.p_NoCount_NoSign T.p_NoCount_NoCount)))) (by decide +kernel)) fun S1 f1 => ?_
        refine q_asg (ev_addS (ev_addS (ev_var rfl) (ev_str01 (b := false) ev_c (ev_intB (b := false) (ev_isC (ev_var rfl) T.e_NoCount T.e_NoDivisor T.p_NoCount_NoDivisor (fun _ => ne_of_sub T.p_NoCount_NoDivisor T.p_NoCount_NoCount)))) (by decide +kernel)) (ev_str01 (b := true) ev_c (ev_intB (b := true) (ev_isC (ev_var rfl) T.e_NoCount T.e_NoCount T.p_NoCount_NoCount (fun h => nomatch h)))) (by decide +kernel)) fun S2 f2 => ?_
        refine q_asg (ev_addS (ev_addS (ev_var rfl) (ev_str01 (b := false) ev_c (ev_intB (b := false) (ev_isC (ev_var rfl) T.e_NoCount T.e_TooLong T.p_NoCount_TooLong (fun _ => ne_of_sub T.p_NoCount_TooLong T.p_NoCount_NoCount)))) (by decide +kernel)) (ev_str01 (b := false) ev_c (ev_intB (b := false) (ev_isC (ev_var rfl) T.e_NoCount T.e_TooShort T.p_NoCount_TooShort (fun _ => ne_of_sub T.p_NoCount_TooShort T.p_NoCount_NoCount)))) (by decide +kernel)) fun S4 f4 => ?_
        refine q_asg (ev_addS (ev_addS (ev_var rfl) (ev_str01 (b := false) ev_c (ev_intB (b := false) (ev_isC (ev_var rfl) T.e_NoCount T.e_Broken T.p_NoCount_Broken (fun _ => ne_of_sub T.p_NoCount_Broken T.p_NoCount_NoCount)))) (by decide +kernel)) (ev_str01 (b := false) ev_c (ev_intB (b := false) (ev_isC (ev_var rfl) T.e_NoCount T.e_NoMate T.p_NoCount_NoMate (fun _ => ne_of_sub T.p_NoCount_NoMate T.p_NoCount_NoCount)))) (by decide +kernel)) fun S6 f6 => ?_
        refine s_ret (ev_is (ev_addS (ev_addS (ev_var rfl) (ev_str01 (b := false) ev_c (ev_intB (b := false) (ev_isC (ev_var rfl) T.e_NoCount T.e_NoText T.p_NoCount_NoText (fun _ => ne_of_sub T.p_NoCount_NoText T.p_NoCount_NoCount)))) (by decide +kernel)) (ev_str01 (b := true) ev_c (ev_intB (b := true) (ev_isV (ev_var rfl) T.e_NoCount))) (by decide +kernel)) (w := .str (("c" : Str) ++ ("v" : Str))) (congrArg V.str (by decide +kernel))) fun S8 f8 => ?_
        exact q S8 (((((e.trans f1).trans f2).trans f4).trans f6).trans f8)
      · have q : RetV (.str (("l" : Str) ++ ("v" : Str))) H Q := q
        refine ⟨true, T.e_GateError.exm T.p_TooLong_GateError, fun _ z hz => ?_, fun h => nomatch h⟩
        refine q_asg (ev_addS (ev_str01 (b := false) ev_c (ev_intB (b := false) (ev_isC (ev_var rfl) T.e_TooLong T.e_NoRow T.p_TooLong_NoRow (fun _ => ne_of_sub T.p_TooLong_NoRow T.p_TooLong_TooLong)))) (ev_str01 (b := false) ev_c (ev_intB (b := false) (ev_isC (ev_var rfl) T.e_TooLong T.e_NoSign T.p_TooLong_NoSign (fun _ => ne_of_sub T.p_TooLong_NoSign T.p_TooLong_TooLong)))) (by decide +kernel)) fun S1 f1 => ?_
        refine q_asg (ev_addS (ev_addS (ev_var rfl) (ev_str01 (b := false) ev_c (ev_intB (b := false) (ev_isC (ev_var rfl) T.e_TooLong T.e_NoDivisor T.p_TooLong_NoDivisor (fun _ => ne_of_sub T.p_TooLong_NoDivisor T.p_TooLong_TooLong)))) (by decide +kernel)) (ev_str01 (b := false) ev_c (ev_intB (b := false) (ev_isC (ev_var rfl) T.e_TooLong T.e_NoCount T.p_TooLong_NoCount (fun _ => ne_of_sub T.p_TooLong_NoCount T.p_TooLong_TooLong)))) (by decide +kernel)) fun S2 f2 => ?_
        refine q_asg (ev_addS (ev_addS (ev_var rfl) (ev_str01 (b := true) ev_c (ev_intB (b := true) (ev_isC (ev_var rfl) T.e_TooLong T.e_TooLong T.p_TooLong_TooLong (fun h => nomatch h)))) (by decide +kernel)) (ev_str01 (b := false) ev_c (ev_intB (b := false) (ev_isC (ev_var rfl) T.e_TooLong T.e_TooShort T.p_TooLong_TooShort (fun _ => ne_of_sub T.p_TooLong_TooShort T.p_TooLong_TooLong)))) (by decide +kernel)) fun S4 f4 => ?_
        refine q_asg (ev_addS (ev_addS (ev_var rfl) (ev_str01 (b := false) ev_c (ev_intB (b := false) (ev_isC (ev_var rfl) T.e_TooLong T.e_Broken T.p_TooLong_Broken (fun _ => ne_of_sub T.p_TooLong_Broken T.p_TooLong_TooLong)))) (by decide +kernel)) (ev_str01 (b := false) ev_c (ev_intB (b := false) (ev_isC (ev_var rfl) T.e_TooLong T.e_NoMate T.p_TooLong_NoMate (fun _ => ne_of_sub T.p_TooLong_NoMate T.p_TooLong_TooLong)))) (by decide +kernel)) fun S6 f6 => ?_
        refine s_ret (ev_is (ev_addS (ev_addS (ev_var rfl) (ev_str01 (b := false) ev_c (ev_intB (b := false) (ev_isC (ev_var rfl) T.e_TooLong T.e_NoText T.p_TooLong_NoText (fun _ => ne_of_sub T.p_TooLong_NoText T.p_TooLong_TooLong)))) (by decide +kernel)) (ev_str01 (b := true) ev_c (ev_intB (b := true) (ev_isV (ev_var rfl) T.e_TooLong))) (by decide +kernel)) (w := .str (("l" : Str) ++ ("v" : Str))) (congrArg V.str (by decide +kernel))) fun S8 f8 => ?_
        exact q S8 (((((e.trans f1).trans f2).trans f4).trans f6).trans f8)
      · have q : RetV (.str (("h" : Str) ++ ("v" : Str))) H Q := q
        refine ⟨true, T.e_GateError.exm T.p_TooShort_GateError, fun _ z hz => ?_, fun h => nomatch h⟩
        refine q_asg (ev_addS (ev_str01 (b := false) ev_c (ev_intB (b := false) (ev_isC (ev_var rfl) T.e_TooShort T.e_NoRow T.p_TooShort_NoRow (fun _ => ne_of_sub T.p_TooShort_NoRow T.p_TooShort_TooShort)))) (ev_str01 (b := false) ev_c (ev_intB (b := false) (ev_isC (ev_var rfl) T.e_TooShort T.e_NoSign T.p_TooShort_NoSign (fun _ => ne_of_sub T.p_TooShort_NoSign T.p_TooShort_TooShort)))) (by decide +kernel)) fun S1 f1 => ?_
        refine q_asg (ev_addS (ev_addS (ev_var rfl) (ev_str01 (b := false) ev_c (ev_intB (b := false) (ev_isC (ev_var rfl) T.e_TooShort T.e_NoDivisor T.p_TooShort_NoDivisor (fun _ => ne_of_sub T.p_TooShort_NoDivisor T.p_TooShort_TooShort)))) (by decide +kernel)) (ev_str01 (b := false) ev_c (ev_intB (b := false) (ev_isC (ev_var rfl) T.e_TooShort T.e_NoCount T.p_TooShort_NoCount (fun _ => ne_of_sub T.p_TooShort_NoCount T.p_TooShort_TooShort)))) (by decide +kernel)) fun S2 f2 => ?_
        refine q_asg (ev_addS (ev_addS (ev_var rfl) (ev_str01 (b := false) ev_c (ev_intB (b := false) (ev_isC (ev_var rfl) T.e_TooShort T.e_TooLong T.p_TooShort_TooLong (fun _ => ne_of_sub T.p_TooShort_TooLong T.p_TooShort_TooShort)))) (by decide +kernel)) (ev_str01 (b := true) ev_c (ev_intB (b := true) (ev_isC (ev_var rfl) T.e_TooShort T.e_TooShort T.p_TooShort_TooShort (fun h => nomatch h)))) (by decide +kernel)) fun S4 f4 => ?_
        refine q_asg (ev_addS (ev_addS (ev_var rfl) (ev_str01 (b := false) ev_c (ev_intB (b := false) (ev_isC (ev_var rfl) T.e_TooShort T.e_Broken T.p_TooShort_Broken (fun _ => ne_of_sub T.p_TooShort_Broken T.p_TooShort_TooShort)))) (by decide +kernel)) (ev_str01 (b := false) ev_c (ev_intB (b := false) (ev_isC (ev_var rfl) T.e_TooShort T.e_NoMate T.p_TooShort_NoMate (fun _ => ne_of_sub T.p_TooShort_NoMate T.p_TooShort_TooShort)))) (by decide +kernel)) fun S6 f6 => ?_
        refine s_ret (ev_is (ev_addS (ev_addS (ev_var rfl) (ev_str01 (b := false) ev_c (ev_intB (b := false) (ev_isC (ev_var rfl) T.e_TooShort T.e_NoText T.p_TooShort_NoText (fun _ => ne_of_sub T.p_TooShort_NoText T.p_TooShort_TooShort)))) (by decide +kernel)) (ev_str01 (b := true) ev_c (ev_intB (b := true) (ev_isV (ev_var rfl) T.e_TooShort))) (by decide +kernel)) (w := .str (("h" : Str) ++ ("v" : Str))) (congrArg V.str (by decide +kernel))) fun S8 f8 => ?_
        exact q S8 (((((e.trans f1).trans f2).trans f4).trans f6).trans f8)
      · have q : RetV (.str (("b" : Str) ++ ("v" : Str))) H Q := q
        refine ⟨true, T.e_GateError.exm T.p_Broken_GateError, fun _ z hz => ?_, fun h => nomatch h⟩
        refine q_asg (ev_addS (ev_str01 (b := false) ev_c (ev_intB (b := false) (ev_isC (ev_var rfl) T.e_Broken T.e_NoRow T.p_Broken_NoRow (fun _ => ne_of_sub T.p_Broken_NoRow T.p_Broken_Broken)))) (ev_str01 (b := false) ev_c (ev_intB (b := false) (ev_isC (ev_var rfl) T.e_Broken T.e_NoSign T.p_Broken_NoSign (fun _ => ne_of_sub T.p_Broken_NoSign T.p_Broken_Broken)))) (by decide +kernel)) fun S1 f1 => ?_
        refine q_asg (ev_addS (ev_addS (ev_var rfl) (ev_str01 (b := false) ev_c (ev_intB (b := false) (ev_isC (ev_var rfl) T.e_Broken T.e_NoDivisor T.p_Broken_NoDivisor (fun _ => ne_of_sub T.p_Broken_NoDivisor T.p_Broken_Broken)))) (by decide +kernel)) (ev_str01 (b := false) ev_c (ev_intB (b := false) (ev_isC (ev_var rfl) T.e_Broken T.e_NoCount T.p_Broken_NoCount (fun _ => ne_of_sub T.p_Broken_NoCount T.p_Broken_Broken)))) (by decide +kernel)) fun S2 f2 => ?_
        refine q_asg (ev_addS (ev_addS (ev_var rfl) (ev_str01 (b := false) ev_c (ev_intB (b := false) (ev_isC (ev_var rfl) T.e_Broken T.e_TooLong T.p_Broken_TooLong (fun _ => ne_of_sub T.p_Broken_TooLong T.p_Broken_Broken)))) (by decide +kernel)) (ev_str01 (b := false) ev_c (ev_intB (b := false) (ev_isC (ev_var rfl) T.e_Broken T.e_TooShort T.p_Broken_TooShort (fun _ => ne_of_sub T.p_Broken_TooShort T.p_Broken_Broken)))) (by decide +kernel)) fun S4 f4 => ?_
        refine q_asg (ev_addS (ev_addS (ev_var rfl) (ev_str01 (b := true) ev_c (ev_intB (b := true) (ev_isC (ev_var rfl) T.e_Broken T.e_Broken T.p_Broken_Broken (fun h => nomatch h)))) (by decide +kernel)) (ev_str01 (b := false) ev_c (ev_intB (b := false) (ev_isC (ev_var rfl) T.e_Broken T.e_NoMate T.p_Broken_NoMate (fun _ => ne_of_sub T.p_Broken_NoMate T.p_Broken_Broken)))) (by decide +kernel)) fun S6 f6 => ?_
        refine s_ret (ev_is (ev_addS (ev_addS (ev_var rfl) (ev_str01 (b := false) ev_c (ev_intB (b := false) (ev_isC (ev_var rfl) T.e_Broken T.e_NoText T.p_Broken_NoText (fun _ => ne_of_sub T.p_Broken_NoText T.p_Broken_Broken)))) (by decide +kernel)) (ev_str01 (b := true) ev_c (ev_intB (b := true) (ev_isV (ev_var rfl) T.e_Broken))) (by decide +kernel)) (w := .str (("b" : Str) ++ ("v" : Str))) (congrArg V.str (by decide +kernel))) fun S8 f8 => ?_
        exact q S8 (((((e.trans f1).trans f2).trans f4).trans f6).trans f8)
      · have q : RetV (.str (("b" : Str) ++ ("v" : Str))) H Q := q
        refine ⟨true, T.e_GateError.exm T.p_Broken_GateError, fun _ z hz => ?_, fun h => nomatch h⟩
        refine q_asg (ev_addS (ev_str01 (b := false) ev_c (ev_intB (b := false) (ev_isC (ev_var rfl) T.e_Broken T.e_NoRow T.p_Broken_NoRow (fun _ => ne_of_sub T.p_Broken_NoRow T.p_Broken_Broken)))) (ev_str01 (b := false) ev_c (ev_intB (b := false) (ev_isC (ev_var rfl) T.e_Broken T.e_NoSign T.p_Broken_NoSign (fun _ => ne_of_sub T.p_Broken_NoSign T.p_Broken_Broken)))) (by decide +kernel)) fun S1 f1 => ?_
        refine q_asg (ev_addS (ev_addS (ev_var rfl) (ev_str01 (b := false) ev_c (ev_intB (b := false) (ev_isC (ev_var rfl) T.e_Broken T.e_NoDivisor T.p_Broken_NoDivisor (fun _ => ne_of_sub T.p_Broken_NoDivisor T.p_Broken_Broken)))) (by decide +kernel)) (ev_str01 (b := false) ev_c (ev_intB (b := false) (ev_isC (ev_var rfl) T.e_Broken T.e_NoCount T.p_Broken_NoCount (fun _ => ne_of_sub T.p_Broken_NoCount T.p_Broken_Broken)))) (by decide +kernel)) fun S2 f2 => ?_
        refine q_asg (ev_addS (ev_addS (ev_var rfl) (ev_str01 (b := false) ev_c (ev_intB (b := false) (ev_isC (ev_var rfl) T.e_Broken T.e_TooLong T.p_Broken_TooLong (fun _ => ne_of_sub T.p_Broken_TooLong T.p_Broken_Broken)))) (by decide +kernel)) (ev_str01 (b := false) ev_c (ev_intB (b := false) (ev_isC (ev_var rfl) T.e_Broken T.e_TooShort T.p_Broken_TooShort (fun _ => ne_of_sub T.p_Broken_TooShort T.p_Broken_Broken)))) (by decide +kernel)) fun S4 f4 => ?_
        refine q_asg (ev_addS (ev_addS (ev_var rfl) (ev_str01 (b := true) ev_c (ev_intB (b := true) (ev_isC (ev_var rfl) T.e_Broken T.e_Broken T.p_Broken_Broken (fun h => nomatch h)))) (by decide +kernel)) (ev_str01 (b := false) ev_c (ev_intB (b := false) (ev_isC (ev_var rfl) T.e_Broken T.e_NoMate T.p_Broken_NoMate (fun _ => ne_of_sub T.p_Broken_NoMate T.p_Broken_Broken)))) (by decide +kernel)) fun S6 f6 => ?_
        refine s_ret (ev_is (ev_addS (ev_addS (ev_var rfl) (ev_str01 (b := false) ev_c (ev_intB (b := false) (ev_isC (ev_var rfl) T.e_Broken T.e_NoText T.p_Broken_NoText (fun _ => ne_of_sub T.p_Broken_NoText T.p_Broken_Broken)))) (by decide +kernel)) (ev_str01 (b := true) ev_c (ev_intB (b := true) (ev_isV (ev_var rfl) T.e_Broken))) (by decide +kernel)) (w := .str (("b" : Str) ++ ("v" : Str))) (congrArg V.str (by decide +kernel))) fun S8 f8 => ?_
        exact q S8 (((((e.trans f1).trans f2).trans f4).trans f6).trans f8)
      · have q : RetV (.str (("m" : Str) ++ ("v" : Str))) H Q := q
        refine ⟨true, T.e_GateError.exm T.p_NoMate_GateError, fun _ z hz => ?_, fun h => nomatch h⟩
        refine q_asg (ev_addS (ev_str01 (b := false) ev_c (ev_intB (b := false) (ev_isC (ev_var rfl) T.e_NoMate T.e_NoRow T.p_NoMate_NoRow (fun _ => ne_of_sub T.p_NoMate_NoRow T.p_NoMate_NoMate)))) (ev_str01 (b := false) ev_c (ev_intB (b := false) (ev_isC (ev_var rfl) T.e_NoMate T.e_NoSign T.p_NoMate_NoSign (fun _ => ne_of_sub T.p_NoMate_NoSign T.p_NoMate_NoMate)))) (by decide +kernel)) fun S1 f1 => ?_
        refine q_asg (ev_addS (ev_addS (ev_var rfl) (ev_str01 (b := false) ev_c (ev_intB (b := false) (ev_isC (ev_var rfl) T.e_NoMate T.e_NoDivisor T.p_NoMate_NoDivisor (fun _ => ne_of_sub T.p_NoMate_NoDivisor T.p_NoMate_NoMate)))) (by decide +kernel)) (ev_str01 (b := false) ev_c (ev_intB (b := false) (ev_isC (ev_var rfl) T.e_NoMate T.e_NoCount T.p_NoMate_NoCount (fun _ => ne_of_sub T.p_NoMate_NoCount T.p_NoMate_NoMate)))) (by decide +kernel)) fun S2 f2 => ?_
        refine q_asg (ev_addS (ev_addS (ev_var rfl) (ev_str01 (b := false) ev_c (ev_intB (b := false) (ev_isC (ev_var rfl) T.e_NoMate T.e_TooLong T.p_NoMate_TooLong (fun _ => ne_of_sub T.p_NoMate_TooLong T.p_NoMate_NoMate)))) (by decide +kernel)) (ev_str01 (b := false) ev_c (ev_intB (b := false) (ev_isC (ev_var rfl) T.e_NoMate T.e_TooShort T.p_NoMate_TooShort (fun _ => ne_of_sub T.p_NoMate_TooShort T.p_NoMate_NoMate)))) (by decide +kernel)) fun S4 f4 => ?_
        refine q_asg (ev_addS (ev_addS (ev_var rfl) (ev_str01 (b := false) ev_c (ev_intB (b := false) (ev_isC (ev_var rfl) T.e_NoMate T.e_Broken T.p_NoMate_Broken (fun _ => ne_of_sub T.p_NoMate_Broken T.p_NoMate_NoMate)))) (by decide +kernel)) (ev_str01 (b := true) ev_c (ev_intB (b := true) (ev_isC (ev_var rfl) T.e_NoMate T.e_NoMate T.p_NoMate_NoMate (fun h => nomatch h)))) (by decide +kernel)) fun S6 f6 => ?_
        refine s_ret (ev_is (ev_addS (ev_addS (ev_var rfl) (ev_str01 (b := false) ev_c (ev_intB (b := false) (ev_isC (ev_var rfl) T.e_NoMate T.e_NoText T.p_NoMate_NoText (fun _ => ne_of_sub T.p_NoMate_NoText T.p_NoMate_NoMate)))) (by decide +kernel)) (ev_str01 (b := true) ev_c (ev_intB (b := true) (ev_isV (ev_var rfl) T.e_NoMate))) (by decide +kernel)) (w := .str (("m" : Str) ++ ("v" : Str))) (congrArg V.str (by decide +kernel))) fun S8 f8 => ?_
        exact q S8 (((((e.trans f1).trans f2).trans f4).trans f6).trans f8)
      · have q : RetV (.str (("t" : Str) ++ ("v" : Str))) H Q := q
        refine ⟨true, T.e_GateError.exm T.p_NoText_GateError, fun _ z hz => ?_, fun h => nomatch h⟩
        refine q_asg (ev_addS (ev_str01 (b := false) ev_c (ev_intB (b := false) (ev_isC (ev_var rfl) T.e_NoText T.e_NoRow T.p_NoText_NoRow (fun _ => ne_of_sub T.p_NoText_NoRow T.p_NoText_NoText)))) (ev_str01 (b := false) ev_c (ev_intB (b := false) (ev_isC (ev_var rfl) T.e_NoText T.e_NoSign T.p_NoText_NoSign (fun _ => ne_of_sub T.p_NoText_NoSign T.p_NoText_NoText)))) (by decide +kernel)) fun S1 f1 => ?_
        refine q_asg (ev_addS (ev_addS (ev_var rfl) (ev_str01 (b := false) ev_c (ev_intB (b := false) (ev_isC (ev_var rfl) T.e_NoText T.e_NoDivisor T.p_NoText_NoDivisor (fun _ => ne_of_sub T.p_NoText_NoDivisor T.p_NoText_NoText)))) (by decide +kernel)) (ev_str01 (b := false) ev_c (ev_intB (b := false) (ev_isC (ev_var rfl) T.e_NoText T.e_NoCount T.p_NoText_NoCount (fun _ => ne_of_sub T.p_NoText_NoCount T.p_NoText_NoText)))) (by decide +kernel)) fun S2 f2 => ?_
        refine q_asg (ev_addS (ev_addS (ev_var rfl) (ev_str01 (b := false) ev_c (ev_intB (b := false) (ev_isC (ev_var rfl) T.e_NoText T.e_TooLong T.p_NoText_TooLong (fun _ => ne_of_sub T.p_NoText_TooLong T.p_NoText_NoText)))) (by decide +kernel)) (ev_str01 (b := false) ev_c (ev_intB (b := false) (ev_isC (ev_var rfl) T.e_NoText T.e_TooShort T.p_NoText_TooShort (fun _ => ne_of_sub T.p_NoText_TooShort T.p_NoText_NoText)))) (by decide +kernel)) fun S4 f4 => ?_
        refine q_asg (ev_addS (ev_addS (ev_var rfl) (ev_str01 (b := false) ev_c (ev_intB (b := false) (ev_isC (ev_var rfl) T.e_NoText T.e_Broken T.p_NoText_Broken (fun _ => ne_of_sub T.p_NoText_Broken T.p_NoText_NoText)))) (by decide +kernel)) (ev_str01 (b := false) ev_c (ev_intB (b := false) (ev_isC (ev_var rfl) T.e_NoText T.e_NoMate T.p_NoText_NoMate (fun _ => ne_of_sub T.p_NoText_NoMate T.p_NoText_NoText)))) (by decide +kernel)) fun S6 f6 => ?_
        refine s_ret (ev_is (ev_addS (ev_addS (ev_var rfl) (ev_str01 (b := true) ev_c (ev_intB (b := true) (ev_isC (ev_var rfl) T.e_NoText T.e_NoText T.p_NoText_NoText (fun h => nomatch h)))) (by decide +kernel)) (ev_str01 (b := true) ev_c (ev_intB (b := true) (ev_isV (ev_var rfl) T.e_NoText))) (by decide +kernel)) (w := .str (("t" : Str) ++ ("v" : Str))) (congrArg V.str (by decide +kernel))) fun S8 f8 => ?_
        exact q S8 (((((e.trans f1).trans f2).trans f4).trans f6).trans f8)


def sp_law (K : PySem.W.Frag) : Sp := fun vs H Q _ => ∃ (a : Addr) (ns : List Int), vs = [.ref a] ∧ SqL K H a (iv ns) ∧ ns.length ≤ 63 ∧ ∀ H', Q (.bl true) H'
theorem ok_law {f : Addr} {fd : FuncData} (F : Fun K "law" "law" s_law f fd) (T : Txt K mg cs) : FnOk P w K mg base (L2.CX P w) 12 f fd ["_law_script"] (sp_law K) := by
  refine F.okX sc_law (fun vs H Q E h => ?_) (fun cdv A outer s H vs Q E hr h => ?_)
  · obtain ⟨a, ns, rfl, _⟩ := h
    rfl
  · obtain ⟨a, ns, rfl, hS, hlen, q⟩ := h
    refine ⟨_, (pss_cons (ps_set (i := 1) sc_law.nd rfl (Or.inl rfl) (pe_op op_mod (pe_callH (has__law_cell_at T) (hr.mono (by decide)) passL (pa_cons (pv 0) (pa_cons pe_int pa_nil))) pe_int))
      (pss_cut (ps_if (pt_cmpR op_eqII (pe_op op_mod (pe_op op_fdiv (pe_callH (has__law_cell_at T) (hr.mono (by decide)) passL (pa_cons (pv 0) (pa_cons pe_int pa_nil))) pe_int) pe_int) pe_int (nomark _)) (pss_one (ps_set (i := 1) sc_law.nd rfl (Or.inl rfl) (pe_op op_mod (pe_op op_fdiv (pe_callH (has__law_cell_at T) (hr.mono (by decide)) passL (pa_cons (pv 0) (pa_cons pe_int pa_nil))) pe_int) pe_int))) pss_nil)
      (pss_cons (ps_set (i := 2) sc_law.nd rfl (Or.inl rfl) (pe_callH (has__law_row_by T) (hr.mono (by decide)) passL (pa_cons (pe_callH (has__law_cell_at T) (hr.mono (by decide)) passL (pa_cons (pv 0) (pa_cons pe_int pa_nil))) (pa_cons (pv 1) pa_nil))))
      (pss_cons (ps_set (i := 3) sc_law.nd rfl (Or.inl rfl) (pe_op op_mod (pe_callH (has__law_cell_at T) (hr.mono (by decide)) passL (pa_cons (pv 0) (pa_cons pe_int pa_nil))) pe_int))
      (pss_cons (ps_set (i := 4) sc_law.nd rfl (Or.inl rfl) (pe_makeH (has_Gate___init__ T) (hr.mono (by decide)) T.c_Gate.g passL (pa_cons (pe_lst (pa_cons pe_int (pa_cons (pe_op op_mod (pe_callH (has__law_cell_at T) (hr.mono (by decide)) passL (pa_cons (pv 0) (pa_cons pe_int pa_nil))) pe_int) (pa_cons (pe_op op_sub pe_int (pe_op op_mod (pe_callH (has__law_cell_at T) (hr.mono (by decide)) passL (pa_cons (pv 0) (pa_cons pe_int pa_nil))) pe_int)) (pa_cons pe_int pa_nil))))) pa_nil)))
      (pss_cons (ps_set (i := 5) sc_law.nd rfl (Or.inl rfl) (pe_callH (has__law_bad T) (hr.mono (by decide)) passL (pa_cons (pe_callH (has__law_cell_at T) (hr.mono (by decide)) passL (pa_cons (pv 0) (pa_cons pe_int pa_nil))) (pa_cons (pv 2) pa_nil))))
      (pss_cons (ps_set (i := 6) sc_law.nd rfl (Or.inl rfl) pe_str)
      (pss_cut (ps_if (pt_cmpR op_gt (pv 3) pe_int (nomark _)) (pss_one (ps_set (i := 6) sc_law.nd rfl (Or.inl rfl) (pe_ix ix_str pe_str (pe_op op_sub (pv 3) pe_int) (fun _ _ => rfl)))) pss_nil)
      (pss_one (ps_ret (pe_cmpR op_eq (pe_callH (has__law_words T) (hr.mono (by decide)) passL (pa_cons (pv 3) (pa_cons (pv 5) (pa_cons (pv 2) (pa_cons (pv 4) pa_nil))))) (pe_op op_add_str (pv 6) pe_str) (nomark _)))))))))))), ?_⟩
    refine q_asg (by walk_at "cg ev") fun H1 e1 => ?_
    generalize hsz : cellV ns 0 % 21 = sz
    have hs1 : 0 ≤ sz ∧ sz ≤ 400 := by omega
    clear hsz
    refine q_cut (M := fun σ' H' => ∃ (n : Nat), σ' = [some (.ref a), some (.int (n : Int)), none, none, none, none, none] ∧ n ≤ 400 ∧ Ex H H') ?_ ?_
    · refine s_when (by walk_at "cg et") (fun _ H4 e4 => ?_) (fun _ H4 e4 => ⟨sz.toNat, by rw [Int.toNat_of_nonneg hs1.1]; rfl, by omega, e1.trans e4⟩)
      refine s_asg (by walk_at "cg ev") fun H6 e6 => ⟨(cellV ns 0 / 126 % 301).toNat, ?_, by omega, (e1.trans e4).trans e6⟩
      rw [Int.toNat_of_nonneg (Int.emod_nonneg _ (by decide))]
      rfl
    clear e1 hs1 sz
    rintro σ' H1 ⟨n, rfl, hn, e⟩
    refine q_asgC (by walk_at "cg ea") fun H6 e6 => ⟨_, _, rfl, by omega, by omega, fun xs bx lx p1 H7 n7 e7 h7 => ?_⟩
    refine q_asg (by walk_at "cg ev") fun H8 e8 => ?_
    generalize hk : cellV ns 2 % 28 = k
    have k0 : 0 ≤ k ∧ k < 28 := by omega
    obtain ⟨b, eb, hb⟩ : ∃ b, cellV ns 3 % 2 = b ∧ (b = 0 ∨ b = 1) := ⟨_, rfl, by omega⟩
    have hd : [1, b, 1 - b, 1] = [(1 : Int), 0, 1, 1] ∨ [1, b, 1 - b, 1] = [(1 : Int), 1, 0, 1] := by
      rcases hb with rfl | rfl
      · exact .inl rfl
      · exact .inr rfl
    have D : IsDiv [1, b, 1 - b, 1] := by
      rcases hd with z | z
      · rw [z]
        exact ⟨by intro x hx; simp at hx; omega, by decide, by decide, rfl, rfl⟩
      · rw [z]
        exact ⟨by intro x hx; simp at hx; omega, by decide, by decide, rfl, rfl⟩
    refine q_asgW (eg_make D (er_L (el_lst (vs := iv [1, b, 1 - b, 1]) (ea_cons ev_c (ea_cons (ev_is (by walk_at "cg ev") (congrArg V.int eb)) (ea_two (ev_is (by walk_at "cg ev") (congrArg V.int (by rw [eb]))) ev_c))) (by show 4 ≤ 100000; decide))) H8 (.refl H8) _ fun g da H9 ng nd e9 G => ?_)
    generalize [1, b, 1 - b, 1] = ds at hd D G
    refine q_asgC (by walk_at "cg ea") fun H10 e10 => ⟨_, p1, xs, rfl, by walk_at "cg hp", bx, by omega, fun v H11 e11 bv => ?_⟩
    have eG := e10.trans e11
    have G11 := G.mono eG
    have c1 : H11 p1 = some (.lst (iv xs)) := by walk_at "cg hp"
    clear e10 e11 eG G e e6 e7 e8 e9 h7 n7 ng nd hk eb hb
    refine q_asg ev_c fun H12 e12 => ?_
    refine q_cut (M := fun σ' H' => σ' = [some (.ref a), some (.int (n : Int)), some (.ref p1), some (.int k), some (.ref g), some v, some (.str (dueS k))] ∧ Ex H11 H') ?_ ?_
    · refine s_when (et_test (ev_i0 (ev_var rfl) ev_c)) (fun hc H13 e13 => ?_) (fun hc H13 e13 => ⟨?_, e12.trans e13⟩)
      · have hc' := of_decide_eq_true hc
        rcases (show k = 18 ∨ k = 19 ∨ k = 20 ∨ k = 21 ∨ k = 22 ∨ k = 23 ∨ k = 24 ∨ k = 25 ∨ k = 26 ∨ k = 27 by omega) with rfl | rfl | rfl | rfl | rfl | rfl | rfl | rfl | rfl | rfl
        · exact s_asg (ev_is (ev_op ev_c (ev_i0 (ev_var rfl) ev_c) (rv_ixS (c := 115) (by decide +kernel) (by decide +kernel))) (w := .str (dueS 18)) (congrArg V.str (by decide +kernel))) fun H14 e14 => ⟨rfl, (e12.trans e13).trans e14⟩
        · exact s_asg (ev_is (ev_op ev_c (ev_i0 (ev_var rfl) ev_c) (rv_ixS (c := 100) (by decide +kernel) (by decide +kernel))) (w := .str (dueS 19)) (congrArg V.str (by decide +kernel))) fun H14 e14 => ⟨rfl, (e12.trans e13).trans e14⟩
        · exact s_asg (ev_is (ev_op ev_c (ev_i0 (ev_var rfl) ev_c) (rv_ixS (c := 100) (by decide +kernel) (by decide +kernel))) (w := .str (dueS 20)) (congrArg V.str (by decide +kernel))) fun H14 e14 => ⟨rfl, (e12.trans e13).trans e14⟩
        · exact s_asg (ev_is (ev_op ev_c (ev_i0 (ev_var rfl) ev_c) (rv_ixS (c := 99) (by decide +kernel) (by decide +kernel))) (w := .str (dueS 21)) (congrArg V.str (by decide +kernel))) fun H14 e14 => ⟨rfl, (e12.trans e13).trans e14⟩
        · exact s_asg (ev_is (ev_op ev_c (ev_i0 (ev_var rfl) ev_c) (rv_ixS (c := 108) (by decide +kernel) (by decide +kernel))) (w := .str (dueS 22)) (congrArg V.str (by decide +kernel))) fun H14 e14 => ⟨rfl, (e12.trans e13).trans e14⟩
        · exact s_asg (ev_is (ev_op ev_c (ev_i0 (ev_var rfl) ev_c) (rv_ixS (c := 104) (by decide +kernel) (by decide +kernel))) (w := .str (dueS 23)) (congrArg V.str (by decide +kernel))) fun H14 e14 => ⟨rfl, (e12.trans e13).trans e14⟩
        · exact s_asg (ev_is (ev_op ev_c (ev_i0 (ev_var rfl) ev_c) (rv_ixS (c := 98) (by decide +kernel) (by decide +kernel))) (w := .str (dueS 24)) (congrArg V.str (by decide +kernel))) fun H14 e14 => ⟨rfl, (e12.trans e13).trans e14⟩
        · exact s_asg (ev_is (ev_op ev_c (ev_i0 (ev_var rfl) ev_c) (rv_ixS (c := 98) (by decide +kernel) (by decide +kernel))) (w := .str (dueS 25)) (congrArg V.str (by decide +kernel))) fun H14 e14 => ⟨rfl, (e12.trans e13).trans e14⟩
        · exact s_asg (ev_is (ev_op ev_c (ev_i0 (ev_var rfl) ev_c) (rv_ixS (c := 109) (by decide +kernel) (by decide +kernel))) (w := .str (dueS 26)) (congrArg V.str (by decide +kernel))) fun H14 e14 => ⟨rfl, (e12.trans e13).trans e14⟩
        · exact s_asg (ev_is (ev_op ev_c (ev_i0 (ev_var rfl) ev_c) (rv_ixS (c := 116) (by decide +kernel) (by decide +kernel))) (w := .str (dueS 27)) (congrArg V.str (by decide +kernel))) fun H14 e14 => ⟨rfl, (e12.trans e13).trans e14⟩
      · have hc' := of_decide_eq_false hc
        have dk : dueS k = "r" := if_pos (by omega)
        rw [dk]
        rfl
    rintro σ' H13 ⟨rfl, e⟩
    refine s_ret (ev_is (ev_eqS (x := .str (dueS k ++ ("v" : Str))) (y := .str (dueS k ++ ("v" : Str))) (ev_call (ea_cons (ev_var rfl) (ea_cons (ev_var rfl) (ea_two (ev_var rfl) (ev_var rfl)))) fun H1 e1 Q q _ => ⟨k, v, p1, g, da, xs, ds, rfl, k0.2, (bv.mono e).mono e1, e1 _ _ (e _ _ c1), bx, by omega, (G11.mono e).mono e1, hd, q⟩) (ev_addS (ev_var rfl) ev_c ?_) rfl) (w := .bl true) (congrArg V.bl (decide_eq_true rfl))) fun H14 e14 => q H14
    have : (dueS k).length = 1 := by
      unfold dueS
      repeat' split
      all_goals rfl
    rw [this]
    decide


end
theorem all_mk {l : PySem.W.OpenLaw} {w : World} {K : PySem.W.Frag} {h : Heap} {mg : Str → Option Value} {fa f0 f1 f2 f3 f4 f5 f6 f7 f8 f9 f10 f11 f12 f13 f14 f15 f16 f17 f18 f19 f20 f21 f22 f23 f24 f25 f26 f27 f28 f29 f30 f31 f32 f33 f34 f35 f36 x0 x1 x2 x3 x4 x5 x6 x7 x8 x9 kGate kRegister : Addr} (X : K.In h) (G : h.Ns mainGlobals mg) (hfa : mg "law" = some (.ref fa))
    {od0 an0 od1 an1 od2 an2 od3 an3 od4 an4 od5 an5 od6 an6 od7 an7 od8 an8 od9 an9 od10 an10 od11 an11 od12 an12 od13 an13 od14 an14 od15 an15 od16 an16 od17 an17 od18 an18 od19 an19 od20 an20 od21 an21 od22 an22 od23 an23 od24 an24 od25 an25 od26 an26 od27 an27 od28 an28 od29 an29 od30 an30 od31 an31 od32 an32 od33 an33 od34 an34 od35 an35 od36 an36 : Option Addr} {sl0 sl1 sl2 sl3 sl4 sl5 sl6 sl7 sl8 sl9 sl10 sl11 sl12 sl13 sl14 sl15 sl16 sl17 sl18 sl19 sl20 sl21 sl22 sl23 sl24 sl25 sl26 sl27 sl28 sl29 sl30 sl31 sl32 sl33 sl34 sl35 sl36 : Array (Option Value)} {oc0 kV0 dc0 pm0 cd0 ct0 oc1 kV1 dc1 pm1 cd1 ct1 oc2 kV2 dc2 pm2 cd2 ct2 oc3 kV3 dc3 pm3 cd3 ct3 oc4 kV4 dc4 pm4 cd4 ct4 oc5 kV5 dc5 pm5 cd5 ct5 oc6 kV6 dc6 pm6 cd6 ct6 oc7 kV7 dc7 pm7 cd7 ct7 oc8 kV8 dc8 pm8 cd8 ct8 oc9 kV9 dc9 pm9 cd9 ct9 oc10 kV10 dc10 pm10 cd10 ct10 oc11 kV11 dc11 pm11 cd11 ct11 oc12 kV12 dc12 pm12 cd12 ct12 oc13 kV13 dc13 pm13 cd13 ct13 oc14 kV14 dc14 pm14 cd14 ct14 oc15 kV15 dc15 pm15 cd15 ct15 oc16 kV16 dc16 pm16 cd16 ct16 oc17 kV17 dc17 pm17 cd17 ct17 oc18 kV18 dc18 pm18 cd18 ct18 oc19 kV19 dc19 pm19 cd19 ct19 oc20 kV20 dc20 pm20 cd20 ct20 oc21 kV21 dc21 pm21 cd21 ct21 oc22 kV22 dc22 pm22 cd22 ct22 oc23 kV23 dc23 pm23 cd23 ct23 oc24 kV24 dc24 pm24 cd24 ct24 oc25 kV25 dc25 pm25 cd25 ct25 oc26 kV26 dc26 pm26 cd26 ct26 oc27 kV27 dc27 pm27 cd27 ct27 oc28 kV28 dc28 pm28 cd28 ct28 oc29 kV29 dc29 pm29 cd29 ct29 oc30 kV30 dc30 pm30 cd30 ct30 oc31 kV31 dc31 pm31 cd31 ct31 oc32 kV32 dc32 pm32 cd32 ct32 oc33 kV33 dc33 pm33 cd33 ct33 oc34 kV34 dc34 pm34 cd34 ct34 oc35 kV35 dc35 pm35 cd35 ct35 oc36 kV36 dc36 pm36 cd36 ct36 : Value} {tk0 tk1 tk2 tk3 tk4 : Tok}
    (a0 : PySem.W.nsIn K mainGlobals "is_sign" = some (some (.ref f0))) (l0 : K.lookup f0 = some ⟨oc0, od0, .func (PySem.W.fnOf "is_sign" "is_sign" (defArgs s_is_sign) (defBody s_is_sign) (defScope s_is_sign) .none kV0 dc0 pm0 an0 cd0 ct0), sl0⟩) (c0 : PySem.W.codeIn K cd0 "is_sign" = true) (k0 : PySem.W.keepIn K (.ref f0) = true)
    (a1 : PySem.W.nsIn K mainGlobals "need_row" = some (some (.ref f1))) (l1 : K.lookup f1 = some ⟨oc1, od1, .func (PySem.W.fnOf "need_row" "need_row" (defArgs s_need_row) (defBody s_need_row) (defScope s_need_row) .none kV1 dc1 pm1 an1 cd1 ct1), sl1⟩) (c1 : PySem.W.codeIn K cd1 "need_row" = true) (k1 : PySem.W.keepIn K (.ref f1) = true)
    (a2 : PySem.W.nsIn K mainGlobals "need_divisor" = some (some (.ref f2))) (l2 : K.lookup f2 = some ⟨oc2, od2, .func (PySem.W.fnOf "need_divisor" "need_divisor" (defArgs s_need_divisor) (defBody s_need_divisor) (defScope s_need_divisor) .none kV2 dc2 pm2 an2 cd2 ct2), sl2⟩) (c2 : PySem.W.codeIn K cd2 "need_divisor" = true) (k2 : PySem.W.keepIn K (.ref f2) = true)
    (a3 : PySem.W.nsIn K mainGlobals "lengthened" = some (some (.ref f3))) (l3 : K.lookup f3 = some ⟨oc3, od3, .func (PySem.W.fnOf "lengthened" "lengthened" (defArgs s_lengthened) (defBody s_lengthened) (defScope s_lengthened) .none kV3 dc3 pm3 an3 cd3 ct3), sl3⟩) (c3 : PySem.W.codeIn K cd3 "lengthened" = true) (k3 : PySem.W.keepIn K (.ref f3) = true)
    (a4 : PySem.W.nsIn K mainGlobals "added" = some (some (.ref f4))) (l4 : K.lookup f4 = some ⟨oc4, od4, .func (PySem.W.fnOf "added" "added" (defArgs s_added) (defBody s_added) (defScope s_added) .none kV4 dc4 pm4 an4 cd4 ct4), sl4⟩) (c4 : PySem.W.codeIn K cd4 "added" = true) (k4 : PySem.W.keepIn K (.ref f4) = true)
    (a5 : PySem.W.nsIn K mainGlobals "times" = some (some (.ref f5))) (l5 : K.lookup f5 = some ⟨oc5, od5, .func (PySem.W.fnOf "times" "times" (defArgs s_times) (defBody s_times) (defScope s_times) .none kV5 dc5 pm5 an5 cd5 ct5), sl5⟩) (c5 : PySem.W.codeIn K cd5 "times" = true) (k5 : PySem.W.keepIn K (.ref f5) = true)
    (a6 : PySem.W.nsIn K mainGlobals "reduced" = some (some (.ref f6))) (l6 : K.lookup f6 = some ⟨oc6, od6, .func (PySem.W.fnOf "reduced" "reduced" (defArgs s_reduced) (defBody s_reduced) (defScope s_reduced) .none kV6 dc6 pm6 an6 cd6 ct6), sl6⟩) (c6 : PySem.W.codeIn K cd6 "reduced" = true) (k6 : PySem.W.keepIn K (.ref f6) = true)
    (a7 : PySem.W.nsIn K mainGlobals "parted" = some (some (.ref f7))) (l7 : K.lookup f7 = some ⟨oc7, od7, .func (PySem.W.fnOf "parted" "parted" (defArgs s_parted) (defBody s_parted) (defScope s_parted) .none kV7 dc7 pm7 an7 cd7 ct7), sl7⟩) (c7 : PySem.W.codeIn K cd7 "parted" = true) (k7 : PySem.W.keepIn K (.ref f7) = true)
    (a8 : PySem.W.nsIn K mainGlobals "need_gate_divisor" = some (some (.ref f8))) (l8 : K.lookup f8 = some ⟨oc8, od8, .func (PySem.W.fnOf "need_gate_divisor" "need_gate_divisor" (defArgs s_need_gate_divisor) (defBody s_need_gate_divisor) (defScope s_need_gate_divisor) .none kV8 dc8 pm8 an8 cd8 ct8), sl8⟩) (c8 : PySem.W.codeIn K cd8 "need_gate_divisor" = true) (k8 : PySem.W.keepIn K (.ref f8) = true)
    (a9 : PySem.W.nsIn K mainGlobals "reach" = some (some (.ref f9))) (l9 : K.lookup f9 = some ⟨oc9, od9, .func (PySem.W.fnOf "reach" "reach" (defArgs s_reach) (defBody s_reach) (defScope s_reach) .none kV9 dc9 pm9 an9 cd9 ct9), sl9⟩) (c9 : PySem.W.codeIn K cd9 "reach" = true) (k9 : PySem.W.keepIn K (.ref f9) = true)
    (a10 : PySem.W.nsIn K mainGlobals "is_count" = some (some (.ref f10))) (l10 : K.lookup f10 = some ⟨oc10, od10, .func (PySem.W.fnOf "is_count" "is_count" (defArgs s_is_count) (defBody s_is_count) (defScope s_is_count) .none kV10 dc10 pm10 an10 cd10 ct10), sl10⟩) (c10 : PySem.W.codeIn K cd10 "is_count" = true) (k10 : PySem.W.keepIn K (.ref f10) = true)
    (a11 : PySem.W.nsIn K mainGlobals "turned" = some (some (.ref f11))) (l11 : K.lookup f11 = some ⟨oc11, od11, .func (PySem.W.fnOf "turned" "turned" (defArgs s_turned) (defBody s_turned) (defScope s_turned) .none kV11 dc11 pm11 an11 cd11 ct11), sl11⟩) (c11 : PySem.W.codeIn K cd11 "turned" = true) (k11 : PySem.W.keepIn K (.ref f11) = true)
    (a12 : PySem.W.findIn K (.ref kGate) "__init__" = some (some (.ref f12))) (i12 : PySem.W.isFn K (.ref f12) = true) (l12 : K.lookup f12 = some ⟨oc12, od12, .func (PySem.W.fnOf "__init__" "Gate.__init__" (defArgs s_Gate___init__) (defBody s_Gate___init__) (defScope s_Gate___init__) .none kV12 dc12 pm12 an12 cd12 ct12), sl12⟩) (c12 : PySem.W.codeIn K cd12 "Gate.__init__" = true) (k12 : PySem.W.keepIn K (.ref f12) = true)
    (a13 : PySem.W.findIn K (.ref kGate) "rest" = some (some (.ref f13))) (i13 : PySem.W.isFn K (.ref f13) = true) (l13 : K.lookup f13 = some ⟨oc13, od13, .func (PySem.W.fnOf "rest" "Gate.rest" (defArgs s_Gate_rest) (defBody s_Gate_rest) (defScope s_Gate_rest) .none kV13 dc13 pm13 an13 cd13 ct13), sl13⟩) (c13 : PySem.W.codeIn K cd13 "Gate.rest" = true) (k13 : PySem.W.keepIn K (.ref f13) = true)
    (a14 : PySem.W.findIn K (.ref kGate) "later" = some (some (.ref f14))) (i14 : PySem.W.isFn K (.ref f14) = true) (l14 : K.lookup f14 = some ⟨oc14, od14, .func (PySem.W.fnOf "later" "Gate.later" (defArgs s_Gate_later) (defBody s_Gate_later) (defScope s_Gate_later) .none kV14 dc14 pm14 an14 cd14 ct14), sl14⟩) (c14 : PySem.W.codeIn K cd14 "Gate.later" = true) (k14 : PySem.W.keepIn K (.ref f14) = true)
    (a15 : PySem.W.findIn K (.ref kGate) "check" = some (some (.ref f15))) (i15 : PySem.W.isFn K (.ref f15) = true) (l15 : K.lookup f15 = some ⟨oc15, od15, .func (PySem.W.fnOf "check" "Gate.check" (defArgs s_Gate_check) (defBody s_Gate_check) (defScope s_Gate_check) .none kV15 dc15 pm15 an15 cd15 ct15), sl15⟩) (c15 : PySem.W.codeIn K cd15 "Gate.check" = true) (k15 : PySem.W.keepIn K (.ref f15) = true)
    (a16 : PySem.W.findIn K (.ref kGate) "sealed" = some (some (.ref f16))) (i16 : PySem.W.isFn K (.ref f16) = true) (l16 : K.lookup f16 = some ⟨oc16, od16, .func (PySem.W.fnOf "sealed" "Gate.sealed" (defArgs s_Gate_sealed) (defBody s_Gate_sealed) (defScope s_Gate_sealed) .none kV16 dc16 pm16 an16 cd16 ct16), sl16⟩) (c16 : PySem.W.codeIn K cd16 "Gate.sealed" = true) (k16 : PySem.W.keepIn K (.ref f16) = true)
    (a17 : PySem.W.findIn K (.ref kGate) "holds" = some (some (.ref f17))) (i17 : PySem.W.isFn K (.ref f17) = true) (l17 : K.lookup f17 = some ⟨oc17, od17, .func (PySem.W.fnOf "holds" "Gate.holds" (defArgs s_Gate_holds) (defBody s_Gate_holds) (defScope s_Gate_holds) .none kV17 dc17 pm17 an17 cd17 ct17), sl17⟩) (c17 : PySem.W.codeIn K cd17 "Gate.holds" = true) (k17 : PySem.W.keepIn K (.ref f17) = true)
    (a18 : PySem.W.findIn K (.ref kGate) "opened" = some (some (.ref f18))) (i18 : PySem.W.isFn K (.ref f18) = true) (l18 : K.lookup f18 = some ⟨oc18, od18, .func (PySem.W.fnOf "opened" "Gate.opened" (defArgs s_Gate_opened) (defBody s_Gate_opened) (defScope s_Gate_opened) .none kV18 dc18 pm18 an18 cd18 ct18), sl18⟩) (c18 : PySem.W.codeIn K cd18 "Gate.opened" = true) (k18 : PySem.W.keepIn K (.ref f18) = true)
    (a19 : PySem.W.findIn K (.ref kGate) "mended" = some (some (.ref f19))) (i19 : PySem.W.isFn K (.ref f19) = true) (l19 : K.lookup f19 = some ⟨oc19, od19, .func (PySem.W.fnOf "mended" "Gate.mended" (defArgs s_Gate_mended) (defBody s_Gate_mended) (defScope s_Gate_mended) .none kV19 dc19 pm19 an19 cd19 ct19), sl19⟩) (c19 : PySem.W.codeIn K cd19 "Gate.mended" = true) (k19 : PySem.W.keepIn K (.ref f19) = true)
    (a20 : PySem.W.nsIn K mainGlobals "signs_of" = some (some (.ref f20))) (l20 : K.lookup f20 = some ⟨oc20, od20, .func (PySem.W.fnOf "signs_of" "signs_of" (defArgs s_signs_of) (defBody s_signs_of) (defScope s_signs_of) .none kV20 dc20 pm20 an20 cd20 ct20), sl20⟩) (c20 : PySem.W.codeIn K cd20 "signs_of" = true) (k20 : PySem.W.keepIn K (.ref f20) = true)
    (a21 : PySem.W.nsIn K mainGlobals "letters_by_signs" = some (some (.ref f21))) (l21 : K.lookup f21 = some ⟨oc21, od21, .func (PySem.W.fnOf "letters_by_signs" "letters_by_signs" (defArgs s_letters_by_signs) (defBody s_letters_by_signs) (defScope s_letters_by_signs) .none kV21 dc21 pm21 an21 cd21 ct21), sl21⟩) (c21 : PySem.W.codeIn K cd21 "letters_by_signs" = true) (k21 : PySem.W.keepIn K (.ref f21) = true)
    (a22 : PySem.W.nsIn K mainGlobals "row_of" = some (some (.ref f22))) (l22 : K.lookup f22 = some ⟨oc22, od22, .func (PySem.W.fnOf "row_of" "row_of" (defArgs s_row_of) (defBody s_row_of) (defScope s_row_of) .none kV22 dc22 pm22 an22 cd22 ct22), sl22⟩) (c22 : PySem.W.codeIn K cd22 "row_of" = true) (k22 : PySem.W.keepIn K (.ref f22) = true)
    (a23 : PySem.W.nsIn K mainGlobals "text_of" = some (some (.ref f23))) (l23 : K.lookup f23 = some ⟨oc23, od23, .func (PySem.W.fnOf "text_of" "text_of" (defArgs s_text_of) (defBody s_text_of) (defScope s_text_of) .none kV23 dc23 pm23 an23 cd23 ct23), sl23⟩) (c23 : PySem.W.codeIn K cd23 "text_of" = true) (k23 : PySem.W.keepIn K (.ref f23) = true)
    (a24 : PySem.W.findIn K (.ref kRegister) "__init__" = some (some (.ref f24))) (i24 : PySem.W.isFn K (.ref f24) = true) (l24 : K.lookup f24 = some ⟨oc24, od24, .func (PySem.W.fnOf "__init__" "Register.__init__" (defArgs s_Register___init__) (defBody s_Register___init__) (defScope s_Register___init__) .none kV24 dc24 pm24 an24 cd24 ct24), sl24⟩) (c24 : PySem.W.codeIn K cd24 "Register.__init__" = true) (k24 : PySem.W.keepIn K (.ref f24) = true)
    (a25 : PySem.W.findIn K (.ref kRegister) "put" = some (some (.ref f25))) (i25 : PySem.W.isFn K (.ref f25) = true) (l25 : K.lookup f25 = some ⟨oc25, od25, .func (PySem.W.fnOf "put" "Register.put" (defArgs s_Register_put) (defBody s_Register_put) (defScope s_Register_put) .none kV25 dc25 pm25 an25 cd25 ct25), sl25⟩) (c25 : PySem.W.codeIn K cd25 "Register.put" = true) (k25 : PySem.W.keepIn K (.ref f25) = true)
    (a26 : PySem.W.findIn K (.ref kRegister) "joined" = some (some (.ref f26))) (i26 : PySem.W.isFn K (.ref f26) = true) (l26 : K.lookup f26 = some ⟨oc26, od26, .func (PySem.W.fnOf "joined" "Register.joined" (defArgs s_Register_joined) (defBody s_Register_joined) (defScope s_Register_joined) .none kV26 dc26 pm26 an26 cd26 ct26), sl26⟩) (c26 : PySem.W.codeIn K cd26 "Register.joined" = true) (k26 : PySem.W.keepIn K (.ref f26) = true)
    (a27 : PySem.W.findIn K (.ref kRegister) "rest" = some (some (.ref f27))) (i27 : PySem.W.isFn K (.ref f27) = true) (l27 : K.lookup f27 = some ⟨oc27, od27, .func (PySem.W.fnOf "rest" "Register.rest" (defArgs s_Register_rest) (defBody s_Register_rest) (defScope s_Register_rest) .none kV27 dc27 pm27 an27 cd27 ct27), sl27⟩) (c27 : PySem.W.codeIn K cd27 "Register.rest" = true) (k27 : PySem.W.keepIn K (.ref f27) = true)
    (a28 : PySem.W.findIn K (.ref kRegister) "check" = some (some (.ref f28))) (i28 : PySem.W.isFn K (.ref f28) = true) (l28 : K.lookup f28 = some ⟨oc28, od28, .func (PySem.W.fnOf "check" "Register.check" (defArgs s_Register_check) (defBody s_Register_check) (defScope s_Register_check) .none kV28 dc28 pm28 an28 cd28 ct28), sl28⟩) (c28 : PySem.W.codeIn K cd28 "Register.check" = true) (k28 : PySem.W.keepIn K (.ref f28) = true)
    (a29 : PySem.W.nsIn K mainGlobals "_law_cell_at" = some (some (.ref f29))) (l29 : K.lookup f29 = some ⟨oc29, od29, .func (PySem.W.fnOf "_law_cell_at" "_law_cell_at" (defArgs s__law_cell_at) (defBody s__law_cell_at) (defScope s__law_cell_at) .none kV29 dc29 pm29 an29 cd29 ct29), sl29⟩) (c29 : PySem.W.codeIn K cd29 "_law_cell_at" = true) (k29 : PySem.W.keepIn K (.ref f29) = true)
    (a30 : PySem.W.nsIn K mainGlobals "_law_row_by" = some (some (.ref f30))) (l30 : K.lookup f30 = some ⟨oc30, od30, .func (PySem.W.fnOf "_law_row_by" "_law_row_by" (defArgs s__law_row_by) (defBody s__law_row_by) (defScope s__law_row_by) .none kV30 dc30 pm30 an30 cd30 ct30), sl30⟩) (c30 : PySem.W.codeIn K cd30 "_law_row_by" = true) (k30 : PySem.W.keepIn K (.ref f30) = true)
    (a31 : PySem.W.nsIn K mainGlobals "_law_bad" = some (some (.ref f31))) (l31 : K.lookup f31 = some ⟨oc31, od31, .func (PySem.W.fnOf "_law_bad" "_law_bad" (defArgs s__law_bad) (defBody s__law_bad) (defScope s__law_bad) .none kV31 dc31 pm31 an31 cd31 ct31), sl31⟩) (c31 : PySem.W.codeIn K cd31 "_law_bad" = true) (k31 : PySem.W.keepIn K (.ref f31) = true)
    (a32 : PySem.W.nsIn K mainGlobals "_law_rows_called" = some (some (.ref f32))) (l32 : K.lookup f32 = some ⟨oc32, od32, .func (PySem.W.fnOf "_law_rows_called" "_law_rows_called" (defArgs s__law_rows_called) (defBody s__law_rows_called) (defScope s__law_rows_called) .none kV32 dc32 pm32 an32 cd32 ct32), sl32⟩) (c32 : PySem.W.codeIn K cd32 "_law_rows_called" = true) (k32 : PySem.W.keepIn K (.ref f32) = true)
    (a33 : PySem.W.nsIn K mainGlobals "_law_gate_called" = some (some (.ref f33))) (l33 : K.lookup f33 = some ⟨oc33, od33, .func (PySem.W.fnOf "_law_gate_called" "_law_gate_called" (defArgs s__law_gate_called) (defBody s__law_gate_called) (defScope s__law_gate_called) .none kV33 dc33 pm33 an33 cd33 ct33), sl33⟩) (c33 : PySem.W.codeIn K cd33 "_law_gate_called" = true) (k33 : PySem.W.keepIn K (.ref f33) = true)
    (a34 : PySem.W.nsIn K mainGlobals "_law_else_called" = some (some (.ref f34))) (l34 : K.lookup f34 = some ⟨oc34, od34, .func (PySem.W.fnOf "_law_else_called" "_law_else_called" (defArgs s__law_else_called) (defBody s__law_else_called) (defScope s__law_else_called) .none kV34 dc34 pm34 an34 cd34 ct34), sl34⟩) (c34 : PySem.W.codeIn K cd34 "_law_else_called" = true) (k34 : PySem.W.keepIn K (.ref f34) = true)
    (a35 : PySem.W.nsIn K mainGlobals "_law_words" = some (some (.ref f35))) (l35 : K.lookup f35 = some ⟨oc35, od35, .func (PySem.W.fnOf "_law_words" "_law_words" (defArgs s__law_words) (defBody s__law_words) (defScope s__law_words) .none kV35 dc35 pm35 an35 cd35 ct35), sl35⟩) (c35 : PySem.W.codeIn K cd35 "_law_words" = true) (k35 : PySem.W.keepIn K (.ref f35) = true)
    (a36 : PySem.W.nsIn K mainGlobals "law" = some (some (.ref f36))) (l36 : K.lookup f36 = some ⟨oc36, od36, .func (PySem.W.fnOf "law" "law" (defArgs s_law) (defBody s_law) (defScope s_law) .none kV36 dc36 pm36 an36 cd36 ct36), sl36⟩) (c36 : PySem.W.codeIn K cd36 "law" = true) (k36 : PySem.W.keepIn K (.ref f36) = true)
    (oGate_g : PySem.W.nsIn K mainGlobals "Gate" = some (some (.ref kGate)))
    (oGate_pg : PySem.W.plainGet K kGate Str.empty = true)
    (oGate_hd : PySem.W.hasDictIn K kGate = true)
    (oGate_po : PySem.W.plainOver K kGate = true)
    (oGate_sa : PySem.W.findIn K (.ref kGate) "__setattr__" = some (some (.builtin "object.__setattr__")))
    (oGate_mk : PySem.W.makesIn K kGate = true)
    (oGate_kp : PySem.W.keepIn K (.ref kGate) = true)
    (oGate_n_reach : PySem.W.findIn K (.ref kGate) "reach" = some none)
    (oGate_n_divisor : PySem.W.findIn K (.ref kGate) "divisor" = some none)
    (oGate_n_width : PySem.W.findIn K (.ref kGate) "width" = some none)
    (oGate_n_even : PySem.W.findIn K (.ref kGate) "even" = some none)
    (oGate_w1 : PySem.W.isClsIn K kGate = true)
    (oGate_w2 : PySem.W.typeIn K (.ref kGate) = some (.type "type"))
    (oGate_w3 : PySem.W.findIn K (.ref kGate) "__class__" = some (some (.builtin "object.__class__")))
    (oGate_w4 : PySem.W.mroIn K kGate (.type "object") = some true)
    (oRegister_g : PySem.W.nsIn K mainGlobals "Register" = some (some (.ref kRegister)))
    (oRegister_pg : PySem.W.plainGet K kRegister Str.empty = true)
    (oRegister_hd : PySem.W.hasDictIn K kRegister = true)
    (oRegister_po : PySem.W.plainOver K kRegister = true)
    (oRegister_sa : PySem.W.findIn K (.ref kRegister) "__setattr__" = some (some (.builtin "object.__setattr__")))
    (oRegister_mk : PySem.W.makesIn K kRegister = true)
    (oRegister_kp : PySem.W.keepIn K (.ref kRegister) = true)
    (oRegister_n_gate : PySem.W.findIn K (.ref kRegister) "gate" = some none)
    (oRegister_n_many : PySem.W.findIn K (.ref kRegister) "many" = some none)
    (oRegister_n__rest : PySem.W.findIn K (.ref kRegister) "_rest" = some none)
    (oRegister_w1 : PySem.W.isClsIn K kRegister = true)
    (oRegister_w2 : PySem.W.typeIn K (.ref kRegister) = some (.type "type"))
    (oRegister_w3 : PySem.W.findIn K (.ref kRegister) "__class__" = some (some (.builtin "object.__class__")))
    (oRegister_w4 : PySem.W.mroIn K kRegister (.type "object") = some true)
    (oRegister_b_NoneType : PySem.W.subIn K (.type "NoneType") (.ref kRegister) = some false)
    (oRegister_b_list : PySem.W.subIn K (.type "list") (.ref kRegister) = some false)
    (oRegister_b_int : PySem.W.subIn K (.type "int") (.ref kRegister) = some false)
    (oRegister_b_str : PySem.W.subIn K (.type "str") (.ref kRegister) = some false)
    (oRegister_b_tuple : PySem.W.subIn K (.type "tuple") (.ref kRegister) = some false)
    (oRegister_b_bool : PySem.W.subIn K (.type "bool") (.ref kRegister) = some false)
    (oRegister_o_Gate : PySem.W.subIn K (.ref kGate) (.ref kRegister) = some false)
    (oRegister_o_Register : PySem.W.subIn K (.ref kRegister) (.ref kRegister) = some true)
    (u0_1 : PySem.W.nsIn K mainGlobals "GateError" = some (some (.ref x0))) (u0_2 : PySem.W.excIn K x0 veBase "ValueError.__new__" = true) (u0_3 : PySem.W.keepIn K (.ref x0) = true) (u0_4 : PySem.W.subIn K (.ref x0) (.type "BaseException") = some true) (u0_5 : PySem.W.typeIn K (.ref x0) = some (.type "type")) (u0_6 : PySem.W.isClsIn K x0 = true) (u0_7 : PySem.W.subIn K (.ref x0) (.type "ValueError") = some true)
    (u0_8 : PySem.W.findIn K (.ref x0) "__getattribute__" = some (some (.builtin "BaseException.__getattribute__"))) (u0_9 : PySem.W.findIn K (.ref x0) "__getattr__" = some none) (u0_10 : PySem.W.hasDictIn K x0 = true) (u0_11 : PySem.W.findIn K (.ref x0) "__class__" = some (some (.builtin "object.__class__"))) (u0_12 : PySem.W.mroIn K x0 (.type "object") = some true)
    (u1_1 : PySem.W.nsIn K mainGlobals "NoRow" = some (some (.ref x1))) (u1_2 : PySem.W.excIn K x1 veBase "ValueError.__new__" = true) (u1_3 : PySem.W.keepIn K (.ref x1) = true) (u1_4 : PySem.W.subIn K (.ref x1) (.type "BaseException") = some true) (u1_5 : PySem.W.typeIn K (.ref x1) = some (.type "type")) (u1_6 : PySem.W.isClsIn K x1 = true) (u1_7 : PySem.W.subIn K (.ref x1) (.type "ValueError") = some true)
    (u1_8 : PySem.W.findIn K (.ref x1) "__getattribute__" = some (some (.builtin "BaseException.__getattribute__"))) (u1_9 : PySem.W.findIn K (.ref x1) "__getattr__" = some none) (u1_10 : PySem.W.hasDictIn K x1 = true) (u1_11 : PySem.W.findIn K (.ref x1) "__class__" = some (some (.builtin "object.__class__"))) (u1_12 : PySem.W.mroIn K x1 (.type "object") = some true)
    (u2_1 : PySem.W.nsIn K mainGlobals "NoSign" = some (some (.ref x2))) (u2_2 : PySem.W.excIn K x2 veBase "ValueError.__new__" = true) (u2_3 : PySem.W.keepIn K (.ref x2) = true) (u2_4 : PySem.W.subIn K (.ref x2) (.type "BaseException") = some true) (u2_5 : PySem.W.typeIn K (.ref x2) = some (.type "type")) (u2_6 : PySem.W.isClsIn K x2 = true) (u2_7 : PySem.W.subIn K (.ref x2) (.type "ValueError") = some true)
    (u2_8 : PySem.W.findIn K (.ref x2) "__getattribute__" = some (some (.builtin "BaseException.__getattribute__"))) (u2_9 : PySem.W.findIn K (.ref x2) "__getattr__" = some none) (u2_10 : PySem.W.hasDictIn K x2 = true) (u2_11 : PySem.W.findIn K (.ref x2) "__class__" = some (some (.builtin "object.__class__"))) (u2_12 : PySem.W.mroIn K x2 (.type "object") = some true)
    (u3_1 : PySem.W.nsIn K mainGlobals "NoDivisor" = some (some (.ref x3))) (u3_2 : PySem.W.excIn K x3 veBase "ValueError.__new__" = true) (u3_3 : PySem.W.keepIn K (.ref x3) = true) (u3_4 : PySem.W.subIn K (.ref x3) (.type "BaseException") = some true) (u3_5 : PySem.W.typeIn K (.ref x3) = some (.type "type")) (u3_6 : PySem.W.isClsIn K x3 = true) (u3_7 : PySem.W.subIn K (.ref x3) (.type "ValueError") = some true)
    (u3_8 : PySem.W.findIn K (.ref x3) "__getattribute__" = some (some (.builtin "BaseException.__getattribute__"))) (u3_9 : PySem.W.findIn K (.ref x3) "__getattr__" = some none) (u3_10 : PySem.W.hasDictIn K x3 = true) (u3_11 : PySem.W.findIn K (.ref x3) "__class__" = some (some (.builtin "object.__class__"))) (u3_12 : PySem.W.mroIn K x3 (.type "object") = some true)
    (u4_1 : PySem.W.nsIn K mainGlobals "NoCount" = some (some (.ref x4))) (u4_2 : PySem.W.excIn K x4 veBase "ValueError.__new__" = true) (u4_3 : PySem.W.keepIn K (.ref x4) = true) (u4_4 : PySem.W.subIn K (.ref x4) (.type "BaseException") = some true) (u4_5 : PySem.W.typeIn K (.ref x4) = some (.type "type")) (u4_6 : PySem.W.isClsIn K x4 = true) (u4_7 : PySem.W.subIn K (.ref x4) (.type "ValueError") = some true)
    (u4_8 : PySem.W.findIn K (.ref x4) "__getattribute__" = some (some (.builtin "BaseException.__getattribute__"))) (u4_9 : PySem.W.findIn K (.ref x4) "__getattr__" = some none) (u4_10 : PySem.W.hasDictIn K x4 = true) (u4_11 : PySem.W.findIn K (.ref x4) "__class__" = some (some (.builtin "object.__class__"))) (u4_12 : PySem.W.mroIn K x4 (.type "object") = some true)
    (u5_1 : PySem.W.nsIn K mainGlobals "TooLong" = some (some (.ref x5))) (u5_2 : PySem.W.excIn K x5 veBase "ValueError.__new__" = true) (u5_3 : PySem.W.keepIn K (.ref x5) = true) (u5_4 : PySem.W.subIn K (.ref x5) (.type "BaseException") = some true) (u5_5 : PySem.W.typeIn K (.ref x5) = some (.type "type")) (u5_6 : PySem.W.isClsIn K x5 = true) (u5_7 : PySem.W.subIn K (.ref x5) (.type "ValueError") = some true)
    (u5_8 : PySem.W.findIn K (.ref x5) "__getattribute__" = some (some (.builtin "BaseException.__getattribute__"))) (u5_9 : PySem.W.findIn K (.ref x5) "__getattr__" = some none) (u5_10 : PySem.W.hasDictIn K x5 = true) (u5_11 : PySem.W.findIn K (.ref x5) "__class__" = some (some (.builtin "object.__class__"))) (u5_12 : PySem.W.mroIn K x5 (.type "object") = some true)
    (u6_1 : PySem.W.nsIn K mainGlobals "TooShort" = some (some (.ref x6))) (u6_2 : PySem.W.excIn K x6 veBase "ValueError.__new__" = true) (u6_3 : PySem.W.keepIn K (.ref x6) = true) (u6_4 : PySem.W.subIn K (.ref x6) (.type "BaseException") = some true) (u6_5 : PySem.W.typeIn K (.ref x6) = some (.type "type")) (u6_6 : PySem.W.isClsIn K x6 = true) (u6_7 : PySem.W.subIn K (.ref x6) (.type "ValueError") = some true)
    (u6_8 : PySem.W.findIn K (.ref x6) "__getattribute__" = some (some (.builtin "BaseException.__getattribute__"))) (u6_9 : PySem.W.findIn K (.ref x6) "__getattr__" = some none) (u6_10 : PySem.W.hasDictIn K x6 = true) (u6_11 : PySem.W.findIn K (.ref x6) "__class__" = some (some (.builtin "object.__class__"))) (u6_12 : PySem.W.mroIn K x6 (.type "object") = some true)
    (u7_1 : PySem.W.nsIn K mainGlobals "Broken" = some (some (.ref x7))) (u7_2 : PySem.W.excIn K x7 veBase "ValueError.__new__" = true) (u7_3 : PySem.W.keepIn K (.ref x7) = true) (u7_4 : PySem.W.subIn K (.ref x7) (.type "BaseException") = some true) (u7_5 : PySem.W.typeIn K (.ref x7) = some (.type "type")) (u7_6 : PySem.W.isClsIn K x7 = true) (u7_7 : PySem.W.subIn K (.ref x7) (.type "ValueError") = some true)
    (u7_8 : PySem.W.findIn K (.ref x7) "__getattribute__" = some (some (.builtin "BaseException.__getattribute__"))) (u7_9 : PySem.W.findIn K (.ref x7) "__getattr__" = some none) (u7_10 : PySem.W.hasDictIn K x7 = true) (u7_11 : PySem.W.findIn K (.ref x7) "__class__" = some (some (.builtin "object.__class__"))) (u7_12 : PySem.W.mroIn K x7 (.type "object") = some true)
    (u8_1 : PySem.W.nsIn K mainGlobals "NoMate" = some (some (.ref x8))) (u8_2 : PySem.W.excIn K x8 veBase "ValueError.__new__" = true) (u8_3 : PySem.W.keepIn K (.ref x8) = true) (u8_4 : PySem.W.subIn K (.ref x8) (.type "BaseException") = some true) (u8_5 : PySem.W.typeIn K (.ref x8) = some (.type "type")) (u8_6 : PySem.W.isClsIn K x8 = true) (u8_7 : PySem.W.subIn K (.ref x8) (.type "ValueError") = some true)
    (u8_8 : PySem.W.findIn K (.ref x8) "__getattribute__" = some (some (.builtin "BaseException.__getattribute__"))) (u8_9 : PySem.W.findIn K (.ref x8) "__getattr__" = some none) (u8_10 : PySem.W.hasDictIn K x8 = true) (u8_11 : PySem.W.findIn K (.ref x8) "__class__" = some (some (.builtin "object.__class__"))) (u8_12 : PySem.W.mroIn K x8 (.type "object") = some true)
    (u9_1 : PySem.W.nsIn K mainGlobals "NoText" = some (some (.ref x9))) (u9_2 : PySem.W.excIn K x9 veBase "ValueError.__new__" = true) (u9_3 : PySem.W.keepIn K (.ref x9) = true) (u9_4 : PySem.W.subIn K (.ref x9) (.type "BaseException") = some true) (u9_5 : PySem.W.typeIn K (.ref x9) = some (.type "type")) (u9_6 : PySem.W.isClsIn K x9 = true) (u9_7 : PySem.W.subIn K (.ref x9) (.type "ValueError") = some true)
    (u9_8 : PySem.W.findIn K (.ref x9) "__getattribute__" = some (some (.builtin "BaseException.__getattribute__"))) (u9_9 : PySem.W.findIn K (.ref x9) "__getattr__" = some none) (u9_10 : PySem.W.hasDictIn K x9 = true) (u9_11 : PySem.W.findIn K (.ref x9) "__class__" = some (some (.builtin "object.__class__"))) (u9_12 : PySem.W.mroIn K x9 (.type "object") = some true)
    (q1 : PySem.W.specialIn K (.builtin "object.__class__") "__get__" = some (some (.builtin "getset_descriptor.__get__"))) (q2 : PySem.W.takesIn K (.builtin "object.__class__") = some true)
    (p0_0 : PySem.W.subIn K (.ref x0) (.ref x0) = some true)
    (p0_1 : PySem.W.subIn K (.ref x0) (.ref x1) = some false)
    (p0_2 : PySem.W.subIn K (.ref x0) (.ref x2) = some false)
    (p0_3 : PySem.W.subIn K (.ref x0) (.ref x3) = some false)
    (p0_4 : PySem.W.subIn K (.ref x0) (.ref x4) = some false)
    (p0_5 : PySem.W.subIn K (.ref x0) (.ref x5) = some false)
    (p0_6 : PySem.W.subIn K (.ref x0) (.ref x6) = some false)
    (p0_7 : PySem.W.subIn K (.ref x0) (.ref x7) = some false)
    (p0_8 : PySem.W.subIn K (.ref x0) (.ref x8) = some false)
    (p0_9 : PySem.W.subIn K (.ref x0) (.ref x9) = some false)
    (p1_0 : PySem.W.subIn K (.ref x1) (.ref x0) = some true)
    (p1_1 : PySem.W.subIn K (.ref x1) (.ref x1) = some true)
    (p1_2 : PySem.W.subIn K (.ref x1) (.ref x2) = some false)
    (p1_3 : PySem.W.subIn K (.ref x1) (.ref x3) = some false)
    (p1_4 : PySem.W.subIn K (.ref x1) (.ref x4) = some false)
    (p1_5 : PySem.W.subIn K (.ref x1) (.ref x5) = some false)
    (p1_6 : PySem.W.subIn K (.ref x1) (.ref x6) = some false)
    (p1_7 : PySem.W.subIn K (.ref x1) (.ref x7) = some false)
    (p1_8 : PySem.W.subIn K (.ref x1) (.ref x8) = some false)
    (p1_9 : PySem.W.subIn K (.ref x1) (.ref x9) = some false)
    (p2_0 : PySem.W.subIn K (.ref x2) (.ref x0) = some true)
    (p2_1 : PySem.W.subIn K (.ref x2) (.ref x1) = some false)
    (p2_2 : PySem.W.subIn K (.ref x2) (.ref x2) = some true)
    (p2_3 : PySem.W.subIn K (.ref x2) (.ref x3) = some false)
    (p2_4 : PySem.W.subIn K (.ref x2) (.ref x4) = some false)
    (p2_5 : PySem.W.subIn K (.ref x2) (.ref x5) = some false)
    (p2_6 : PySem.W.subIn K (.ref x2) (.ref x6) = some false)
    (p2_7 : PySem.W.subIn K (.ref x2) (.ref x7) = some false)
    (p2_8 : PySem.W.subIn K (.ref x2) (.ref x8) = some false)
    (p2_9 : PySem.W.subIn K (.ref x2) (.ref x9) = some false)
    (p3_0 : PySem.W.subIn K (.ref x3) (.ref x0) = some true)
    (p3_1 : PySem.W.subIn K (.ref x3) (.ref x1) = some false)
    (p3_2 : PySem.W.subIn K (.ref x3) (.ref x2) = some false)
    (p3_3 : PySem.W.subIn K (.ref x3) (.ref x3) = some true)
    (p3_4 : PySem.W.subIn K (.ref x3) (.ref x4) = some false)
    (p3_5 : PySem.W.subIn K (.ref x3) (.ref x5) = some false)
    (p3_6 : PySem.W.subIn K (.ref x3) (.ref x6) = some false)
    (p3_7 : PySem.W.subIn K (.ref x3) (.ref x7) = some false)
    (p3_8 : PySem.W.subIn K (.ref x3) (.ref x8) = some false)
    (p3_9 : PySem.W.subIn K (.ref x3) (.ref x9) = some false)
    (p4_0 : PySem.W.subIn K (.ref x4) (.ref x0) = some true)
    (p4_1 : PySem.W.subIn K (.ref x4) (.ref x1) = some false)
    (p4_2 : PySem.W.subIn K (.ref x4) (.ref x2) = some false)
    (p4_3 : PySem.W.subIn K (.ref x4) (.ref x3) = some false)
    (p4_4 : PySem.W.subIn K (.ref x4) (.ref x4) = some true)
    (p4_5 : PySem.W.subIn K (.ref x4) (.ref x5) = some false)
    (p4_6 : PySem.W.subIn K (.ref x4) (.ref x6) = some false)
    (p4_7 : PySem.W.subIn K (.ref x4) (.ref x7) = some false)
    (p4_8 : PySem.W.subIn K (.ref x4) (.ref x8) = some false)
    (p4_9 : PySem.W.subIn K (.ref x4) (.ref x9) = some false)
    (p5_0 : PySem.W.subIn K (.ref x5) (.ref x0) = some true)
    (p5_1 : PySem.W.subIn K (.ref x5) (.ref x1) = some false)
    (p5_2 : PySem.W.subIn K (.ref x5) (.ref x2) = some false)
    (p5_3 : PySem.W.subIn K (.ref x5) (.ref x3) = some false)
    (p5_4 : PySem.W.subIn K (.ref x5) (.ref x4) = some false)
    (p5_5 : PySem.W.subIn K (.ref x5) (.ref x5) = some true)
    (p5_6 : PySem.W.subIn K (.ref x5) (.ref x6) = some false)
    (p5_7 : PySem.W.subIn K (.ref x5) (.ref x7) = some false)
    (p5_8 : PySem.W.subIn K (.ref x5) (.ref x8) = some false)
    (p5_9 : PySem.W.subIn K (.ref x5) (.ref x9) = some false)
    (p6_0 : PySem.W.subIn K (.ref x6) (.ref x0) = some true)
    (p6_1 : PySem.W.subIn K (.ref x6) (.ref x1) = some false)
    (p6_2 : PySem.W.subIn K (.ref x6) (.ref x2) = some false)
    (p6_3 : PySem.W.subIn K (.ref x6) (.ref x3) = some false)
    (p6_4 : PySem.W.subIn K (.ref x6) (.ref x4) = some false)
    (p6_5 : PySem.W.subIn K (.ref x6) (.ref x5) = some false)
    (p6_6 : PySem.W.subIn K (.ref x6) (.ref x6) = some true)
    (p6_7 : PySem.W.subIn K (.ref x6) (.ref x7) = some false)
    (p6_8 : PySem.W.subIn K (.ref x6) (.ref x8) = some false)
    (p6_9 : PySem.W.subIn K (.ref x6) (.ref x9) = some false)
    (p7_0 : PySem.W.subIn K (.ref x7) (.ref x0) = some true)
    (p7_1 : PySem.W.subIn K (.ref x7) (.ref x1) = some false)
    (p7_2 : PySem.W.subIn K (.ref x7) (.ref x2) = some false)
    (p7_3 : PySem.W.subIn K (.ref x7) (.ref x3) = some false)
    (p7_4 : PySem.W.subIn K (.ref x7) (.ref x4) = some false)
    (p7_5 : PySem.W.subIn K (.ref x7) (.ref x5) = some false)
    (p7_6 : PySem.W.subIn K (.ref x7) (.ref x6) = some false)
    (p7_7 : PySem.W.subIn K (.ref x7) (.ref x7) = some true)
    (p7_8 : PySem.W.subIn K (.ref x7) (.ref x8) = some false)
    (p7_9 : PySem.W.subIn K (.ref x7) (.ref x9) = some false)
    (p8_0 : PySem.W.subIn K (.ref x8) (.ref x0) = some true)
    (p8_1 : PySem.W.subIn K (.ref x8) (.ref x1) = some false)
    (p8_2 : PySem.W.subIn K (.ref x8) (.ref x2) = some false)
    (p8_3 : PySem.W.subIn K (.ref x8) (.ref x3) = some false)
    (p8_4 : PySem.W.subIn K (.ref x8) (.ref x4) = some false)
    (p8_5 : PySem.W.subIn K (.ref x8) (.ref x5) = some false)
    (p8_6 : PySem.W.subIn K (.ref x8) (.ref x6) = some false)
    (p8_7 : PySem.W.subIn K (.ref x8) (.ref x7) = some false)
    (p8_8 : PySem.W.subIn K (.ref x8) (.ref x8) = some true)
    (p8_9 : PySem.W.subIn K (.ref x8) (.ref x9) = some false)
    (p9_0 : PySem.W.subIn K (.ref x9) (.ref x0) = some true)
    (p9_1 : PySem.W.subIn K (.ref x9) (.ref x1) = some false)
    (p9_2 : PySem.W.subIn K (.ref x9) (.ref x2) = some false)
    (p9_3 : PySem.W.subIn K (.ref x9) (.ref x3) = some false)
    (p9_4 : PySem.W.subIn K (.ref x9) (.ref x4) = some false)
    (p9_5 : PySem.W.subIn K (.ref x9) (.ref x5) = some false)
    (p9_6 : PySem.W.subIn K (.ref x9) (.ref x6) = some false)
    (p9_7 : PySem.W.subIn K (.ref x9) (.ref x7) = some false)
    (p9_8 : PySem.W.subIn K (.ref x9) (.ref x8) = some false)
    (p9_9 : PySem.W.subIn K (.ref x9) (.ref x9) = some true)
    (z_ValueError : PySem.W.nsIn K mainGlobals "ValueError" = some none)
    (z_bool : PySem.W.nsIn K mainGlobals "bool" = some none)
    (z_enumerate : PySem.W.nsIn K mainGlobals "enumerate" = some none)
    (z_int : PySem.W.nsIn K mainGlobals "int" = some none)
    (z_isinstance : PySem.W.nsIn K mainGlobals "isinstance" = some none)
    (z_len : PySem.W.nsIn K mainGlobals "len" = some none)
    (z_list : PySem.W.nsIn K mainGlobals "list" = some none)
    (z_max : PySem.W.nsIn K mainGlobals "max" = some none)
    (z_ord : PySem.W.nsIn K mainGlobals "ord" = some none)
    (z_range : PySem.W.nsIn K mainGlobals "range" = some none)
    (z_str : PySem.W.nsIn K mainGlobals "str" = some none)
    (z_tuple : PySem.W.nsIn K mainGlobals "tuple" = some none)
    (z_zip : PySem.W.nsIn K mainGlobals "zip" = some none)
    (v0 : PySem.W.nsIn K mainGlobals "FEWEST_SIGNS" = some (some (.int 2 tk0)))
    (v1 : PySem.W.nsIn K mainGlobals "MOST_SIGNS" = some (some (.int 13 tk1)))
    (v2 : PySem.W.nsIn K mainGlobals "MOST_NOUGHTS" = some (some (.int 1000000000000000000 tk2)))
    (v3 : PySem.W.nsIn K mainGlobals "LETTERS" = some (some (.str ((" !\"#$&'()*+,-./0123456789:;<=>?@ABCDEFGHIJKLMNOPQRSTUVWXYZ[\\]^_`abcdefghijklmnopqrstuvwxyz{|}~" : Str)) tk3)))
    (v4 : PySem.W.nsIn K mainGlobals "SIGNS_FOR_EACH" = some (some (.int 7 tk4))) :
    ∃ fd : FuncData, (∀ (s : Shared) (v : Value), BindsTo s fd ⟨[v], []⟩ [("_law_script", v)]) ∧ ∀ base : Heap, K.In base → base.Ns mainGlobals mg → FnOk l.prog w K mg base (L2.CX l.prog w) 12 fa fd ["_law_script"] (sp_law K) := by
  have e := hfa.symm.trans (PySem.W.mg_of X G a36)
  cases e
  have R0 : Raw K mg "is_sign" "is_sign" s_is_sign ["value"] := ⟨f0, _, fun_mk (st := s_is_sign) l0 c0 k0, (fun_mk (st := s_is_sign) l0 c0 k0).binds fun _ _ _ _ _ _ us hl => match us, hl with | [_], _ => rfl, PySem.W.mg_of X G a0⟩
  have R1 : Raw K mg "need_row" "need_row" s_need_row ["row"] := ⟨f1, _, fun_mk (st := s_need_row) l1 c1 k1, (fun_mk (st := s_need_row) l1 c1 k1).binds fun _ _ _ _ _ _ us hl => match us, hl with | [_], _ => rfl, PySem.W.mg_of X G a1⟩
  have R2 : Raw K mg "need_divisor" "need_divisor" s_need_divisor ["divisor"] := ⟨f2, _, fun_mk (st := s_need_divisor) l2 c2 k2, (fun_mk (st := s_need_divisor) l2 c2 k2).binds fun _ _ _ _ _ _ us hl => match us, hl with | [_], _ => rfl, PySem.W.mg_of X G a2⟩
  have R3 : Raw K mg "lengthened" "lengthened" s_lengthened ["row", "length"] := ⟨f3, _, fun_mk (st := s_lengthened) l3 c3 k3, (fun_mk (st := s_lengthened) l3 c3 k3).binds fun _ _ _ _ _ _ us hl => match us, hl with | [_, _], _ => rfl, PySem.W.mg_of X G a3⟩
  have R4 : Raw K mg "added" "added" s_added ["one", "other"] := ⟨f4, _, fun_mk (st := s_added) l4 c4 k4, (fun_mk (st := s_added) l4 c4 k4).binds fun _ _ _ _ _ _ us hl => match us, hl with | [_, _], _ => rfl, PySem.W.mg_of X G a4⟩
  have R5 : Raw K mg "times" "times" s_times ["one", "other"] := ⟨f5, _, fun_mk (st := s_times) l5 c5 k5, (fun_mk (st := s_times) l5 c5 k5).binds fun _ _ _ _ _ _ us hl => match us, hl with | [_, _], _ => rfl, PySem.W.mg_of X G a5⟩
  have R6 : Raw K mg "reduced" "reduced" s_reduced ["row", "divisor"] := ⟨f6, _, fun_mk (st := s_reduced) l6 c6 k6, (fun_mk (st := s_reduced) l6 c6 k6).binds fun _ _ _ _ _ _ us hl => match us, hl with | [_, _], _ => rfl, PySem.W.mg_of X G a6⟩
  have R7 : Raw K mg "parted" "parted" s_parted ["row", "divisor"] := ⟨f7, _, fun_mk (st := s_parted) l7 c7 k7, (fun_mk (st := s_parted) l7 c7 k7).binds fun _ _ _ _ _ _ us hl => match us, hl with | [_, _], _ => rfl, PySem.W.mg_of X G a7⟩
  have R8 : Raw K mg "need_gate_divisor" "need_gate_divisor" s_need_gate_divisor ["divisor"] := ⟨f8, _, fun_mk (st := s_need_gate_divisor) l8 c8 k8, (fun_mk (st := s_need_gate_divisor) l8 c8 k8).binds fun _ _ _ _ _ _ us hl => match us, hl with | [_], _ => rfl, PySem.W.mg_of X G a8⟩
  have R9 : Raw K mg "reach" "reach" s_reach ["divisor"] := ⟨f9, _, fun_mk (st := s_reach) l9 c9 k9, (fun_mk (st := s_reach) l9 c9 k9).binds fun _ _ _ _ _ _ us hl => match us, hl with | [_], _ => rfl, PySem.W.mg_of X G a9⟩
  have R10 : Raw K mg "is_count" "is_count" s_is_count ["value"] := ⟨f10, _, fun_mk (st := s_is_count) l10 c10 k10, (fun_mk (st := s_is_count) l10 c10 k10).binds fun _ _ _ _ _ _ us hl => match us, hl with | [_], _ => rfl, PySem.W.mg_of X G a10⟩
  have R11 : Raw K mg "turned" "turned" s_turned ["row", "place"] := ⟨f11, _, fun_mk (st := s_turned) l11 c11 k11, (fun_mk (st := s_turned) l11 c11 k11).binds fun _ _ _ _ _ _ us hl => match us, hl with | [_, _], _ => rfl, PySem.W.mg_of X G a11⟩
  have R12 : RawI K kGate "Gate.__init__" s_Gate___init__ ["self", "divisor"] := ⟨f12, _, fun_mk (st := s_Gate___init__) l12 c12 k12, (fun_mk (st := s_Gate___init__) l12 c12 k12).binds fun _ _ _ _ _ _ us hl => match us, hl with | [_, _], _ => rfl, ⟨oGate_mk, a12, i12, oGate_kp⟩⟩
  have R13 : RawM K kGate "rest" "Gate.rest" s_Gate_rest ["self", "row"] := ⟨f13, _, fun_mk (st := s_Gate_rest) l13 c13 k13, (fun_mk (st := s_Gate_rest) l13 c13 k13).binds fun _ _ _ _ _ _ us hl => match us, hl with | [_, _], _ => rfl, ⟨a13, i13, k13⟩⟩
  have R14 : RawM K kGate "later" "Gate.later" s_Gate_later ["self", "rest", "many"] := ⟨f14, _, fun_mk (st := s_Gate_later) l14 c14 k14, (fun_mk (st := s_Gate_later) l14 c14 k14).binds fun _ _ _ _ _ _ us hl => match us, hl with | [_, _, _], _ => rfl, ⟨a14, i14, k14⟩⟩
  have R15 : RawM K kGate "check" "Gate.check" s_Gate_check ["self", "row"] := ⟨f15, _, fun_mk (st := s_Gate_check) l15 c15 k15, (fun_mk (st := s_Gate_check) l15 c15 k15).binds fun _ _ _ _ _ _ us hl => match us, hl with | [_, _], _ => rfl, ⟨a15, i15, k15⟩⟩
  have R16 : RawM K kGate "sealed" "Gate.sealed" s_Gate_sealed ["self", "row"] := ⟨f16, _, fun_mk (st := s_Gate_sealed) l16 c16 k16, (fun_mk (st := s_Gate_sealed) l16 c16 k16).binds fun _ _ _ _ _ _ us hl => match us, hl with | [_, _], _ => rfl, ⟨a16, i16, k16⟩⟩
  have R17 : RawM K kGate "holds" "Gate.holds" s_Gate_holds ["self", "row"] := ⟨f17, _, fun_mk (st := s_Gate_holds) l17 c17 k17, (fun_mk (st := s_Gate_holds) l17 c17 k17).binds fun _ _ _ _ _ _ us hl => match us, hl with | [_, _], _ => rfl, ⟨a17, i17, k17⟩⟩
  have R18 : RawM K kGate "opened" "Gate.opened" s_Gate_opened ["self", "row"] := ⟨f18, _, fun_mk (st := s_Gate_opened) l18 c18 k18, (fun_mk (st := s_Gate_opened) l18 c18 k18).binds fun _ _ _ _ _ _ us hl => match us, hl with | [_, _], _ => rfl, ⟨a18, i18, k18⟩⟩
  have R19 : RawM K kGate "mended" "Gate.mended" s_Gate_mended ["self", "row"] := ⟨f19, _, fun_mk (st := s_Gate_mended) l19 c19 k19, (fun_mk (st := s_Gate_mended) l19 c19 k19).binds fun _ _ _ _ _ _ us hl => match us, hl with | [_, _], _ => rfl, ⟨a19, i19, k19⟩⟩
  have R20 : Raw K mg "signs_of" "signs_of" s_signs_of ["letter"] := ⟨f20, _, fun_mk (st := s_signs_of) l20 c20 k20, (fun_mk (st := s_signs_of) l20 c20 k20).binds fun _ _ _ _ _ _ us hl => match us, hl with | [_], _ => rfl, PySem.W.mg_of X G a20⟩
  have R21 : Raw K mg "letters_by_signs" "letters_by_signs" s_letters_by_signs [] := ⟨f21, _, fun_mk (st := s_letters_by_signs) l21 c21 k21, (fun_mk (st := s_letters_by_signs) l21 c21 k21).binds fun _ _ _ _ _ _ us hl => match us, hl with | [], _ => rfl, PySem.W.mg_of X G a21⟩
  have R22 : Raw K mg "row_of" "row_of" s_row_of ["text"] := ⟨f22, _, fun_mk (st := s_row_of) l22 c22 k22, (fun_mk (st := s_row_of) l22 c22 k22).binds fun _ _ _ _ _ _ us hl => match us, hl with | [_], _ => rfl, PySem.W.mg_of X G a22⟩
  have R23 : Raw K mg "text_of" "text_of" s_text_of ["row"] := ⟨f23, _, fun_mk (st := s_text_of) l23 c23 k23, (fun_mk (st := s_text_of) l23 c23 k23).binds fun _ _ _ _ _ _ us hl => match us, hl with | [_], _ => rfl, PySem.W.mg_of X G a23⟩
  have R24 : RawI K kRegister "Register.__init__" s_Register___init__ ["self", "gate"] := ⟨f24, _, fun_mk (st := s_Register___init__) l24 c24 k24, (fun_mk (st := s_Register___init__) l24 c24 k24).binds fun _ _ _ _ _ _ us hl => match us, hl with | [_, _], _ => rfl, ⟨oRegister_mk, a24, i24, oRegister_kp⟩⟩
  have R25 : RawM K kRegister "put" "Register.put" s_Register_put ["self", "sign"] := ⟨f25, _, fun_mk (st := s_Register_put) l25 c25 k25, (fun_mk (st := s_Register_put) l25 c25 k25).binds fun _ _ _ _ _ _ us hl => match us, hl with | [_, _], _ => rfl, ⟨a25, i25, k25⟩⟩
  have R26 : RawM K kRegister "joined" "Register.joined" s_Register_joined ["self", "other"] := ⟨f26, _, fun_mk (st := s_Register_joined) l26 c26 k26, (fun_mk (st := s_Register_joined) l26 c26 k26).binds fun _ _ _ _ _ _ us hl => match us, hl with | [_, _], _ => rfl, ⟨a26, i26, k26⟩⟩
  have R27 : RawM K kRegister "rest" "Register.rest" s_Register_rest ["self"] := ⟨f27, _, fun_mk (st := s_Register_rest) l27 c27 k27, (fun_mk (st := s_Register_rest) l27 c27 k27).binds fun _ _ _ _ _ _ us hl => match us, hl with | [_], _ => rfl, ⟨a27, i27, k27⟩⟩
  have R28 : RawM K kRegister "check" "Register.check" s_Register_check ["self"] := ⟨f28, _, fun_mk (st := s_Register_check) l28 c28 k28, (fun_mk (st := s_Register_check) l28 c28 k28).binds fun _ _ _ _ _ _ us hl => match us, hl with | [_], _ => rfl, ⟨a28, i28, k28⟩⟩
  have R29 : Raw K mg "_law_cell_at" "_law_cell_at" s__law_cell_at ["_law_script", "_law_k"] := ⟨f29, _, fun_mk (st := s__law_cell_at) l29 c29 k29, (fun_mk (st := s__law_cell_at) l29 c29 k29).binds fun _ _ _ _ _ _ us hl => match us, hl with | [_, _], _ => rfl, PySem.W.mg_of X G a29⟩
  have R30 : Raw K mg "_law_row_by" "_law_row_by" s__law_row_by ["_law_cell", "_law_size"] := ⟨f30, _, fun_mk (st := s__law_row_by) l30 c30 k30, (fun_mk (st := s__law_row_by) l30 c30 k30).binds fun _ _ _ _ _ _ us hl => match us, hl with | [_, _], _ => rfl, PySem.W.mg_of X G a30⟩
  have R31 : Raw K mg "_law_bad" "_law_bad" s__law_bad ["_law_cell", "_law_row"] := ⟨f31, _, fun_mk (st := s__law_bad) l31 c31 k31, (fun_mk (st := s__law_bad) l31 c31 k31).binds fun _ _ _ _ _ _ us hl => match us, hl with | [_, _], _ => rfl, PySem.W.mg_of X G a31⟩
  have R32 : Raw K mg "_law_rows_called" "_law_rows_called" s__law_rows_called ["_law_which", "_law_bad_here", "_law_row"] := ⟨f32, _, fun_mk (st := s__law_rows_called) l32 c32 k32, (fun_mk (st := s__law_rows_called) l32 c32 k32).binds fun _ _ _ _ _ _ us hl => match us, hl with | [_, _, _], _ => rfl, PySem.W.mg_of X G a32⟩
  have R33 : Raw K mg "_law_gate_called" "_law_gate_called" s__law_gate_called ["_law_which", "_law_bad_here", "_law_gate"] := ⟨f33, _, fun_mk (st := s__law_gate_called) l33 c33 k33, (fun_mk (st := s__law_gate_called) l33 c33 k33).binds fun _ _ _ _ _ _ us hl => match us, hl with | [_, _, _], _ => rfl, PySem.W.mg_of X G a33⟩
  have R34 : Raw K mg "_law_else_called" "_law_else_called" s__law_else_called ["_law_which", "_law_row", "_law_gate"] := ⟨f34, _, fun_mk (st := s__law_else_called) l34 c34 k34, (fun_mk (st := s__law_else_called) l34 c34 k34).binds fun _ _ _ _ _ _ us hl => match us, hl with | [_, _, _], _ => rfl, PySem.W.mg_of X G a34⟩
  have R35 : Raw K mg "_law_words" "_law_words" s__law_words ["_law_which", "_law_bad_here", "_law_row", "_law_gate"] := ⟨f35, _, fun_mk (st := s__law_words) l35 c35 k35, (fun_mk (st := s__law_words) l35 c35 k35).binds fun _ _ _ _ _ _ us hl => match us, hl with | [_, _, _, _], _ => rfl, PySem.W.mg_of X G a35⟩
  have T : Txt K mg ⟨0, x0, x1, x2, x3, x4, x5, x6, x7, x8, x9, kGate, kRegister⟩ := ⟨⟨PySem.W.mg_of X G u0_1, u0_2, u0_3, u0_4, u0_5, u0_6, ⟨u0_8, u0_9, u0_4, u0_10, u0_11, q1, q2, u0_12⟩, u0_7⟩, ⟨PySem.W.mg_of X G u1_1, u1_2, u1_3, u1_4, u1_5, u1_6, ⟨u1_8, u1_9, u1_4, u1_10, u1_11, q1, q2, u1_12⟩, u1_7⟩, ⟨PySem.W.mg_of X G u2_1, u2_2, u2_3, u2_4, u2_5, u2_6, ⟨u2_8, u2_9, u2_4, u2_10, u2_11, q1, q2, u2_12⟩, u2_7⟩, ⟨PySem.W.mg_of X G u3_1, u3_2, u3_3, u3_4, u3_5, u3_6, ⟨u3_8, u3_9, u3_4, u3_10, u3_11, q1, q2, u3_12⟩, u3_7⟩, ⟨PySem.W.mg_of X G u4_1, u4_2, u4_3, u4_4, u4_5, u4_6, ⟨u4_8, u4_9, u4_4, u4_10, u4_11, q1, q2, u4_12⟩, u4_7⟩, ⟨PySem.W.mg_of X G u5_1, u5_2, u5_3, u5_4, u5_5, u5_6, ⟨u5_8, u5_9, u5_4, u5_10, u5_11, q1, q2, u5_12⟩, u5_7⟩, ⟨PySem.W.mg_of X G u6_1, u6_2, u6_3, u6_4, u6_5, u6_6, ⟨u6_8, u6_9, u6_4, u6_10, u6_11, q1, q2, u6_12⟩, u6_7⟩, ⟨PySem.W.mg_of X G u7_1, u7_2, u7_3, u7_4, u7_5, u7_6, ⟨u7_8, u7_9, u7_4, u7_10, u7_11, q1, q2, u7_12⟩, u7_7⟩, ⟨PySem.W.mg_of X G u8_1, u8_2, u8_3, u8_4, u8_5, u8_6, ⟨u8_8, u8_9, u8_4, u8_10, u8_11, q1, q2, u8_12⟩, u8_7⟩, ⟨PySem.W.mg_of X G u9_1, u9_2, u9_3, u9_4, u9_5, u9_6, ⟨u9_8, u9_9, u9_4, u9_10, u9_11, q1, q2, u9_12⟩, u9_7⟩, ⟨⟨oGate_pg, oGate_hd, oGate_po, oGate_sa⟩, PySem.W.mg_of X G oGate_g⟩, oGate_n_reach, oGate_n_divisor, oGate_n_width, oGate_n_even, ⟨oGate_w1, oGate_w2, oGate_w3, oGate_w4, q1, q2, ⟨oGate_pg, oGate_hd, oGate_po, oGate_sa⟩⟩, ⟨⟨oRegister_pg, oRegister_hd, oRegister_po, oRegister_sa⟩, PySem.W.mg_of X G oRegister_g⟩, oRegister_n_gate, oRegister_n_many, oRegister_n__rest, ⟨oRegister_w1, oRegister_w2, oRegister_w3, oRegister_w4, q1, q2, ⟨oRegister_pg, oRegister_hd, oRegister_po, oRegister_sa⟩⟩, oRegister_b_NoneType, oRegister_b_list, oRegister_b_int, oRegister_b_str, oRegister_b_tuple, oRegister_b_bool, oRegister_o_Gate, oRegister_o_Register, p0_0, p0_1, p0_2, p0_3, p0_4, p0_5, p0_6, p0_7, p0_8, p0_9, p1_0, p1_1, p1_2, p1_3, p1_4, p1_5, p1_6, p1_7, p1_8, p1_9, p2_0, p2_1, p2_2, p2_3, p2_4, p2_5, p2_6, p2_7, p2_8, p2_9, p3_0, p3_1, p3_2, p3_3, p3_4, p3_5, p3_6, p3_7, p3_8, p3_9, p4_0, p4_1, p4_2, p4_3, p4_4, p4_5, p4_6, p4_7, p4_8, p4_9, p5_0, p5_1, p5_2, p5_3, p5_4, p5_5, p5_6, p5_7, p5_8, p5_9, p6_0, p6_1, p6_2, p6_3, p6_4, p6_5, p6_6, p6_7, p6_8, p6_9, p7_0, p7_1, p7_2, p7_3, p7_4, p7_5, p7_6, p7_7, p7_8, p7_9, p8_0, p8_1, p8_2, p8_3, p8_4, p8_5, p8_6, p8_7, p8_8, p8_9, p9_0, p9_1, p9_2, p9_3, p9_4, p9_5, p9_6, p9_7, p9_8, p9_9, PySem.W.mg_none_of X G z_ValueError, PySem.W.mg_none_of X G z_bool, PySem.W.mg_none_of X G z_enumerate, PySem.W.mg_none_of X G z_int, PySem.W.mg_none_of X G z_isinstance, PySem.W.mg_none_of X G z_len, PySem.W.mg_none_of X G z_list, PySem.W.mg_none_of X G z_max, PySem.W.mg_none_of X G z_ord, PySem.W.mg_none_of X G z_range, PySem.W.mg_none_of X G z_str, PySem.W.mg_none_of X G z_tuple, PySem.W.mg_none_of X G z_zip, ⟨_, PySem.W.mg_of X G v0⟩, ⟨_, PySem.W.mg_of X G v1⟩, ⟨_, PySem.W.mg_of X G v2⟩, ⟨_, PySem.W.mg_of X G v3⟩, ⟨_, PySem.W.mg_of X G v4⟩, R0, R1, R2, R3, R4, R5, R6, R7, R8, R9, R10, R11, R12, R13, R14, R15, R16, R17, R18, R19, R20, R21, R22, R23, R24, R25, R26, R27, R28, R29, R30, R31, R32, R33, R34, R35⟩
  refine ⟨_, fun s v => .of_eq rfl, fun base _ _ => ok_law (fun_mk (st := s_law) l36 c36 k36) T⟩

end Cg
open PySem PySem.W PyProof.Rows in
set_option maxRecDepth 100000 in
set_option maxHeartbeats 0 in
theorem PySem.Challenge.cw_crcgate_k06_refusals_holds : PySem.Challenge.rw_crcgate_k06_refusals.Holds := by
  w_on; o_law; k_head; (case hw => w_witness2)
  k_fill
  refine L2.walk_of (l := PySem.Challenge.rw_crcgate_k06_refusals) (n := 63) (k := 12) (x := "_law_script") (CX := fun w => L2.CX PySem.Challenge.rw_crcgate_k06_refusals.prog w) (sp := fun w => Cg.sp_law _) rfl (by decide) rfl ⟨rfl, by decide, by decide⟩ (fun w h Y => PySem.W.kIn_of Y) ?F (fun _ _ a ns hl _ hS => ⟨a, ns, rfl, hS, hl, fun _ => rfl⟩) (fun _ _ _ _ _ z => Cg.cx_none z)
  case F =>
    intro w mg fa h KX G hmg
    refine' Cg.all_mk KX G hmg ?a0 ?l0 ?c0 ?k0 ?a1 ?l1 ?c1 ?k1 ?a2 ?l2 ?c2 ?k2 ?a3 ?l3 ?c3 ?k3 ?a4 ?l4 ?c4 ?k4 ?a5 ?l5 ?c5 ?k5 ?a6 ?l6 ?c6 ?k6 ?a7 ?l7 ?c7 ?k7 ?a8 ?l8 ?c8 ?k8 ?a9 ?l9 ?c9 ?k9 ?a10 ?l10 ?c10 ?k10 ?a11 ?l11 ?c11 ?k11 ?a12 ?i12 ?l12 ?c12 ?k12 ?a13 ?i13 ?l13 ?c13 ?k13 ?a14 ?i14 ?l14 ?c14 ?k14 ?a15 ?i15 ?l15 ?c15 ?k15 ?a16 ?i16 ?l16 ?c16 ?k16 ?a17 ?i17 ?l17 ?c17 ?k17 ?a18 ?i18 ?l18 ?c18 ?k18 ?a19 ?i19 ?l19 ?c19 ?k19 ?a20 ?l20 ?c20 ?k20 ?a21 ?l21 ?c21 ?k21 ?a22 ?l22 ?c22 ?k22 ?a23 ?l23 ?c23 ?k23 ?a24 ?i24 ?l24 ?c24 ?k24 ?a25 ?i25 ?l25 ?c25 ?k25 ?a26 ?i26 ?l26 ?c26 ?k26 ?a27 ?i27 ?l27 ?c27 ?k27 ?a28 ?i28 ?l28 ?c28 ?k28 ?a29 ?l29 ?c29 ?k29 ?a30 ?l30 ?c30 ?k30 ?a31 ?l31 ?c31 ?k31 ?a32 ?l32 ?c32 ?k32 ?a33 ?l33 ?c33 ?k33 ?a34 ?l34 ?c34 ?k34 ?a35 ?l35 ?c35 ?k35 ?a36 ?l36 ?c36 ?k36 ?oGate_g ?oGate_pg ?oGate_hd ?oGate_po ?oGate_sa ?oGate_mk ?oGate_kp ?oGate_n_reach ?oGate_n_divisor ?oGate_n_width ?oGate_n_even ?oGate_w1 ?oGate_w2 ?oGate_w3 ?oGate_w4 ?oRegister_g ?oRegister_pg ?oRegister_hd ?oRegister_po ?oRegister_sa ?oRegister_mk ?oRegister_kp ?oRegister_n_gate ?oRegister_n_many ?oRegister_n__rest ?oRegister_w1 ?oRegister_w2 ?oRegister_w3 ?oRegister_w4 ?oRegister_b_NoneType ?oRegister_b_list ?oRegister_b_int ?oRegister_b_str ?oRegister_b_tuple ?oRegister_b_bool ?oRegister_o_Gate ?oRegister_o_Register ?u0_1 ?u0_2 ?u0_3 ?u0_4 ?u0_5 ?u0_6 ?u0_7 ?u0_8 ?u0_9 ?u0_10 ?u0_11 ?u0_12 ?u1_1 ?u1_2 ?u1_3 ?u1_4 ?u1_5 ?u1_6 ?u1_7 ?u1_8 ?u1_9 ?u1_10 ?u1_11 ?u1_12 ?u2_1 ?u2_2 ?u2_3 ?u2_4 ?u2_5 ?u2_6 ?u2_7 ?u2_8 ?u2_9 ?u2_10 ?u2_11 ?u2_12 ?u3_1 ?u3_2 ?u3_3 ?u3_4 ?u3_5 ?u3_6 ?u3_7 ?u3_8 ?u3_9 ?u3_10 ?u3_11 ?u3_12 ?u4_1 ?u4_2 ?u4_3 ?u4_4 ?u4_5 ?u4_6 ?u4_7 ?u4_8 ?u4_9 ?u4_10 ?u4_11 ?u4_12 ?u5_1 ?u5_2 ?u5_3 ?u5_4 ?u5_5 ?u5_6 ?u5_7 ?u5_8 ?u5_9 ?u5_10 ?u5_11 ?u5_12 ?u6_1 ?u6_2 ?u6_3 ?u6_4 ?u6_5 ?u6_6 ?u6_7 ?u6_8 ?u6_9 ?u6_10 ?u6_11 ?u6_12 ?u7_1 ?u7_2 ?u7_3 ?u7_4 ?u7_5 ?u7_6 ?u7_7 ?u7_8 ?u7_9 ?u7_10 ?u7_11 ?u7_12 ?u8_1 ?u8_2 ?u8_3 ?u8_4 ?u8_5 ?u8_6 ?u8_7 ?u8_8 ?u8_9 ?u8_10 ?u8_11 ?u8_12 ?u9_1 ?u9_2 ?u9_3 ?u9_4 ?u9_5 ?u9_6 ?u9_7 ?u9_8 ?u9_9 ?u9_10 ?u9_11 ?u9_12 ?q1 ?q2 ?p0_0 ?p0_1 ?p0_2 ?p0_3 ?p0_4 ?p0_5 ?p0_6 ?p0_7 ?p0_8 ?p0_9 ?p1_0 ?p1_1 ?p1_2 ?p1_3 ?p1_4 ?p1_5 ?p1_6 ?p1_7 ?p1_8 ?p1_9 ?p2_0 ?p2_1 ?p2_2 ?p2_3 ?p2_4 ?p2_5 ?p2_6 ?p2_7 ?p2_8 ?p2_9 ?p3_0 ?p3_1 ?p3_2 ?p3_3 ?p3_4 ?p3_5 ?p3_6 ?p3_7 ?p3_8 ?p3_9 ?p4_0 ?p4_1 ?p4_2 ?p4_3 ?p4_4 ?p4_5 ?p4_6 ?p4_7 ?p4_8 ?p4_9 ?p5_0 ?p5_1 ?p5_2 ?p5_3 ?p5_4 ?p5_5 ?p5_6 ?p5_7 ?p5_8 ?p5_9 ?p6_0 ?p6_1 ?p6_2 ?p6_3 ?p6_4 ?p6_5 ?p6_6 ?p6_7 ?p6_8 ?p6_9 ?p7_0 ?p7_1 ?p7_2 ?p7_3 ?p7_4 ?p7_5 ?p7_6 ?p7_7 ?p7_8 ?p7_9 ?p8_0 ?p8_1 ?p8_2 ?p8_3 ?p8_4 ?p8_5 ?p8_6 ?p8_7 ?p8_8 ?p8_9 ?p9_0 ?p9_1 ?p9_2 ?p9_3 ?p9_4 ?p9_5 ?p9_6 ?p9_7 ?p9_8 ?p9_9 ?z_ValueError ?z_bool ?z_enumerate ?z_int ?z_isinstance ?z_len ?z_list ?z_max ?z_ord ?z_range ?z_str ?z_tuple ?z_zip ?v0 ?v1 ?v2 ?v3 ?v4
    (case oGate_g => k_is)
    (case oGate_pg => k_is)
    (case oGate_hd => k_is)
    (case oGate_po => k_is)
    (case oGate_sa => k_is)
    (case oGate_mk => k_is)
    (case oGate_kp => k_is)
    (case oGate_n_reach => k_is)
    (case oGate_n_divisor => k_is)
    (case oGate_n_width => k_is)
    (case oGate_n_even => k_is)
    (case oGate_w1 => k_is)
    (case oGate_w2 => k_is)
    (case oGate_w3 => k_is)
    (case oGate_w4 => k_is)
    (case oRegister_g => k_is)
    (case oRegister_pg => k_is)
    (case oRegister_hd => k_is)
    (case oRegister_po => k_is)
    (case oRegister_sa => k_is)
    (case oRegister_mk => k_is)
    (case oRegister_kp => k_is)
    (case oRegister_n_gate => k_is)
    (case oRegister_n_many => k_is)
    (case oRegister_n__rest => k_is)
    (case oRegister_w1 => k_is)
    (case oRegister_w2 => k_is)
    (case oRegister_w3 => k_is)
    (case oRegister_w4 => k_is)
    (case oRegister_b_NoneType => k_is)
    (case oRegister_b_list => k_is)
    (case oRegister_b_int => k_is)
    (case oRegister_b_str => k_is)
    (case oRegister_b_tuple => k_is)
    (case oRegister_b_bool => k_is)
    (case a0 => k_is)
    (case l0 => k_is)
    (case c0 => k_is)
    (case k0 => k_is)
    (case a1 => k_is)
    (case l1 => k_is)
    (case c1 => k_is)
    (case k1 => k_is)
    (case a2 => k_is)
    (case l2 => k_is)
    (case c2 => k_is)
    (case k2 => k_is)
    (case a3 => k_is)
    (case l3 => k_is)
    (case c3 => k_is)
    (case k3 => k_is)
    (case a4 => k_is)
    (case l4 => k_is)
    (case c4 => k_is)
    (case k4 => k_is)
    (case a5 => k_is)
    (case l5 => k_is)
    (case c5 => k_is)
    (case k5 => k_is)
    (case a6 => k_is)
    (case l6 => k_is)
    (case c6 => k_is)
    (case k6 => k_is)
    (case a7 => k_is)
    (case l7 => k_is)
    (case c7 => k_is)
    (case k7 => k_is)
    (case a8 => k_is)
    (case l8 => k_is)
    (case c8 => k_is)
    (case k8 => k_is)
    (case a9 => k_is)
    (case l9 => k_is)
    (case c9 => k_is)
    (case k9 => k_is)
    (case a10 => k_is)
    (case l10 => k_is)
    (case c10 => k_is)
    (case k10 => k_is)
    (case a11 => k_is)
    (case l11 => k_is)
    (case c11 => k_is)
    (case k11 => k_is)
    (case a12 => k_is)
    (case i12 => k_is)
    (case l12 => k_is)
    (case c12 => k_is)
    (case k12 => k_is)
    (case a13 => k_is)
    (case i13 => k_is)
    (case l13 => k_is)
    (case c13 => k_is)
    (case k13 => k_is)
    (case a14 => k_is)
    (case i14 => k_is)
    (case l14 => k_is)
    (case c14 => k_is)
    (case k14 => k_is)
    (case a15 => k_is)
    (case i15 => k_is)
    (case l15 => k_is)
    (case c15 => k_is)
    (case k15 => k_is)
    (case a16 => k_is)
    (case i16 => k_is)
    (case l16 => k_is)
    (case c16 => k_is)
    (case k16 => k_is)
    (case a17 => k_is)
    (case i17 => k_is)
    (case l17 => k_is)
    (case c17 => k_is)
    (case k17 => k_is)
    (case a18 => k_is)
    (case i18 => k_is)
    (case l18 => k_is)
    (case c18 => k_is)
    (case k18 => k_is)
    (case a19 => k_is)
    (case i19 => k_is)
    (case l19 => k_is)
    (case c19 => k_is)
    (case k19 => k_is)
    (case a20 => k_is)
    (case l20 => k_is)
    (case c20 => k_is)
    (case k20 => k_is)
    (case a21 => k_is)
    (case l21 => k_is)
    (case c21 => k_is)
    (case k21 => k_is)
    (case a22 => k_is)
    (case l22 => k_is)
    (case c22 => k_is)
    (case k22 => k_is)
    (case a23 => k_is)
    (case l23 => k_is)
    (case c23 => k_is)
    (case k23 => k_is)
    (case a24 => k_is)
    (case i24 => k_is)
    (case l24 => k_is)
    (case c24 => k_is)
    (case k24 => k_is)
    (case a25 => k_is)
    (case i25 => k_is)
    (case l25 => k_is)
    (case c25 => k_is)
    (case k25 => k_is)
    (case a26 => k_is)
    (case i26 => k_is)
    (case l26 => k_is)
    (case c26 => k_is)
    (case k26 => k_is)
    (case a27 => k_is)
    (case i27 => k_is)
    (case l27 => k_is)
    (case c27 => k_is)
    (case k27 => k_is)
    (case a28 => k_is)
    (case i28 => k_is)
    (case l28 => k_is)
    (case c28 => k_is)
    (case k28 => k_is)
    (case a29 => k_is)
    (case l29 => k_is)
    (case c29 => k_is)
    (case k29 => k_is)
    (case a30 => k_is)
    (case l30 => k_is)
    (case c30 => k_is)
    (case k30 => k_is)
    (case a31 => k_is)
    (case l31 => k_is)
    (case c31 => k_is)
    (case k31 => k_is)
    (case a32 => k_is)
    (case l32 => k_is)
    (case c32 => k_is)
    (case k32 => k_is)
    (case a33 => k_is)
    (case l33 => k_is)
    (case c33 => k_is)
    (case k33 => k_is)
    (case a34 => k_is)
    (case l34 => k_is)
    (case c34 => k_is)
    (case k34 => k_is)
    (case a35 => k_is)
    (case l35 => k_is)
    (case c35 => k_is)
    (case k35 => k_is)
    (case a36 => k_is)
    (case l36 => k_is)
    (case c36 => k_is)
    (case k36 => k_is)
    (case oRegister_o_Gate => first | rfl | k_is)
    (case oRegister_o_Register => first | rfl | k_is)
    (case u0_1 => k_is)
    (case u0_2 => k_exc)
    (case u0_3 => k_is)
    (case u0_4 => k_is)
    (case u0_5 => k_is)
    (case u0_6 => k_is)
    (case u0_7 => k_is)
    (case u0_8 => k_is)
    (case u0_9 => k_is)
    (case u0_10 => k_is)
    (case u0_11 => k_is)
    (case u0_12 => k_is)
    (case u1_1 => k_is)
    (case u1_2 => k_exc)
    (case u1_3 => k_is)
    (case u1_4 => k_is)
    (case u1_5 => k_is)
    (case u1_6 => k_is)
    (case u1_7 => k_is)
    (case u1_8 => k_is)
    (case u1_9 => k_is)
    (case u1_10 => k_is)
    (case u1_11 => k_is)
    (case u1_12 => k_is)
    (case u2_1 => k_is)
    (case u2_2 => k_exc)
    (case u2_3 => k_is)
    (case u2_4 => k_is)
    (case u2_5 => k_is)
    (case u2_6 => k_is)
    (case u2_7 => k_is)
    (case u2_8 => k_is)
    (case u2_9 => k_is)
    (case u2_10 => k_is)
    (case u2_11 => k_is)
    (case u2_12 => k_is)
    (case u3_1 => k_is)
    (case u3_2 => k_exc)
    (case u3_3 => k_is)
    (case u3_4 => k_is)
    (case u3_5 => k_is)
    (case u3_6 => k_is)
    (case u3_7 => k_is)
    (case u3_8 => k_is)
    (case u3_9 => k_is)
    (case u3_10 => k_is)
    (case u3_11 => k_is)
    (case u3_12 => k_is)
    (case u4_1 => k_is)
    (case u4_2 => k_exc)
    (case u4_3 => k_is)
    (case u4_4 => k_is)
    (case u4_5 => k_is)
    (case u4_6 => k_is)
    (case u4_7 => k_is)
    (case u4_8 => k_is)
    (case u4_9 => k_is)
    (case u4_10 => k_is)
    (case u4_11 => k_is)
    (case u4_12 => k_is)
    (case u5_1 => k_is)
    (case u5_2 => k_exc)
    (case u5_3 => k_is)
    (case u5_4 => k_is)
    (case u5_5 => k_is)
    (case u5_6 => k_is)
    (case u5_7 => k_is)
    (case u5_8 => k_is)
    (case u5_9 => k_is)
    (case u5_10 => k_is)
    (case u5_11 => k_is)
    (case u5_12 => k_is)
    (case u6_1 => k_is)
    (case u6_2 => k_exc)
    (case u6_3 => k_is)
    (case u6_4 => k_is)
    (case u6_5 => k_is)
    (case u6_6 => k_is)
    (case u6_7 => k_is)
    (case u6_8 => k_is)
    (case u6_9 => k_is)
    (case u6_10 => k_is)
    (case u6_11 => k_is)
    (case u6_12 => k_is)
    (case u7_1 => k_is)
    (case u7_2 => k_exc)
    (case u7_3 => k_is)
    (case u7_4 => k_is)
    (case u7_5 => k_is)
    (case u7_6 => k_is)
    (case u7_7 => k_is)
    (case u7_8 => k_is)
    (case u7_9 => k_is)
    (case u7_10 => k_is)
    (case u7_11 => k_is)
    (case u7_12 => k_is)
    (case u8_1 => k_is)
    (case u8_2 => k_exc)
    (case u8_3 => k_is)
    (case u8_4 => k_is)
    (case u8_5 => k_is)
    (case u8_6 => k_is)
    (case u8_7 => k_is)
    (case u8_8 => k_is)
    (case u8_9 => k_is)
    (case u8_10 => k_is)
    (case u8_11 => k_is)
    (case u8_12 => k_is)
    (case u9_1 => k_is)
    (case u9_2 => k_exc)
    (case u9_3 => k_is)
    (case u9_4 => k_is)
    (case u9_5 => k_is)
    (case u9_6 => k_is)
    (case u9_7 => k_is)
    (case u9_8 => k_is)
    (case u9_9 => k_is)
    (case u9_10 => k_is)
    (case u9_11 => k_is)
    (case u9_12 => k_is)
    (case q1 => k_is)
    (case q2 => k_is)
    (case p0_0 => first | rfl | k_is)
    (case p0_1 => first | rfl | k_is)
    (case p0_2 => first | rfl | k_is)
    (case p0_3 => first | rfl | k_is)
    (case p0_4 => first | rfl | k_is)
    (case p0_5 => first | rfl | k_is)
    (case p0_6 => first | rfl | k_is)
    (case p0_7 => first | rfl | k_is)
    (case p0_8 => first | rfl | k_is)
    (case p0_9 => first | rfl | k_is)
    (case p1_0 => first | rfl | k_is)
    (case p1_1 => first | rfl | k_is)
    (case p1_2 => first | rfl | k_is)
    (case p1_3 => first | rfl | k_is)
    (case p1_4 => first | rfl | k_is)
    (case p1_5 => first | rfl | k_is)
    (case p1_6 => first | rfl | k_is)
    (case p1_7 => first | rfl | k_is)
    (case p1_8 => first | rfl | k_is)
    (case p1_9 => first | rfl | k_is)
    (case p2_0 => first | rfl | k_is)
    (case p2_1 => first | rfl | k_is)
    (case p2_2 => first | rfl | k_is)
    (case p2_3 => first | rfl | k_is)
    (case p2_4 => first | rfl | k_is)
    (case p2_5 => first | rfl | k_is)
    (case p2_6 => first | rfl | k_is)
    (case p2_7 => first | rfl | k_is)
    (case p2_8 => first | rfl | k_is)
    (case p2_9 => first | rfl | k_is)
    (case p3_0 => first | rfl | k_is)
    (case p3_1 => first | rfl | k_is)
    (case p3_2 => first | rfl | k_is)
    (case p3_3 => first | rfl | k_is)
    (case p3_4 => first | rfl | k_is)
    (case p3_5 => first | rfl | k_is)
    (case p3_6 => first | rfl | k_is)
    (case p3_7 => first | rfl | k_is)
    (case p3_8 => first | rfl | k_is)
    (case p3_9 => first | rfl | k_is)
    (case p4_0 => first | rfl | k_is)
    (case p4_1 => first | rfl | k_is)
    (case p4_2 => first | rfl | k_is)
    (case p4_3 => first | rfl | k_is)
    (case p4_4 => first | rfl | k_is)
    (case p4_5 => first | rfl | k_is)
    (case p4_6 => first | rfl | k_is)
    (case p4_7 => first | rfl | k_is)
    (case p4_8 => first | rfl | k_is)
    (case p4_9 => first | rfl | k_is)
    (case p5_0 => first | rfl | k_is)
    (case p5_1 => first | rfl | k_is)
    (case p5_2 => first | rfl | k_is)
    (case p5_3 => first | rfl | k_is)
    (case p5_4 => first | rfl | k_is)
    (case p5_5 => first | rfl | k_is)
    (case p5_6 => first | rfl | k_is)
    (case p5_7 => first | rfl | k_is)
    (case p5_8 => first | rfl | k_is)
    (case p5_9 => first | rfl | k_is)
    (case p6_0 => first | rfl | k_is)
    (case p6_1 => first | rfl | k_is)
    (case p6_2 => first | rfl | k_is)
    (case p6_3 => first | rfl | k_is)
    (case p6_4 => first | rfl | k_is)
    (case p6_5 => first | rfl | k_is)
    (case p6_6 => first | rfl | k_is)
    (case p6_7 => first | rfl | k_is)
    (case p6_8 => first | rfl | k_is)
    (case p6_9 => first | rfl | k_is)
    (case p7_0 => first | rfl | k_is)
    (case p7_1 => first | rfl | k_is)
    (case p7_2 => first | rfl | k_is)
    (case p7_3 => first | rfl | k_is)
    (case p7_4 => first | rfl | k_is)
    (case p7_5 => first | rfl | k_is)
    (case p7_6 => first | rfl | k_is)
    (case p7_7 => first | rfl | k_is)
    (case p7_8 => first | rfl | k_is)
    (case p7_9 => first | rfl | k_is)
    (case p8_0 => first | rfl | k_is)
    (case p8_1 => first | rfl | k_is)
    (case p8_2 => first | rfl | k_is)
    (case p8_3 => first | rfl | k_is)
    (case p8_4 => first | rfl | k_is)
    (case p8_5 => first | rfl | k_is)
    (case p8_6 => first | rfl | k_is)
    (case p8_7 => first | rfl | k_is)
    (case p8_8 => first | rfl | k_is)
    (case p8_9 => first | rfl | k_is)
    (case p9_0 => first | rfl | k_is)
    (case p9_1 => first | rfl | k_is)
    (case p9_2 => first | rfl | k_is)
    (case p9_3 => first | rfl | k_is)
    (case p9_4 => first | rfl | k_is)
    (case p9_5 => first | rfl | k_is)
    (case p9_6 => first | rfl | k_is)
    (case p9_7 => first | rfl | k_is)
    (case p9_8 => first | rfl | k_is)
    (case p9_9 => first | rfl | k_is)
    (case z_ValueError => k_is)
    (case z_bool => k_is)
    (case z_enumerate => k_is)
    (case z_int => k_is)
    (case z_isinstance => k_is)
    (case z_len => k_is)
    (case z_list => k_is)
    (case z_max => k_is)
    (case z_ord => k_is)
    (case z_range => k_is)
    (case z_str => k_is)
    (case z_tuple => k_is)
    (case z_zip => k_is)
    (case v0 => k_is)
    (case v1 => k_is)
    (case v2 => k_is)
    (case v3 => k_is)
    (case v4 => k_is)
