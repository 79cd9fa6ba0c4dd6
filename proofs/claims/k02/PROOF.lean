import PyProof.Rows.All
import Wide.All
import OpenK.AllK
import Wide.FinOn
import HandS.ForMost
import HandS.IsInst
import HandS.Deep
import HandS.TupAny
import HandS.Star
import HandS.Codes
import HandS.SetFor
import PySem.Challenge.RW_aisleshift_k02_whole_nobody_is_shut_in
set_option Elab.async false
set_option linter.all false
set_option maxRecDepth 100000
set_option maxHeartbeats 4000000
namespace Ais
open PySem PySem.Spec PyProof.Rows L2

/-- a def that keeps a promise, as its callers use it -/
structure Cal (P : Program) (w : World) (K : PySem.W.Frag) (mg : Str → Option Value) (base : Heap) (k : Nat) (x : Str) (ps : List Str) (sp : Sp) (f : Addr) (fd : FuncData) : Prop where
  G : FnOk P w K mg base CX0 k f fd ps sp
  g : mg x = some (.ref f)
  kp : PySem.W.keepIn K (.ref f) = true
  b : Binds K fd ps []
/-- a def as it stands in the text -/
structure Dfs (K : PySem.W.Frag) (mg : Str → Option Value) (x : Str) (st : Stmt) (ps : List Str) (f : Addr) (fd : FuncData) : Prop where
  F : Fun K x x st f fd
  g : mg x = some (.ref f)
  b : Binds K fd ps []
theorem Dfs.cal {P : Program} {w : World} {K : PySem.W.Frag} {mg : Str → Option Value} {base : Heap} {k : Nat} {x : Str} {ps : List Str} {sp : Sp} {f : Addr} {fd : FuncData} {st : Stmt} (D : Dfs K mg x st ps f fd) (G : FnOk P w K mg base CX0 k f fd ps sp) : Cal P w K mg base k x ps sp f fd := ⟨G, D.g, D.F.kp, D.b⟩

/-! ### heaps -/
theorem Same.new {B H : Hp} {p : Addr} {o : HO} (s : Same B H) (h : H p = none) : Same B (upd H p o) := fun b u e => by
  have e' := s b u e
  rw [upd_ne (ne_of_none e' h)]
  exact e'
theorem Same.grow {B H : Hp} {p : Addr} {o : HO} (s : Same B H) (h : H p = none) : Same (upd B p o) (upd H p o) := fun b u e => by
  by_cases hb : b = p
  · subst hb
    rw [upd_same] at e ⊢
    exact e
  · rw [upd_ne hb] at e ⊢
    exact s b u e
theorem Same.add {B H : Hp} {p : Addr} {o : HO} (s : Same B H) (h : H p = some o) : Same (upd B p o) H := fun b u e => by
  by_cases hb : b = p
  · subst hb
    rw [upd_same] at e
    rw [h]
    exact e
  · rw [upd_ne hb] at e
    exact s b u e
theorem Same.put {B H : Hp} {p : Addr} {o : HO} (s : Same B H) (h : B p = none) : Same B (upd H p o) := fun b u e => by
  rw [upd_ne (ne_of_none e h)]
  exact s b u e
theorem same_new {H : Hp} {p : Addr} {o : HO} (h : H p = none) : Same H (upd H p o) := Same.new (Same.refl H) h
theorem Same.rd {H H' : Hp} {a : Addr} {u : HO} (s : Same H H') (h : Rd H a u) : Rd H' a u := by
  rcases h with h | ⟨o, h⟩
  · exact .inl (s _ _ h)
  · exact .inr ⟨o, s _ _ h⟩
theorem Same.l {K : PySem.W.Frag} {H H' : Hp} {a : Addr} {xs : List V} (s : Same H H') (h : SqL K H a xs) : SqL K H' a xs := s.seq h
theorem Same.t {K : PySem.W.Frag} {H H' : Hp} {a : Addr} {xs : List V} (s : Same H H') (h : SqT K H a xs) : SqT K H' a xs := by
  rcases h with h | h
  · exact .inl (Same.rd s h)
  · exact .inr h
theorem tup_new {K : PySem.W.Frag} {H : Hp} {p : Addr} {xs : List V} : SqT K (upd H p (.tup xs)) p xs := SqT.of upd_same
theorem lst_new {K : PySem.W.Frag} {H : Hp} {p : Addr} {xs : List V} : SqL K (upd H p (.lst xs)) p xs := SqL.of upd_same

/-! ### data -/
mutual
theorem dp_mono {K : PySem.W.Frag} {H H' : Hp} (s : Same H H') : ∀ {v : V} {d : PyData}, Dp K H v d → Dp K H' v d
  | _, _, .non => .non
  | _, _, .bl b => .bl b
  | _, _, .int i => .int i
  | _, _, .str x => .str x
  | _, _, .lst h r => .lst (Same.l s h) (dps_mono s r)
  | _, _, .tup h r => .tup (Same.t s h) (dps_mono s r)
theorem dps_mono {K : PySem.W.Frag} {H H' : Hp} (s : Same H H') : ∀ {vs : List V} {ds : List PyData}, DpAll K H vs ds → DpAll K H' vs ds
  | _, _, .nil => .nil
  | _, _, .cons h r => .cons (dp_mono s h) (dps_mono s r)
end
section
variable {K : PySem.W.Frag} {H : Hp} {v : V} {vs : List V}
theorem dp_int {i : Int} (h : Dp K H v (.int i)) : v = .int i := by cases h; rfl
theorem dp_str {i : Str} (h : Dp K H v (.str i)) : v = .str i := by cases h; rfl
theorem dp_none (h : Dp K H v .none) : v = .non := by cases h; rfl
theorem dp_bool {b : Bool} (h : Dp K H v (.bool b)) : v = .bl b := by cases h; rfl
theorem dp_tup {ds : List PyData} (h : Dp K H v (.tuple ds)) : ∃ a xs, v = .ref a ∧ SqT K H a xs ∧ DpAll K H xs ds := by
  cases h with
  | tup a b => exact ⟨_, _, rfl, a, b⟩
theorem dp_lst {ds : List PyData} (h : Dp K H v (.list ds)) : ∃ a xs, v = .ref a ∧ SqL K H a xs ∧ DpAll K H xs ds := by
  cases h with
  | lst a b => exact ⟨_, _, rfl, a, b⟩
theorem dps_nil (h : DpAll K H vs []) : vs = [] := by cases h; rfl
theorem dps_cons {d : PyData} {ds : List PyData} (h : DpAll K H vs (d :: ds)) : ∃ x r, vs = x :: r ∧ Dp K H x d ∧ DpAll K H r ds := by
  cases h with
  | cons a b => exact ⟨_, _, rfl, a, b⟩
theorem dps_len {ds : List PyData} (h : DpAll K H vs ds) : vs.length = ds.length := by
  induction ds generalizing vs with
  | nil => rw [dps_nil h]; rfl
  | cons d ds ih =>
    obtain ⟨x, r, rfl, _, hr⟩ := dps_cons h
    rw [List.length_cons, List.length_cons, ih hr]
theorem dps_get {ds : List PyData} (h : DpAll K H vs ds) {i : Nat} {d : PyData} (e : ds[i]? = some d) : ∃ x, vs[i]? = some x ∧ Dp K H x d := by
  induction ds generalizing vs i with
  | nil => simp at e
  | cons d0 ds ih =>
    obtain ⟨x, r, rfl, h0, hr⟩ := dps_cons h
    cases i with
    | zero =>
      have e' : d0 = d := Option.some.inj e
      subst e'
      exact ⟨x, rfl, h0⟩
    | succ i => exact ih hr e
theorem dps_of_get {ds : List PyData} (h : DpAll K H vs ds) {i : Nat} {x : V} (e : vs[i]? = some x) : ∃ d, ds[i]? = some d ∧ Dp K H x d := by
  induction ds generalizing vs i with
  | nil =>
    rw [dps_nil h] at e
    simp at e
  | cons d0 ds ih =>
    obtain ⟨y, r, rfl, h0, hr⟩ := dps_cons h
    cases i with
    | zero =>
      have e' : y = x := Option.some.inj e
      subst e'
      exact ⟨d0, rfl, h0⟩
    | succ i => exact ih hr e
theorem dps_app {us : List V} {ds es : List PyData} (h : DpAll K H vs ds) (g : DpAll K H us es) : DpAll K H (vs ++ us) (ds ++ es) := by
  induction ds generalizing vs with
  | nil =>
    rw [dps_nil h]
    exact g
  | cons d ds ih =>
    obtain ⟨x, r, rfl, h0, hr⟩ := dps_cons h
    exact .cons h0 (ih hr)
theorem dps_take {ds : List PyData} (h : DpAll K H vs ds) (n : Nat) : DpAll K H (vs.take n) (ds.take n) := by
  induction ds generalizing vs n with
  | nil =>
    rw [dps_nil h]
    simp only [List.take_nil]
    exact .nil
  | cons d ds ih =>
    obtain ⟨x, r, rfl, h0, hr⟩ := dps_cons h
    cases n with
    | zero => exact .nil
    | succ n => exact .cons h0 (ih hr n)
end
def dints (l : List Int) : List PyData := l.map .int
theorem dps_ints {K : PySem.W.Frag} {H : Hp} {vs : List V} {l : List Int} (h : DpAll K H vs (dints l)) : vs = l.map V.int := by
  induction l generalizing vs with
  | nil => exact dps_nil h
  | cons i l ih =>
    obtain ⟨x, r, rfl, h0, hr⟩ := dps_cons h
    rw [dp_int h0, ih hr]
    rfl
theorem ints_dps {K : PySem.W.Frag} {H : Hp} : ∀ l : List Int, DpAll K H (l.map V.int) (dints l)
  | [] => .nil
  | i :: l => .cons (.int i) (ints_dps l)
theorem dp_ints {K : PySem.W.Frag} {H : Hp} {v : V} {l : List Int} (h : Dp K H v (.tuple (dints l))) : ∃ a, v = .ref a ∧ SqT K H a (l.map V.int) := by
  obtain ⟨a, xs, rfl, h1, h2⟩ := dp_tup h
  rw [dps_ints h2] at h1
  exact ⟨a, rfl, h1⟩

/-! ### rules with the written part named (within a comprehension the context is another one, over the same) -/
section
variable {X : Cx} {K : PySem.W.Frag}
theorem kix_list (h : X.K = K := by rfl) : IxR X (rIxL K) := by subst h; exact ix_list
theorem kix_tup (h : X.K = K := by rfl) : IxR X (rIxT K) := by subst h; exact ix_tup
theorem ksl_list (h : X.K = K := by rfl) : SlR X (rSlL K) := by subst h; exact sl_list
theorem ksl_tup (h : X.K = K := by rfl) : SlR X (rSlT K) := by subst h; exact sl_tup
theorem kin_seq (h : X.K = K := by rfl) : OpR X (compareOp .In) (rIn K false) := by subst h; exact op_in_seq
theorem knotIn_seq (h : X.K = K := by rfl) : OpR X (compareOp .NotIn) (rIn K true) := by subst h; exact op_notIn_seq
theorem keqD (hu : X.A.units + 64 < cLine) (h : X.K = K := by rfl) : OpR X (compareOp .Eq) (rEqD K) := by subst h; exact op_eqD hu
theorem kneD (hu : X.A.units + 64 < cLine) (h : X.K = K := by rfl) : OpR X (compareOp .NotEq) (rNeD K) := by subst h; exact op_neD hu
theorem kinD (hu : X.A.units + 65 < cLine) (h : X.K = K := by rfl) : OpR X (compareOp .In) (rInD K) := by subst h; exact op_inD hu
theorem knotInD (hu : X.A.units + 65 < cLine) (h : X.K = K := by rfl) : OpR X (compareOp .NotIn) (rNotInD K) := by subst h; exact op_notInD hu
theorem kcatA (h : X.K = K := by rfl) : OpR X (binaryOp .Add) (rCatA K) := by subst h; exact op_catA
def rLen (K : PySem.W.Frag) : List V → Hp → VK → Prop := fun xs H Q => ∃ p ys, xs = [.ref p] ∧ (SqL K H p ys ∨ SqT K H p ys) ∧ Q (.int ys.length) H
def rListOf (K : PySem.W.Frag) : List V → Hp → VK → Prop := fun xs H Q => ∃ p ys, xs = [.ref p] ∧ (SqL K H p ys ∨ SqT K H p ys) ∧ ∀ l, H l = none → Q (.ref l) (upd H l (.lst ys))
def rTupleOf (K : PySem.W.Frag) : List V → Hp → VK → Prop := fun xs H Q => ∃ p ys, xs = [.ref p] ∧ ((SqL K H p ys ∧ ∀ l, H l = none → Q (.ref l) (upd H l (.tup ys))) ∨ (SqT K H p ys ∧ Q (.ref p) H))
theorem klen (h : X.K = K := by rfl) : CallR X (.builtin "len") (rLen K) := by subst h; exact call_len_seq
theorem klist_of (h : X.K = K := by rfl) : CallR X (.type "list") (rListOf K) := by subst h; exact call_list_of
theorem ktuple_of (h : X.K = K := by rfl) : CallR X (.type "tuple") (rTupleOf K) := by subst h; exact call_tuple_of
theorem ksorted (h : X.K = K := by rfl) : CallR X (.builtin "sorted") (rSorted K) := by subst h; exact cr_sorted
theorem ksum (hc : X.calm = true) (h : X.K = K := by rfl) : CallR X (.builtin "sum") (rSum K) := by subst h; exact cr_sum hc
theorem kmin (hc : X.calm = true) (h : X.K = K := by rfl) : CallR X (.builtin "min") (rMin K) := by subst h; exact cr_min hc
theorem klcount (h : X.K = K := by rfl) : MtR X "list.count" (rCntI K) := by subst h; exact mt_lcount
theorem kisi (h : X.K = K := by rfl) : CallR X (.builtin "isinstance") (rIsi K) := by subst h; exact call_isi
end

/-! ### tests whose answer is known -/
section
variable {c A B : Prop} [Decidable c]
theorem itD (hc : c) (h : A) : if decide c = true then A else B := by rw [decide_eq_true hc]; exact iteT h
theorem itF (hc : ¬ c) (h : B) : if decide c = true then A else B := by rw [decide_eq_false hc]; exact iteF h
theorem itnF (hc : ¬ c) (h : A) : if (!decide c) = true then A else B := by rw [decide_eq_false hc]; exact iteT h
theorem itB {b : Bool} (hc : b = true) (h : A) : if b = true then A else B := by rw [hc]; exact iteT h
theorem itBf {b : Bool} (hc : b = false) (h : B) : if b = true then A else B := by rw [hc]; exact iteF h
theorem itnB {b : Bool} (hc : b = true) (h : B) : if (!b) = true then A else B := by rw [hc]; exact iteF h
theorem itnBf {b : Bool} (hc : b = false) (h : A) : if (!b) = true then A else B := by rw [hc]; exact iteT h
end
theorem inV_ints {x : Int} {l : List Int} : inV (.int x) (l.map V.int) = true ↔ x ∈ l := by
  induction l with
  | nil => exact ⟨fun h => absurd (show false = true from h) (by decide), fun h => absurd h (by simp)⟩
  | cons y l ih =>
    rw [List.map_cons, List.mem_cons]
    show (eqV (.int y) (.int x) || inV (.int x) (l.map V.int)) = true ↔ _
    rw [Bool.or_eq_true, ih]
    have e : eqV (.int y) (.int x) = true ↔ x = y := ⟨fun h => (of_decide_eq_true h).symm, fun h => decide_eq_true h.symm⟩
    rw [e]
theorem inV_strs {x : Str} {l : List Str} : inV (.str x) (l.map V.str) = true ↔ x ∈ l := by
  induction l with
  | nil => exact ⟨fun h => absurd (show false = true from h) (by decide), fun h => absurd h (by simp)⟩
  | cons y l ih =>
    rw [List.map_cons, List.mem_cons]
    show (eqV (.str y) (.str x) || inV (.str x) (l.map V.str)) = true ↔ _
    rw [Bool.or_eq_true, ih]
    have e : eqV (.str y) (.str x) = true ↔ x = y := ⟨fun h => (of_decide_eq_true h).symm, fun h => decide_eq_true h.symm⟩
    rw [e]
theorem flat_ints (l : List Int) : (l.map V.int).all flatV = true := by
  induction l with
  | nil => rfl
  | cons y l ih => rw [List.map_cons, List.all_cons, ih]; rfl
/-- for i, x in enumerate(xs) -/
theorem for_enum {K : PySem.W.Frag} {a : Addr} {xs : List V} {g : TG} {tb : TS} {D : Ends} {σ : L2.St} {H : Hp} (Pv : Nat → L2.St → Hp → Prop) (h0 : Pv 0 σ H) (hl : ∀ i σ H, i ≤ xs.length → Pv i σ H → SqL K H a xs)
    (hs : ∀ i x σ H p, xs[i]? = some x → Pv i σ H → H p = none → g (.ref p) σ (upd H p (.tup [.int (i : Nat), x])) fun σ2 H2 => tb { D with nx := Pv (i + 1), ct := Pv (i + 1), bk := D.nx } σ2 H2)
    (hd : ∀ σ H, Pv xs.length σ H → D.nx σ H) :
    ∃ W : Nat → Nat → L2.St → Hp → Prop, (∃ m, W 0 m σ H) ∧ ∀ i m σ H, W i m σ H →
      ((Ite K a).stop i H ∧ D.nx σ H) ∨ ((Ite K a).go i H ∧ ∃ N : L2.St → Hp → Prop, (∀ σ' H', N σ' H' → ∃ m', m' < m ∧ W (i + 1) m' σ' H') ∧
        ∀ x H', (Ite K a).yld i H x H' → g x σ H' fun σ2 H2 => tb { D with nx := N, ct := N, bk := D.nx } σ2 H2) := by
  refine ⟨fun i m σ H => m + i = xs.length ∧ Pv i σ H, ⟨xs.length, Nat.add_zero _, h0⟩, fun i m σ H ⟨em, hp⟩ => ?_⟩
  have hS := hl i σ H (by omega) hp
  cases m with
  | zero =>
    have e : i = xs.length := by omega
    subst e
    exact .inl ⟨⟨xs, hS, Nat.le_refl _⟩, hd σ H hp⟩
  | succ m =>
    have hi : i < xs.length := by omega
    have hx := List.getElem?_eq_getElem hi
    refine .inr ⟨⟨xs, _, hS, hx⟩, Pv (i + 1), fun σ' H' h => ⟨m, Nat.lt_succ_self m, by omega, h⟩, ?_⟩
    rintro x H' ⟨p, y, rfl, np, rfl, hy⟩
    exact hs i y σ H p (hy xs hS) hp np

/-! ### a chain of three comparisons -/
def tChain3 (r1 r2 r3 : R2) (ta tb tc td : TE) : TE := fun σ H Q => ta σ H fun x H1 => tb σ H1 fun y H2 => r1 x y H2 fun z H3 => ∃ k, z = .bl k ∧
  if k = true then tc σ H3 fun x2 H4 => r2 y x2 H4 fun z2 H5 => ∃ k2, z2 = .bl k2 ∧ (if k2 = true then td σ H5 fun x3 H6 => r3 x2 x3 H6 Q else Q (.bl false) H5) else Q (.bl false) H3
theorem pe_chain3 {X : Cx} {a b c d : Expr} {pos : Pos} {ta tb tc td : TE} {o1 o2 o3 : CmpOp} {r1 r2 r3 : R2} (h1 : OpR X (compareOp o1) r1) (h2 : OpR X (compareOp o2) r2) (h3 : OpR X (compareOp o3) r3)
    (pa : PE X a ta) (pb : PE X b tb) (pc : PE X c tc) (pd : PE X d td) (hm : lastMarks [o1, o2, o3] [b, c, d] = false := by with_unfolding_all rfl) :
    PE X (.Compare a [o1, o2, o3] [b, c, d] pos) (tChain3 r1 r2 r3 ta tb tc td) := by
  refine ⟨fun pins s σ H Q I h => Compare_chain ?_ hm⟩
  refine thn (pa.run pins s σ H _ I h) fun va sa ⟨x, Ha, Ia, ra, qa⟩ => chain_link ?_
  refine thn (pb.run pins sa σ Ha _ Ia qa) fun vb sb ⟨y, Hb, Ib, rb, qb⟩ => ?_
  refine thn (h1 pins sb σ Hb x y va vb _ Ib ra rb qb) fun v1 s1 ⟨z, Hz, Iz, rz, k, ez, qz⟩ => ?_
  subst ez
  cases rz
  refine wpAny_truthy_bool ?_
  cases k with
  | false => exact (if_neg Bool.false_ne_true).mpr ⟨.bl false, Hz, Iz, rfl, (if_neg Bool.false_ne_true).mp qz⟩
  | true =>
    refine (if_pos rfl).mpr (chain_link ?_)
    refine thn (pc.run pins s1 σ Hz _ Iz ((if_pos rfl).mp qz)) fun vc sc ⟨x2, Hc, Ic, rc, qc⟩ => ?_
    refine thn (h2 pins sc σ Hc y x2 vb vc _ Ic rb rc qc) fun v2 s2 ⟨z2, Hy, Iy, ry, k2, ey, qy⟩ => ?_
    subst ey
    cases ry
    refine wpAny_truthy_bool ?_
    cases k2 with
    | false => exact (if_neg Bool.false_ne_true).mpr ⟨.bl false, Hy, Iy, rfl, (if_neg Bool.false_ne_true).mp qy⟩
    | true =>
      refine (if_pos rfl).mpr (chain_last ?_)
      refine thn (pd.run pins s2 σ Hy _ Iy ((if_pos rfl).mp qy)) fun vd sd ⟨x3, Hd, Id, rd, qd⟩ => ?_
      exact h3 pins sd σ Hd x2 x3 vc vd Q Id rc rd qd
theorem tyx_tup {K : PySem.W.Frag} {H : Hp} {a : Addr} {xs : List V} (h : SqT K H a xs) : TyX K H (.ref a) (.type "tuple") := by
  rcases h with (h | ⟨o, h⟩) | ⟨o, its, n, h1, h2, _⟩
  · exact .base (.tup h)
  · exact .fTuple h
  · exact .kTuple h1 h2
theorem isi_tup {K : PySem.W.Frag} {H : Hp} {a : Addr} {xs : List V} {Q : VK} (h : SqT K H a xs) (q : Q (.bl true) H) : rIsi K [.ref a, .ty "tuple"] H Q :=
  ⟨_, _, _, _, true, rfl, .ty "tuple", tyx_tup h, kit_ty (by decide +kernel), q⟩

/-! ### small words -/
theorem nod {p : Prop} [Decidable p] (h : ¬ decide p = true) : ¬ p := fun z => h (decide_eq_true z)
theorem yed {p : Prop} [Decidable p] (h : decide p = true) : p := of_decide_eq_true h
theorem atI_mem {xs : List V} {z : Int} (h0 : 0 ≤ z) (h1 : z < xs.length) : ∃ v, atI xs z = some v ∧ xs[z.toNat]? = some v ∧ v ∈ xs := by
  have hl : z.toNat < xs.length := by omega
  have e := List.getElem?_eq_getElem hl
  exact ⟨xs[z.toNat], at_of (j := z.toNat) (by omega) e, e, List.getElem_mem hl⟩
theorem b2z (b : Bool) : (0 : Int) ≤ (if b = true then 1 else 0) ∧ (if b = true then (1 : Int) else 0) < 2 := by
  cases b
  · exact ⟨by decide, by decide⟩
  · exact ⟨by decide, by decide⟩
theorem small {n : Nat} (h : n ≤ 1000) : n ≤ sizeLine := Nat.le_of_lt (small1000 h)

/-! ### stores -/
structure Shelf where
  room : Int
  has : Int
  sticks : Int
structure Wish where
  kind : Str
  shelf : Int
  side : Str
  crew : Int
  keep : Int
  after : List Int
structure Sto where
  shelves : List Shelf
  aisle : Int
  wishes : List Wish
def Shelf.d (s : Shelf) : PyData := .tuple [.int s.room, .int s.has, .int s.sticks]
def Wish.d (w : Wish) : PyData := .tuple [.str w.kind, .int w.shelf, .str w.side, .int w.crew, .int w.keep, .tuple (dints w.after)]
def dshelves (l : List Shelf) : List PyData := l.map Shelf.d
def dwishes (l : List Wish) : List PyData := l.map Wish.d
def Sto.d (s : Sto) : PyData := .tuple [.list (dshelves s.shelves), .int s.aisle, .list (dwishes s.wishes)]
/-- numbers that rise, from lo to below n -/
def Rising : Int → Int → List Int → Prop
  | _, _, [] => True
  | lo, n, i :: r => lo ≤ i ∧ i < n ∧ Rising (i + 1) n r
structure ShelfOk (s : Shelf) : Prop where
  h0 : 0 ≤ s.has
  h1 : s.has ≤ s.room
  h2 : s.room ≤ 9
  st : s.sticks = 0 ∨ s.sticks = 1
structure WishOk (n m : Int) (w : Wish) : Prop where
  kind : w.kind = "fetch" ∨ w.kind = "bring"
  s0 : 0 ≤ w.shelf
  s1 : w.shelf < n
  side : w.side = "left" ∨ w.side = "right" ∨ w.side = "any"
  crew : w.crew = 0 ∨ w.crew = 1
  k0 : 0 ≤ w.keep
  k3 : w.keep ≤ 3
  after : Rising 0 m w.after
structure StoOk (s : Sto) : Prop where
  n1 : 1 ≤ s.shelves.length
  n5 : s.shelves.length ≤ 5
  sh : ∀ x ∈ s.shelves, ShelfOk x
  a0 : 0 ≤ s.aisle
  a1 : s.aisle ≤ s.shelves.length
  w5 : s.wishes.length ≤ 5
  ws : ∀ x ∈ s.wishes, WishOk s.shelves.length s.wishes.length x
theorem Rising.more {lo n m : Int} {l : List Int} (h : n ≤ m) : Rising lo n l → Rising lo m l := by
  induction l generalizing lo with
  | nil => exact fun _ => trivial
  | cons i r ih =>
    rintro ⟨h1, h2, h3⟩
    exact ⟨h1, by omega, ih h3⟩
theorem Rising.take {lo n : Int} {l : List Int} (k : Nat) (h : Rising lo n l) : Rising lo n (l.take k) := by
  induction l generalizing lo k with
  | nil => simpa using h
  | cons i r ih =>
    obtain ⟨h1, h2, h3⟩ := h
    cases k with
    | zero => trivial
    | succ k => exact ⟨h1, h2, ih k h3⟩
theorem Rising.snoc {lo n i : Int} {l : List Int} (h : Rising lo i l) (h0 : lo ≤ i) (h1 : i < n) : Rising lo n (l ++ [i]) := by
  induction l generalizing lo with
  | nil => exact ⟨h0, h1, trivial⟩
  | cons j r ih =>
    obtain ⟨a, b, c⟩ := h
    exact ⟨a, by omega, ih c (by omega)⟩
theorem Rising.mem {lo n : Int} {l : List Int} (h : Rising lo n l) {i : Int} (m : i ∈ l) : lo ≤ i ∧ i < n := by
  induction l generalizing lo with
  | nil => simp at m
  | cons j r ih =>
    obtain ⟨a, b, c⟩ := h
    rcases List.mem_cons.mp m with rfl | m
    · exact ⟨a, b⟩
    · have := ih c m
      omega
section
variable {K : PySem.W.Frag} {H : Hp} {v : V}
theorem shelf_at {s : Shelf} (h : Dp K H v s.d) : ∃ a, v = .ref a ∧ SqT K H a [.int s.room, .int s.has, .int s.sticks] := by
  obtain ⟨a, xs, rfl, h1, h2⟩ := dp_tup h
  obtain ⟨x, r, rfl, e1, h2⟩ := dps_cons h2
  obtain ⟨y, r, rfl, e2, h2⟩ := dps_cons h2
  obtain ⟨z, r, rfl, e3, h2⟩ := dps_cons h2
  obtain rfl := dps_nil h2
  rw [dp_int e1, dp_int e2, dp_int e3] at h1
  exact ⟨a, rfl, h1⟩
theorem at_shelf {s : Shelf} {a : Addr} (h : SqT K H a [.int s.room, .int s.has, .int s.sticks]) : Dp K H (.ref a) s.d := .tup h (.cons (.int _) (.cons (.int _) (.cons (.int _) .nil)))
theorem wish_at {s : Wish} (h : Dp K H v s.d) : ∃ a t, v = .ref a ∧ SqT K H a [.str s.kind, .int s.shelf, .str s.side, .int s.crew, .int s.keep, .ref t] ∧ SqT K H t (s.after.map V.int) := by
  obtain ⟨a, xs, rfl, h1, h2⟩ := dp_tup h
  obtain ⟨x, r, rfl, e1, k3⟩ := dps_cons h2
  obtain ⟨x, r, rfl, e2, k4⟩ := dps_cons k3
  obtain ⟨x, r, rfl, e3, k5⟩ := dps_cons k4
  obtain ⟨x, r, rfl, e4, k6⟩ := dps_cons k5
  obtain ⟨x, r, rfl, e5, k7⟩ := dps_cons k6
  obtain ⟨x, r, rfl, e6, k8⟩ := dps_cons k7
  obtain ⟨t, rfl, ht⟩ := dp_ints e6
  obtain rfl := dps_nil k8
  rw [dp_str e1, dp_int e2, dp_str e3, dp_int e4, dp_int e5] at h1
  exact ⟨a, t, rfl, h1, ht⟩
theorem at_wish {s : Wish} {a t : Addr} (h : SqT K H a [.str s.kind, .int s.shelf, .str s.side, .int s.crew, .int s.keep, .ref t]) (g : SqT K H t (s.after.map V.int)) : Dp K H (.ref a) s.d :=
  .tup h (.cons (.str _) (.cons (.int _) (.cons (.str _) (.cons (.int _) (.cons (.int _) (.cons (.tup g (ints_dps _)) .nil))))))
/-- a store's tuple -/
structure StoAt (K : PySem.W.Frag) (H : Hp) (a l m : Addr) (xs ys : List V) (s : Sto) : Prop where
  t : SqT K H a [.ref l, .int s.aisle, .ref m]
  l : SqL K H l xs
  dx : DpAll K H xs (dshelves s.shelves)
  m : SqL K H m ys
  dy : DpAll K H ys (dwishes s.wishes)
theorem StoAt.mono {H' : Hp} {a l m : Addr} {xs ys : List V} {s : Sto} (e : Same H H') (h : StoAt K H a l m xs ys s) : StoAt K H' a l m xs ys s := ⟨Same.t e h.t, Same.l e h.l, dps_mono e h.dx, Same.l e h.m, dps_mono e h.dy⟩
theorem sto_at {s : Sto} (h : Dp K H v s.d) : ∃ a l m xs ys, v = .ref a ∧ StoAt K H a l m xs ys s := by
  obtain ⟨a, xs, rfl, h1, h2⟩ := dp_tup h
  obtain ⟨x, r, rfl, e1, k3⟩ := dps_cons h2
  obtain ⟨y, r, rfl, e2, k4⟩ := dps_cons k3
  obtain ⟨z, r, rfl, e3, k5⟩ := dps_cons k4
  obtain ⟨l, xs, rfl, hl, dl⟩ := dp_lst e1
  obtain ⟨m, ys, rfl, hm, dm⟩ := dp_lst e3
  obtain rfl := dps_nil k5
  rw [dp_int e2] at h1
  exact ⟨a, l, m, xs, ys, rfl, h1, hl, dl, hm, dm⟩
theorem StoAt.d {a l m : Addr} {xs ys : List V} {s : Sto} (h : StoAt K H a l m xs ys s) : Dp K H (.ref a) s.d := .tup h.t (.cons (.lst h.l h.dx) (.cons (.int _) (.cons (.lst h.m h.dy) .nil)))
theorem StoAt.lx {a l m : Addr} {xs ys : List V} {s : Sto} (h : StoAt K H a l m xs ys s) : xs.length = s.shelves.length := by rw [dps_len h.dx]; exact List.length_map ..
theorem StoAt.ly {a l m : Addr} {xs ys : List V} {s : Sto} (h : StoAt K H a l m xs ys s) : ys.length = s.wishes.length := by rw [dps_len h.dy]; exact List.length_map ..
theorem shelf_get {xs : List V} {l : List Shelf} (h : DpAll K H xs (dshelves l)) {i : Nat} {s : Shelf} (e : l[i]? = some s) : ∃ a, xs[i]? = some (.ref a) ∧ SqT K H a [.int s.room, .int s.has, .int s.sticks] := by
  obtain ⟨x, h1, h2⟩ := dps_get h (i := i) (d := s.d) (by unfold dshelves; rw [List.getElem?_map, e]; rfl)
  obtain ⟨a, rfl, h3⟩ := shelf_at h2
  exact ⟨a, h1, h3⟩
theorem wish_get {xs : List V} {l : List Wish} (h : DpAll K H xs (dwishes l)) {i : Nat} {s : Wish} (e : l[i]? = some s) : ∃ a t, xs[i]? = some (.ref a) ∧ SqT K H a [.str s.kind, .int s.shelf, .str s.side, .int s.crew, .int s.keep, .ref t] ∧ SqT K H t (s.after.map V.int) := by
  obtain ⟨x, h1, h2⟩ := dps_get h (i := i) (d := s.d) (by unfold dwishes; rw [List.getElem?_map, e]; rfl)
  obtain ⟨a, t, rfl, h3, h4⟩ := wish_at h2
  exact ⟨a, t, h1, h3, h4⟩
end

/-! ### the row of draws: a list of the script and two numbers, which every draw changes. B: what is known besides -/
structure RowP where
  r : Addr
  a : Addr
  ns : List Int
structure RowSt (K : PySem.W.Frag) (ρ : RowP) (B H : Hp) : Prop where
  same : Same B H
  free : B ρ.r = none
  scr : SqL K B ρ.a (ρ.ns.map V.int)
  row : ∃ n1 n2 : Int, H ρ.r = some (.lst [.ref ρ.a, .int n1, .int n2]) ∧ 0 ≤ n1
section
variable {K : PySem.W.Frag} {ρ : RowP} {p : Addr} {B B' H : Hp} {o : HO}
theorem RowSt.nr (R : RowSt K ρ B H) (h : H p = none) : ρ.r ≠ p := by
  obtain ⟨n1, n2, e, _⟩ := R.row
  exact ne_of_none e h
/-- a new object -/
theorem RowSt.grow (R : RowSt K ρ B H) (h : H p = none) : RowSt K ρ (upd B p o) (upd H p o) := by
  obtain ⟨n1, n2, e, g⟩ := R.row
  have z := R.same.free h
  exact ⟨Same.grow R.same h, by rw [upd_ne (R.nr h)]; exact R.free, Same.l (same_new z) R.scr, n1, n2, by rw [upd_ne (R.nr h)]; exact e, g⟩
/-- a new object that B is not told of -/
theorem RowSt.new (R : RowSt K ρ B H) (h : H p = none) : RowSt K ρ B (upd H p o) := by
  obtain ⟨n1, n2, e, g⟩ := R.row
  exact ⟨Same.new R.same h, R.free, R.scr, n1, n2, by rw [upd_ne (R.nr h)]; exact e, g⟩
/-- B knows one more that stands -/
theorem RowSt.add (R : RowSt K ρ B H) (h : H p = some o) (hr : ρ.r ≠ p) (hb : B p = none) : RowSt K ρ (upd B p o) H := by
  obtain ⟨n1, n2, e, g⟩ := R.row
  exact ⟨Same.add R.same h, by rw [upd_ne hr]; exact R.free, Same.l (same_new hb) R.scr, n1, n2, e, g⟩
/-- what B does not know is changed -/
theorem RowSt.put (R : RowSt K ρ B H) (hr : ρ.r ≠ p) (hb : B p = none) : RowSt K ρ B (upd H p o) := by
  obtain ⟨n1, n2, e, g⟩ := R.row
  exact ⟨Same.put R.same hb, R.free, R.scr, n1, n2, by rw [upd_ne hr]; exact e, g⟩
/-- B is told less -/
theorem RowSt.less (R : RowSt K ρ B H) (s : Same B' B) (hl : SqL K B' ρ.a (ρ.ns.map V.int)) : RowSt K ρ B' H :=
  ⟨s.trans R.same, s.free R.free, hl, R.row⟩
end
def spTaken (K : PySem.W.Frag) : Sp := fun vs H Q _ => ∃ (ρ : RowP) (m : Int) (B : Hp), vs = [.ref ρ.r, .int m] ∧ 0 < m ∧ RowSt K ρ B H ∧ ∀ z H', 0 ≤ z → z < m → RowSt K ρ B H' → Q (.int z) H'
end Ais
set_option Elab.async false
set_option linter.all false
set_option maxRecDepth 100000
set_option maxHeartbeats 4000000
namespace Ais
open PySem PySem.Spec PyProof.Rows L2
def topS (i : Nat) : Stmt := PySem.Challenge.pw_aisleshift_k02_whole_nobody_is_shut_in.main.body.getD i (.Pass ⟨0, 0, 0, 0⟩)

/-! ## the drawing of numbers and stores -/
structure Tx (K : PySem.W.Frag) (mg : Str → Option Value) : Prop where
  n_len : mg "len" = none
  n_list : mg "list" = none
  n_tuple : mg "tuple" = none
  n_sorted : mg "sorted" = none
  n_sum : mg "sum" = none
  n_min : mg "min" = none
  n_max : mg "max" = none
  n_int : mg "int" = none
  n_range : mg "range" = none
  n_enumerate : mg "enumerate" = none
  n_isinstance : mg "isinstance" = none
  n_ValueError : mg "ValueError" = none
section
variable {P : Program} {w : World} {K : PySem.W.Frag} {mg : Str → Option Value} {base : Heap}
/-! _law_taken: 0 _law_row, 1 _law_many, 2 _law_cell -/
abbrev s__law_taken : Stmt := topS 34
abbrev N__law_taken : List Str := ["_law_row", "_law_many", "_law_cell"]
theorem sc__law_taken : FnScope N__law_taken ["_law_row", "_law_many"] (defScope s__law_taken) := ⟨rfl, rfl, rfl, by decide +kernel, rfl, by decide +kernel, by decide +kernel⟩
theorem ok__law_taken {f : Addr} {fd : FuncData} (D : Dfs K mg "_law_taken" s__law_taken ["_law_row", "_law_many"] f fd) (T : Tx K mg) : Cal P w K mg base 1 "_law_taken" ["_law_row", "_law_many"] (spTaken K) f fd := by
  refine D.cal (D.F.ok sc__law_taken (fun vs H Q E h => ?_) (fun cdv A outer s H vs Q E hr h => ?_))
  · obtain ⟨ρ, m, B, rfl, _⟩ := h
    rfl
  · obtain ⟨ρ, m, B, rfl, hm, R, q⟩ := h
    obtain ⟨n1, n2, hrow, hn1⟩ := R.row
    refine ⟨_, (pss_cons (ps_asg (pe_op op_add (pe_ix (kix_list (K := K)) (pv 0) pe_int (fun _ _ => rfl)) pe_int) (pg_sub (pv 0) pe_int set_list))
      (pss_cons (ps_if (pt_cmpR op_gt (pe_ix (kix_list (K := K)) (pv 0) pe_int (fun _ _ => rfl)) (pe_callB (klen (K := K)) (by rfl) T.n_len (by decide +kernel) (pa_cons (pe_ix (kix_list (K := K)) (pv 0) pe_int (fun _ _ => rfl)) pa_nil)) (nomark _)) (pss_cons (ps_asg (pe_op op_mod (pe_op op_add (pe_op op_mul (pe_ix (kix_list (K := K)) (pv 0) pe_int (fun _ _ => rfl)) pe_int) pe_int) pe_int) (pg_sub (pv 0) pe_int set_list))
      (pss_one (ps_ret (pe_op op_mod (pe_op op_fdiv (pe_ix (kix_list (K := K)) (pv 0) pe_int (fun _ _ => rfl)) pe_int) (pv 1))))) pss_nil)
      (pss_cons (ps_set (i := 2) sc__law_taken.nd rfl (Or.inl rfl) (pe_ix (kix_list (K := K)) (pe_ix (kix_list (K := K)) (pv 0) pe_int (fun _ _ => rfl)) (pe_op op_sub (pe_ix (kix_list (K := K)) (pv 0) pe_int (fun _ _ => rfl)) pe_int) (fun _ _ => rfl)))
      (pss_cons (ps_asg (pe_op op_mod (pe_op op_add (pe_op op_add (pe_op op_mul (pe_ix (kix_list (K := K)) (pv 0) pe_int (fun _ _ => rfl)) pe_int) (pv 2)) pe_int) pe_int) (pg_sub (pv 0) pe_int set_list))
      (pss_one (ps_ret (pe_op op_mod (pv 2) (pv 1)))))))), ?_⟩
    -- row[1] = row[1] + 1
    refine ⟨_, rfl, ρ.r, _, 1, .int n1, rfl, rfl, SqL.of hrow, rfl, n1, 1, rfl, rfl, _, rfl, ρ.r, _, 1, 1, rfl, rfl, hrow, rfl, ?_⟩
    have R1 : RowSt K ρ B (upd H ρ.r (.lst [.ref ρ.a, .int (n1 + 1), .int n2])) := ⟨Same.put R.same R.free, R.free, R.scr, n1 + 1, n2, upd_same, by omega⟩
    -- if row[1] > len(row[0])
    refine ⟨_, rfl, ρ.r, _, 1, .int (n1 + 1), rfl, rfl, SqL.of upd_same, rfl, _, rfl, ρ.r, _, 0, .ref ρ.a, rfl, rfl, SqL.of upd_same, rfl, ρ.a, _, rfl, .inl (Same.l R1.same R1.scr), n1 + 1, _, rfl, rfl, _, rfl, ite2 (fun e => ?_) (fun e => ?_)⟩
    · -- the script is used up
      refine ⟨_, rfl, ρ.r, _, 2, .int n2, rfl, rfl, SqL.of upd_same, rfl, n2, 48271, rfl, rfl, .inr ⟨by decide, by decide⟩, _, 11, rfl, rfl, _, 2147483647, rfl, rfl, (by show (0 : Int) < 2147483647; decide), _, rfl, ρ.r, _, 2, 2, rfl, rfl, upd_same, rfl, ?_⟩
      have R2 : RowSt K ρ B (upd (upd H ρ.r (.lst [.ref ρ.a, .int (n1 + 1), .int n2])) ρ.r (.lst [.ref ρ.a, .int (n1 + 1), .int ((n2 * 48271 + 11) % 2147483647)])) := ⟨Same.put R1.same R.free, R.free, R.scr, n1 + 1, _, upd_same, by omega⟩
      refine ⟨_, rfl, ρ.r, _, 2, .int ((n2 * 48271 + 11) % 2147483647), rfl, rfl, SqL.of upd_same, rfl, _, 7, rfl, rfl, ⟨by decide, by decide⟩, _, rfl, _, m, rfl, rfl, hm, ?_⟩
      exact q _ _ (Int.emod_nonneg _ (by omega)) (Int.emod_lt_of_pos _ hm) R2
    · have hlt : n1 < (ρ.ns.map V.int).length := by
        have z := nod e
        omega
      have hat : atI (ρ.ns.map V.int) (n1 + 1 - 1) = some (.int (ρ.ns.getD n1.toNat 0)) := by
        have hl : n1.toNat < ρ.ns.length := by
          rw [List.length_map] at hlt
          omega
        refine at_of (j := n1.toNat) (by omega) ?_
        rw [List.getElem?_map, List.getElem?_eq_getElem hl]
        simp [List.getD, hl]
      refine ⟨_, rfl, ρ.r, _, 0, .ref ρ.a, rfl, rfl, SqL.of upd_same, rfl, _, rfl, ρ.r, _, 1, .int (n1 + 1), rfl, rfl, SqL.of upd_same, rfl, n1 + 1, 1, rfl, rfl, ρ.a, _, _, _, rfl, rfl, Same.l R1.same R1.scr, hat, ?_⟩
      generalize ρ.ns.getD n1.toNat 0 = cell
      refine ⟨_, rfl, ρ.r, _, 2, .int n2, rfl, rfl, SqL.of upd_same, rfl, n2, 48271, rfl, rfl, .inr ⟨by decide, by decide⟩, _, rfl, _, cell, rfl, rfl, _, 11, rfl, rfl, _, 2147483647, rfl, rfl, (by show (0 : Int) < 2147483647; decide), _, rfl, ρ.r, _, 2, 2, rfl, rfl, upd_same, rfl, ?_⟩
      have R2 : RowSt K ρ B (upd (upd H ρ.r (.lst [.ref ρ.a, .int (n1 + 1), .int n2])) ρ.r (.lst [.ref ρ.a, .int (n1 + 1), .int ((n2 * 48271 + cell + 11) % 2147483647)])) := ⟨Same.put R1.same R.free, R.free, R.scr, n1 + 1, _, upd_same, by omega⟩
      refine ⟨_, rfl, _, rfl, _, m, rfl, rfl, hm, ?_⟩
      exact q _ _ (Int.emod_nonneg _ (by omega)) (Int.emod_lt_of_pos _ hm) R2
end

section
variable {P : Program} {w : World} {K : PySem.W.Frag} {mg : Str → Option Value} {base : Heap}
def spWish (K : PySem.W.Frag) : Sp := fun vs H Q _ => ∃ (ρ : RowP) (n m : Int) (B : Hp), vs = [.ref ρ.r, .int n, .int m] ∧ 0 < n ∧ 0 ≤ m ∧ m ≤ 5 ∧ RowSt K ρ B H ∧
  ∀ v B' H' (x : Wish), Same B B' → RowSt K ρ B' H' → Dp K B' v x.d → WishOk n m x → Q v H'
/-! _law_wish: 0 _law_row, 1 _law_shelves, 2 _law_many, 3 _law_kind, 4 _law_side, 5 _law_after, 6 _law_k -/
abbrev s__law_wish : Stmt := topS 35
abbrev N__law_wish : List Str := ["_law_row", "_law_shelves", "_law_many", "_law_kind", "_law_side", "_law_after", "_law_k"]
theorem sc__law_wish : FnScope N__law_wish ["_law_row", "_law_shelves", "_law_many"] (defScope s__law_wish) := ⟨rfl, rfl, rfl, by decide +kernel, rfl, by decide +kernel, by decide +kernel⟩
theorem ok__law_wish {f f1 : Addr} {fd fd1 : FuncData} (D : Dfs K mg "_law_wish" s__law_wish ["_law_row", "_law_shelves", "_law_many"] f fd) (T : Tx K mg) (C__law_taken : Cal P w K mg base 1 "_law_taken" ["_law_row", "_law_many"] (spTaken K) f1 fd1) :
    Cal P w K mg base 2 "_law_wish" ["_law_row", "_law_shelves", "_law_many"] (spWish K) f fd := by
  refine D.cal (D.F.ok sc__law_wish (fun vs H Q E h => ?_) (fun cdv A outer s H vs Q E hr h => ?_))
  · obtain ⟨ρ, n, m, B, rfl, _⟩ := h
    rfl
  · obtain ⟨ρ, n, m, B, rfl, hn, hm, hm5, R, q⟩ := h
    refine ⟨_, (pss_cons (ps_set (i := 3) sc__law_wish.nd rfl (Or.inl rfl) (pe_ix (kix_list (K := K)) (pe_lst (pa_cons pe_str (pa_cons pe_str pa_nil))) (pe_call C__law_taken.G (hr.mono (by decide)) (by rfl) C__law_taken.g C__law_taken.kp C__law_taken.b .nil pass0 (pa_cons (pv 0) (pa_cons pe_int pa_nil))) (fun _ _ => rfl)))
      (pss_cons (ps_set (i := 4) sc__law_wish.nd rfl (Or.inl rfl) (pe_ix (kix_list (K := K)) (pe_lst (pa_cons pe_str (pa_cons pe_str (pa_cons pe_str (pa_cons pe_str pa_nil))))) (pe_call C__law_taken.G (hr.mono (by decide)) (by rfl) C__law_taken.g C__law_taken.kp C__law_taken.b .nil pass0 (pa_cons (pv 0) (pa_cons pe_int pa_nil))) (fun _ _ => rfl)))
      (pss_cons (ps_setLc (i := 5) (own := [("_law_k", 6)]) (g := gName 6) rfl sc__law_wish.nd rfl rfl (sw_true rfl rfl rfl (by decide +kernel)) (pi_range1 (by rfl) T.n_range (pa_cons (pv 2) pa_nil)) (blkOk_by (own := [("_law_k", 6)]) (N := N__law_wish) (sc := defScope s__law_wish) (by decide +kernel)) (fun _ _ _ _ _ => (pg_name (i := 6) sc__law_wish.nd rfl (Or.inl rfl))) (fun _ _ _ _ _ => (pts_one (pt_cmpR op_eq (pe_call C__law_taken.G (hr.mono (by decide)) (by rfl) C__law_taken.g C__law_taken.kp C__law_taken.b .nil pass0 (pa_cons (pv 0) (pa_cons (pe_ix (kix_list (K := K)) (pe_lst (pa_cons pe_int (pa_cons pe_int pa_nil))) (pe_callTy call_int1 (by rfl) T.n_int (by decide +kernel) (pa_cons (pe_cmpR op_eq (pv 6) pe_int (nomark _)) pa_nil)) (fun _ _ => rfl)) pa_nil))) pe_int (nomark _)))) (fun _ _ _ _ _ => (pv 6)))
      (C8.pss_cut (ps_if (pt_cmpR op_gt (pe_call C__law_taken.G (hr.mono (by decide)) (by rfl) C__law_taken.g C__law_taken.kp C__law_taken.b .nil pass0 (pa_cons (pv 0) (pa_cons pe_int pa_nil))) pe_int (nomark _)) (pss_one (ps_set (i := 5) sc__law_wish.nd rfl (Or.inl rfl) (pe_slice (ksl_list (K := K)) (pv 5) po_none (po_some pe_int)))) pss_nil)
      (pss_one (ps_ret (pe_tup (pa_cons (pv 3) (pa_cons (pe_call C__law_taken.G (hr.mono (by decide)) (by rfl) C__law_taken.g C__law_taken.kp C__law_taken.b .nil pass0 (pa_cons (pv 0) (pa_cons (pv 1) pa_nil))) (pa_cons (pv 4) (pa_cons (pe_call C__law_taken.G (hr.mono (by decide)) (by rfl) C__law_taken.g C__law_taken.kp C__law_taken.b .nil pass0 (pa_cons (pv 0) (pa_cons pe_int pa_nil))) (pa_cons (pe_ix (kix_list (K := K)) (pe_lst (pa_cons pe_int (pa_cons pe_int (pa_cons pe_int (pa_cons pe_int (pa_cons pe_int pa_nil)))))) (pe_call C__law_taken.G (hr.mono (by decide)) (by rfl) C__law_taken.g C__law_taken.kp C__law_taken.b .nil pass0 (pa_cons (pv 0) (pa_cons pe_int pa_nil))) (fun _ _ => rfl)) (pa_cons (pe_callTy (ktuple_of (K := K)) (by rfl) T.n_tuple (by decide +kernel) (pa_cons (pv 5) pa_nil)) pa_nil))))))))))))), ?_⟩
    -- kind
    refine ⟨small (by decide), fun p np => ⟨_, rfl, ρ, 2, upd B p _, rfl, by decide, R.grow np, fun z H1 z0 z1 R1 => ?_⟩⟩
    obtain ⟨v, hv, _, hmem⟩ := atI_mem (xs := [V.str "fetch", V.str "bring"]) z0 z1
    obtain ⟨kd, rfl, hkd⟩ : ∃ kd : Str, v = V.str kd ∧ (kd = "fetch" ∨ kd = "bring") := by
      rcases List.mem_cons.mp hmem with rfl | hmem
      · exact ⟨_, rfl, .inl rfl⟩
      · rcases List.mem_cons.mp hmem with rfl | hmem
        · exact ⟨_, rfl, .inr rfl⟩
        · simp at hmem
    refine ⟨p, _, z, _, rfl, rfl, SqL.of (R1.same _ _ upd_same), hv, ?_⟩
    have sB1 : Same B (upd B p (.lst [V.str "fetch", V.str "bring"])) := same_new (R.same.free np)
    generalize upd B p (.lst [V.str "fetch", V.str "bring"]) = B1 at R1 sB1
    -- side
    refine ⟨small (by decide), fun p2 np2 => ⟨_, rfl, ρ, 4, upd B1 p2 _, rfl, by decide, R1.grow np2, fun z2 H2 z20 z21 R2 => ?_⟩⟩
    obtain ⟨v, hv, _, hmem⟩ := atI_mem (xs := [V.str "any", V.str "any", V.str "left", V.str "right"]) z20 z21
    obtain ⟨sd, rfl, hsd⟩ : ∃ sd : Str, v = V.str sd ∧ (sd = "left" ∨ sd = "right" ∨ sd = "any") := by
      simp only [List.mem_cons, List.not_mem_nil, or_false] at hmem
      rcases hmem with rfl | rfl | rfl | rfl
      · exact ⟨_, rfl, .inr (.inr rfl)⟩
      · exact ⟨_, rfl, .inr (.inr rfl)⟩
      · exact ⟨_, rfl, .inl rfl⟩
      · exact ⟨_, rfl, .inr (.inl rfl)⟩
    refine ⟨p2, _, z2, _, rfl, rfl, SqL.of (R2.same _ _ upd_same), hv, ?_⟩
    have sB2 : Same B (upd B1 p2 (.lst [V.str "any", V.str "any", V.str "left", V.str "right"])) := sB1.trans (same_new (R1.same.free np2))
    generalize upd B1 p2 (.lst [V.str "any", V.str "any", V.str "left", V.str "right"]) = B2 at R2 sB2
    -- after = [..]
    refine ⟨_, rfl, m, rfl, by omega, by omega, fun D nD => lc_range (lo := 0) (n := m.toNat) (fun i H' => ∃ B', Same B2 B' ∧ RowSt K ρ B' H' ∧ B' D = none ∧ ∃ acc : List Int, H' D = some (.lst (acc.map V.int)) ∧ Rising 0 i acc ∧ acc.length ≤ i) ?_ ?_ ?_⟩
    · exact ⟨B2, Same.refl _, R2.new nD, R2.same.free nD, [], upd_same, trivial, Nat.le_refl _⟩
    · rintro i H3 hi ⟨B3, s3, R3, bD, acc, eD, ris, hlen⟩
      have hrD : ρ.r ≠ D := fun e => by
        obtain ⟨n1, n2, er, _⟩ := R2.row
        rw [e, nD] at er
        cases er
      refine ⟨rfl, ?_⟩
      have R4 := R3.add eD hrD bD
      -- [4, 3][int(k == 0)]
      refine ⟨_, rfl, small (by decide), fun p4 np4 => ⟨_, rfl, rfl, .inr ⟨_, rfl, ?_⟩⟩⟩
      have R5 := R4.grow (o := .lst [V.int 4, V.int 3]) np4
      obtain ⟨x0, x1⟩ := b2z (decide (V.int (0 + (i : Int)) = V.int 0))
      obtain ⟨v, hv, _, hmem⟩ := atI_mem (xs := [V.int 4, V.int 3]) x0 x1
      obtain ⟨c, rfl, hc⟩ : ∃ c : Int, v = V.int c ∧ 0 < c := by
        simp only [List.mem_cons, List.not_mem_nil, or_false] at hmem
        rcases hmem with rfl | rfl
        · exact ⟨_, rfl, by decide⟩
        · exact ⟨_, rfl, by decide⟩
      refine ⟨p4, _, _, _, rfl, rfl, SqL.of upd_same, hv, ρ, c, _, rfl, hc, R5, fun z5 H5 z50 z51 R6 => ?_⟩
      have eD5 : H5 D = some (.lst (acc.map V.int)) := R6.same _ _ (by
        have nDp : D ≠ p4 := ne_of_none eD np4
        rw [upd_ne nDp]
        exact upd_same)
      have sB : Same B3 (upd (upd B3 D (.lst (acc.map V.int))) p4 (.lst [V.int 4, V.int 3])) := (same_new bD).trans (same_new (R4.same.free np4))
      have R7 : RowSt K ρ B3 H5 := R6.less sB R3.scr
      refine ⟨rfl, _, rfl, ite2 (fun e => ?_) (fun e => ?_)⟩
      · refine ⟨_, rfl, _, eD5, Nat.lt_of_le_of_lt (by rw [List.length_map]; exact hlen) (small1000 (by omega)), B3, s3, R7.put hrD bD, bD, acc ++ [(i : Int)], ?_, ris.snoc (by omega) (by omega), by rw [List.length_append]; exact Nat.succ_le_succ hlen⟩
        rw [upd_same, List.map_append]
        show some (HO.lst (acc.map V.int ++ [V.int (0 + (i : Int))])) = _
        rw [Int.zero_add]
        rfl
      · exact ⟨B3, s3, R7, bD, acc, eD5, ris.more (by omega), Nat.le_succ_of_le hlen⟩
    · rintro H3 ⟨B3, s3, R3, bD, acc, eD, ris, hlen⟩
      have hrD : ρ.r ≠ D := fun e => by
        obtain ⟨n1, n2, er, _⟩ := R2.row
        rw [e, nD] at er
        cases er
      have ris' : Rising 0 m acc := ris.more (by omega)
      have R4 := R3.add eD hrD bD
      have sB4 : Same B (upd B3 D (.lst (acc.map V.int))) := (sB2.trans s3).trans (same_new bD)
      have lD : SqL K (upd B3 D (.lst (acc.map V.int))) D (acc.map V.int) := SqL.of upd_same
      generalize upd B3 D (.lst (acc.map V.int)) = B4 at R4 sB4 lD
      have hlen5 : acc.length ≤ 5 := by omega
      -- if taken(row, 8) > 0: after = after[:2]
      refine ⟨fun σ H' => ∃ (l : Addr) (acc : List Int) (B' : Hp), σ = [some (.ref ρ.r), some (.int n), some (.int m), some (.str kd), some (.str sd), some (.ref l), none] ∧ Same B B' ∧ RowSt K ρ B' H' ∧ SqL K B' l (acc.map V.int) ∧ Rising 0 m acc ∧ acc.length ≤ 5, ?_, ?_⟩
      · refine ⟨_, rfl, ρ, 8, B4, rfl, by decide, R4, fun z5 H5 z50 z51 R5 => ⟨z5, 0, rfl, rfl, _, rfl, ite2 (fun e => ?_) (fun e => ?_)⟩⟩
        · refine ⟨_, rfl, 2, rfl, D, _, rfl, Same.l R5.same lD, fun p5 np5 => ?_⟩
          refine ⟨p5, acc.take 2, upd B4 p5 (.lst ((acc.take 2).map V.int)), rfl, sB4.trans (same_new (R5.same.free np5)), ?_, SqL.of upd_same, ris'.take 2, ?_⟩
          · have e : cutV (acc.map V.int) none (some 2) = (acc.take 2).map V.int := by
              unfold cutV
              rw [HT.sIx_none, show HT.sIx (acc.map V.int).length (acc.map V.int).length (some 2) = min 2 (acc.map V.int).length from HT.sIx_nat _ _ 2]
              rw [List.drop_zero, List.map_take, Nat.sub_zero]
              by_cases h2 : 2 ≤ (acc.map V.int).length
              · rw [Nat.min_eq_left h2]
              · rw [Nat.min_eq_right (by omega), List.take_of_length_le (Nat.le_refl _), List.take_of_length_le (by omega)]
            rw [e]
            exact R5.grow np5
          · rw [List.length_take]
            omega
        · exact ⟨D, acc, B4, rfl, sB4, R5, lD, ris', hlen5⟩
      · rintro σ H5 ⟨l, acc, B5, rfl, sB5, R5, lD, ris, hl5⟩
        -- return (kind, taken(row, shelves), side, taken(row, 2), [0, 0, 1, 2, 3][taken(row, 5)], tuple(after))
        refine ⟨_, rfl, _, rfl, _, rfl, ρ, n, B5, rfl, hn, R5, fun zs H6 zs0 zs1 R6 => ⟨_, rfl, _, rfl, ρ, 2, B5, rfl, by decide, R6, fun zc H7 zc0 zc1 R7 => ⟨small (by decide), fun p7 np7 => ⟨_, rfl, ρ, 5, upd B5 p7 _, rfl, by decide, R7.grow np7, fun zk H8 zk0 zk1 R8 => ?_⟩⟩⟩⟩
        obtain ⟨v, hv, _, hmem⟩ := atI_mem (xs := [V.int 0, V.int 0, V.int 1, V.int 2, V.int 3]) zk0 zk1
        obtain ⟨kp, rfl, hk0, hk3⟩ : ∃ c : Int, v = V.int c ∧ 0 ≤ c ∧ c ≤ 3 := by
          simp only [List.mem_cons, List.not_mem_nil, or_false] at hmem
          rcases hmem with rfl | rfl | rfl | rfl | rfl <;> exact ⟨_, rfl, by decide, by decide⟩
        have sB8 := sB5.trans (same_new (o := .lst [V.int 0, V.int 0, V.int 1, V.int 2, V.int 3]) (R7.same.free np7))
        have l8 := Same.l (same_new (o := .lst [V.int 0, V.int 0, V.int 1, V.int 2, V.int 3]) (R7.same.free np7)) lD
        have e8 := R8.same _ _ upd_same
        generalize upd B5 p7 (.lst [V.int 0, V.int 0, V.int 1, V.int 2, V.int 3]) = B8 at R8 sB8 l8
        refine ⟨p7, _, zk, _, rfl, rfl, SqL.of e8, hv, _, rfl, l, _, rfl, .inl ⟨Same.l R8.same l8, fun pt npt => ?_⟩⟩
        have R9 := R8.grow (o := .tup (acc.map V.int)) npt
        have sB9 := sB8.trans (same_new (o := .tup (acc.map V.int)) (R8.same.free npt))
        refine ⟨small (by simp), fun pw npw => ?_⟩
        have R10 := R9.grow (o := .tup [.str kd, .int zs, .str sd, .int zc, .int kp, .ref pt]) npw
        have sB10 := sB9.trans (same_new (o := .tup [.str kd, .int zs, .str sd, .int zc, .int kp, .ref pt]) (R9.same.free npw))
        refine q _ _ _ ⟨kd, zs, sd, zc, kp, acc⟩ sB10 R10 (at_wish (t := pt) (SqT.of upd_same) (SqT.of ?_)) ⟨hkd, zs0, zs1, hsd, by dsimp only; omega, hk0, hk3, ris⟩
        have n1 : pt ≠ pw := ne_of_none upd_same npw
        rw [upd_ne n1]
        exact upd_same
end

/-- a list at l that grows beside the draws: its items stand in B, itself it doesn't -/
structure Acc (K : PySem.W.Frag) (ρ : RowP) (B0 B H : Hp) (l : Addr) (xs : List V) (ds : List PyData) : Prop where
  s : Same B0 B
  R : RowSt K ρ B H
  bl : B l = none
  el : H l = some (.lst xs)
  dx : DpAll K B xs ds
  nr : ρ.r ≠ l
def del1 (H : Hp) (a : Addr) : Hp := fun b => if b = a then none else H b
theorem del1_ne {H : Hp} {a b : Addr} (h : b ≠ a) : del1 H a b = H b := if_neg h
theorem del1_same {H : Hp} {a : Addr} : del1 H a a = none := if_pos rfl
theorem same_del {B B' : Hp} {l : Addr} (s : Same B B') (h : B l = none) : Same B (del1 B' l) := fun b o e => by
  rw [del1_ne (ne_of_none e h)]
  exact s b o e
theorem sqt_del {K : PySem.W.Frag} {B : Hp} {l a : Addr} {xs ys : List V} (e : B l = some (.lst xs)) (h : SqT K B a ys) : SqT K (del1 B l) a ys := by
  rcases h with (h | ⟨o, h⟩) | h
  · refine .inl (.inl ?_)
    rw [del1_ne (fun z => by rw [z, e] at h; cases h)]
    exact h
  · refine .inl (.inr ⟨o, ?_⟩)
    rw [del1_ne (fun z => by rw [z, e] at h; cases h)]
    exact h
  · exact .inr h
theorem wish_del {K : PySem.W.Frag} {B : Hp} {l : Addr} {xs : List V} {v : V} {x : Wish} (e : B l = some (.lst xs)) (h : Dp K B v x.d) : Dp K (del1 B l) v x.d := by
  obtain ⟨a, t, rfl, h1, h2⟩ := wish_at h
  exact at_wish (sqt_del e h1) (sqt_del e h2)
section
variable {K : PySem.W.Frag} {ρ : RowP} {B0 B B' H H' : Hp} {l p : Addr} {xs : List V} {ds : List PyData} {o : HO}
theorem Acc.now (A : Acc K ρ B0 B H l xs ds) : RowSt K ρ (upd B l (.lst xs)) H := A.R.add A.el A.nr A.bl
theorem Acc.back (A : Acc K ρ B0 B H l xs ds) (R : RowSt K ρ (upd B l (.lst xs)) H') : Acc K ρ B0 B H' l xs ds :=
  ⟨A.s, R.less (same_new A.bl) A.R.scr, A.bl, R.same _ _ upd_same, A.dx, A.nr⟩
theorem Acc.back2 (A : Acc K ρ B0 B H l xs ds) (s : Same (upd B l (.lst xs)) B') (R : RowSt K ρ B' H') : Acc K ρ B0 (del1 B' l) H' l xs ds := by
  have s1 : Same B (del1 B' l) := same_del ((same_new A.bl).trans s) A.bl
  exact ⟨A.s.trans s1, R.less (fun b o e => by
    by_cases hb : b = l
    · rw [hb, del1_same] at e
      cases e
    · rw [del1_ne hb] at e
      exact e) (Same.l s1 A.R.scr), del1_same, R.same _ _ (s _ _ upd_same), dps_mono s1 A.dx, A.nr⟩
theorem Acc.grow (A : Acc K ρ B0 B H l xs ds) (h : H p = none) : Acc K ρ B0 (upd B p o) (upd H p o) l xs ds := by
  have n : l ≠ p := ne_of_none A.el h
  have z := A.R.same.free h
  exact ⟨A.s.trans (same_new z), A.R.grow h, by rw [upd_ne n]; exact A.bl, by rw [upd_ne n]; exact A.el, dps_mono (same_new z) A.dx, A.nr⟩
theorem Acc.app {v : V} {d : PyData} (A : Acc K ρ B0 B H l xs ds) (h : Dp K B v d) : Acc K ρ B0 B (upd H l (.lst (xs ++ [v]))) l (xs ++ [v]) (ds ++ [d]) :=
  ⟨A.s, A.R.put A.nr A.bl, A.bl, upd_same, dps_app A.dx (.cons h .nil), A.nr⟩
theorem Acc.start (s : Same B0 B) (R : RowSt K ρ B H) (h : H l = none) : Acc K ρ B0 B (upd H l (.lst [])) l [] [] :=
  ⟨s, R.new h, R.same.free h, upd_same, .nil, R.nr h⟩
/-- it is finished: B may know it -/
theorem Acc.done (A : Acc K ρ B0 B H l xs ds) : RowSt K ρ (upd B l (.lst xs)) H ∧ Same B0 (upd B l (.lst xs)) ∧ SqL K (upd B l (.lst xs)) l xs ∧ DpAll K (upd B l (.lst xs)) xs ds :=
  ⟨A.now, A.s.trans (same_new A.bl), SqL.of upd_same, dps_mono (same_new A.bl) A.dx⟩
end
section
variable {P : Program} {w : World} {K : PySem.W.Frag} {mg : Str → Option Value} {base : Heap}
def spStore (K : PySem.W.Frag) : Sp := fun vs H Q _ => ∃ (ρ : RowP) (B : Hp), vs = [.ref ρ.r] ∧ RowSt K ρ B H ∧
  ∀ v B' H' (S : Sto), Same B B' → RowSt K ρ B' H' → Dp K B' v S.d → StoOk S → Q v H'
/-! _law_store: 0 _law_row, 1 _law_shelves, 2 _law_k, 3 _law_room, 4 _law_aisle, 5 _law_many, 6 _law_wishes -/
abbrev s__law_store : Stmt := topS 36
abbrev N__law_store : List Str := ["_law_row", "_law_shelves", "_law_k", "_law_room", "_law_aisle", "_law_many", "_law_wishes"]
theorem sc__law_store : FnScope N__law_store ["_law_row"] (defScope s__law_store) := ⟨rfl, rfl, rfl, by decide +kernel, rfl, by decide +kernel, by decide +kernel⟩
theorem ok__law_store {f f1 f2 : Addr} {fd fd1 fd2 : FuncData} (D : Dfs K mg "_law_store" s__law_store ["_law_row"] f fd) (T : Tx K mg) (C__law_taken : Cal P w K mg base 1 "_law_taken" ["_law_row", "_law_many"] (spTaken K) f1 fd1)
    (C__law_wish : Cal P w K mg base 2 "_law_wish" ["_law_row", "_law_shelves", "_law_many"] (spWish K) f2 fd2) :
    Cal P w K mg base 3 "_law_store" ["_law_row"] (spStore K) f fd := by
  refine D.cal (D.F.ok sc__law_store (fun vs H Q E h => ?_) (fun cdv A outer s H vs Q E hr h => ?_))
  · obtain ⟨ρ, B, rfl, _⟩ := h
    rfl
  · obtain ⟨ρ, B, rfl, R, q⟩ := h
    refine ⟨_, (pss_cons (ps_set (i := 1) sc__law_store.nd rfl (Or.inl rfl) (pe_lst pa_nil))
      (pss_cons (ps_for PassesOwn.never rfl (pi_range1 (by rfl) T.n_range (pa_cons (pe_op op_add pe_int (pe_call C__law_taken.G (hr.mono (by decide)) (by rfl) C__law_taken.g C__law_taken.kp C__law_taken.b .nil pass0 (pa_cons (pv 0) (pa_cons pe_int pa_nil)))) pa_nil)) (pg_name (i := 2) sc__law_store.nd rfl (Or.inl rfl)) (pss_cons (ps_set (i := 3) sc__law_store.nd rfl (Or.inl rfl) (pe_ix (kix_list (K := K)) (pe_lst (pa_cons (pe_op op_add pe_int (pe_call C__law_taken.G (hr.mono (by decide)) (by rfl) C__law_taken.g C__law_taken.kp C__law_taken.b .nil pass0 (pa_cons (pv 0) (pa_cons pe_int pa_nil)))) (pa_cons pe_int (pa_cons (pe_call C__law_taken.G (hr.mono (by decide)) (by rfl) C__law_taken.g C__law_taken.kp C__law_taken.b .nil pass0 (pa_cons (pv 0) (pa_cons pe_int pa_nil))) pa_nil)))) (pe_call C__law_taken.G (hr.mono (by decide)) (by rfl) C__law_taken.g C__law_taken.kp C__law_taken.b .nil pass0 (pa_cons (pv 0) (pa_cons pe_int pa_nil))) (fun _ _ => rfl)))
      (pss_one (ps_expr (pe_bm PySem.F.plainAttrs_list PySem.F.slot_list_append PySem.F.type_list_append mt_append (pv 1) (pa_cons (pe_tup (pa_cons (pv 3) (pa_cons (pe_call C__law_taken.G (hr.mono (by decide)) (by rfl) C__law_taken.g C__law_taken.kp C__law_taken.b .nil pass0 (pa_cons (pv 0) (pa_cons (pe_op op_add (pv 3) pe_int) pa_nil))) (pa_cons (pe_callTy call_int1 (by rfl) T.n_int (by decide +kernel) (pa_cons (pe_cmpR op_eq (pe_call C__law_taken.G (hr.mono (by decide)) (by rfl) C__law_taken.g C__law_taken.kp C__law_taken.b .nil pass0 (pa_cons (pv 0) (pa_cons pe_int pa_nil))) pe_int (nomark _)) pa_nil)) pa_nil)))) pa_nil))))))
      (pss_cons (ps_set (i := 4) sc__law_store.nd rfl (Or.inl rfl) (pe_call C__law_taken.G (hr.mono (by decide)) (by rfl) C__law_taken.g C__law_taken.kp C__law_taken.b .nil pass0 (pa_cons (pv 0) (pa_cons (pe_op op_add (pe_callB (klen (K := K)) (by rfl) T.n_len (by decide +kernel) (pa_cons (pv 1) pa_nil)) pe_int) pa_nil))))
      (pss_cons (ps_set (i := 5) sc__law_store.nd rfl (Or.inl rfl) (pe_ix (kix_list (K := K)) (pe_lst (pa_cons (pe_op op_add pe_int (pe_call C__law_taken.G (hr.mono (by decide)) (by rfl) C__law_taken.g C__law_taken.kp C__law_taken.b .nil pass0 (pa_cons (pv 0) (pa_cons pe_int pa_nil)))) (pa_cons (pe_call C__law_taken.G (hr.mono (by decide)) (by rfl) C__law_taken.g C__law_taken.kp C__law_taken.b .nil pass0 (pa_cons (pv 0) (pa_cons pe_int pa_nil))) pa_nil))) (pe_call C__law_taken.G (hr.mono (by decide)) (by rfl) C__law_taken.g C__law_taken.kp C__law_taken.b .nil pass0 (pa_cons (pv 0) (pa_cons pe_int pa_nil))) (fun _ _ => rfl)))
      (C8.pss_cut (ps_if (PW.pt (pw_and (pt_cmpR op_eq (pv 5) pe_int (nomark _)) (pw_and1 (pt_cmpR op_gt (pe_callB (klen (K := K)) (by rfl) T.n_len (by decide +kernel) (pa_cons (pv 1) pa_nil)) pe_int (nomark _))))) (pss_one (ps_set (i := 5) sc__law_store.nd rfl (Or.inl rfl) (pe_op op_add pe_int (pe_callTy call_int1 (by rfl) T.n_int (by decide +kernel) (pa_cons (pe_cmpR op_eq (pe_call C__law_taken.G (hr.mono (by decide)) (by rfl) C__law_taken.g C__law_taken.kp C__law_taken.b .nil pass0 (pa_cons (pv 0) (pa_cons pe_int pa_nil))) pe_int (nomark _)) pa_nil))))) pss_nil)
      (pss_cons (ps_set (i := 6) sc__law_store.nd rfl (Or.inl rfl) (pe_lst pa_nil))
      (pss_cons (ps_for PassesOwn.never rfl (pi_range1 (by rfl) T.n_range (pa_cons (pv 5) pa_nil)) (pg_name (i := 2) sc__law_store.nd rfl (Or.inl rfl)) (pss_one (ps_expr (pe_bm PySem.F.plainAttrs_list PySem.F.slot_list_append PySem.F.type_list_append mt_append (pv 6) (pa_cons (pe_call C__law_wish.G (hr.mono (by decide)) (by rfl) C__law_wish.g C__law_wish.kp C__law_wish.b .nil pass0 (pa_cons (pv 0) (pa_cons (pe_callB (klen (K := K)) (by rfl) T.n_len (by decide +kernel) (pa_cons (pv 1) pa_nil)) (pa_cons (pe_ix (kix_list (K := K)) (pe_lst (pa_cons (pv 2) (pa_cons (pv 5) pa_nil))) (pe_callTy call_int1 (by rfl) T.n_int (by decide +kernel) (pa_cons (pe_cmpR op_eq (pe_call C__law_taken.G (hr.mono (by decide)) (by rfl) C__law_taken.g C__law_taken.kp C__law_taken.b .nil pass0 (pa_cons (pv 0) (pa_cons pe_int pa_nil))) pe_int (nomark _)) pa_nil)) (fun _ _ => rfl)) pa_nil)))) pa_nil)))))
      (pss_one (ps_ret (pe_tup (pa_cons (pv 1) (pa_cons (pv 4) (pa_cons (pv 6) pa_nil))))))))))))), ?_⟩
    -- shelves = []
    refine ⟨small (by simp), fun l nl => ?_⟩
    have A0 : Acc K ρ B B (upd H l (.lst [])) l [] [] := Acc.start (Same.refl _) R nl
    -- for k in range(1 + taken(row, 5))
    refine ⟨_, rfl, ρ, 5, _, rfl, by decide, A0.now, fun z H1 z0 z1 R1 => ⟨1, z, rfl, rfl, _, rfl, by omega, by omega, ?_⟩⟩
    refine for_range (lo := 0) (n := (1 + z).toNat) (fun i σ H' => ∃ (B' : Hp) (xs : List V) (ss : List Shelf) (v2 v3 : Option V), σ = [some (.ref ρ.r), some (.ref l), v2, v3, none, none, none] ∧ Acc K ρ B B' H' l xs (dshelves ss) ∧ (∀ s ∈ ss, ShelfOk s) ∧ ss.length = i)
      ⟨B, [], [], none, none, rfl, A0.back R1, fun s h => absurd h (by simp), rfl⟩ ?_ ?_
    · rintro i σ H2 hi ⟨B2, xs, ss, v2, v3, rfl, A2, hss, hlen⟩
      -- room
      refine ⟨_, rfl, ρ, 3, _, rfl, by decide, A2.now, fun a H3 a0 a1 R3 => ⟨1, a, rfl, rfl, _, rfl, ρ, 10, _, rfl, by decide, R3, fun b H4 b0 b1 R4 => ⟨small (by simp), fun p np => ⟨_, rfl, ρ, 3, _, rfl, by decide, R4.grow np, fun c H5 c0 c1 R5 => ?_⟩⟩⟩⟩
      obtain ⟨v, hv, _, hmem⟩ := atI_mem (xs := [V.int (1 + a), V.int 9, V.int b]) c0 c1
      obtain ⟨room, rfl, hr0, hr9⟩ : ∃ c : Int, v = V.int c ∧ 0 ≤ c ∧ c ≤ 9 := by
        simp only [List.mem_cons, List.not_mem_nil, or_false] at hmem
        rcases hmem with rfl | rfl | rfl
        · exact ⟨_, rfl, by omega, by omega⟩
        · exact ⟨_, rfl, by omega, by omega⟩
        · exact ⟨_, rfl, by omega, by omega⟩
      refine ⟨p, _, c, _, rfl, rfl, SqL.of (R5.same _ _ upd_same), hv, ?_⟩
      have n1 : B2 p = none := (A2.back R4).R.same.free np
      have A5 : Acc K ρ B B2 H5 l xs (dshelves ss) := A2.back (R5.less (same_new (R4.same.free np)) A2.now.scr)
      -- shelves.append((room, taken(row, room + 1), int(taken(row, 9) == 8)))
      refine ⟨_, rfl, .inl ⟨rfl, _, SqL.of A5.el⟩, _, rfl, _, rfl, _, rfl, room, 1, rfl, rfl, ρ, room + 1, _, rfl, by omega, A5.now, fun h H6 h0 h1 R6 => ⟨_, rfl, ρ, 9, _, rfl, by decide, R6, fun t H7 t0 t1 R7 => ⟨rfl, .inr ⟨_, rfl, small (by simp), fun p2 np2 => ?_⟩⟩⟩⟩
      have hst : (if decide (V.int t = V.int 8) = true then (1 : Int) else 0) = 0 ∨ (if decide (V.int t = V.int 8) = true then (1 : Int) else 0) = 1 := by
        split
        · exact .inr rfl
        · exact .inl rfl
      generalize (if decide (V.int t = V.int 8) = true then (1 : Int) else 0) = st at hst
      have A7 := (A5.back R7).grow (o := .tup [.int room, .int h, .int st]) np2
      have A8 := A7.app (v := .ref p2) (d := Shelf.d ⟨room, h, st⟩) (at_shelf (SqT.of upd_same))
      refine ⟨l, xs, _, rfl, rfl, A7.el, ?_, ?_⟩
      · have e := dps_len A7.dx
        have e2 : (dshelves ss).length = ss.length := List.length_map ..
        exact small1000 (by omega)
      · refine ⟨upd B2 p2 (.tup [.int room, .int h, .int st]), xs ++ [.ref p2], ss ++ [⟨room, h, st⟩], _, _, rfl, ?_, ?_, by rw [List.length_append]; exact congrArg (· + 1) hlen⟩
        · have e : dshelves (ss ++ [⟨room, h, st⟩]) = dshelves ss ++ [Shelf.d ⟨room, h, st⟩] := List.map_append ..
          rw [e]
          exact A8
        · intro x hx
          rcases List.mem_append.mp hx with hx | hx
          · exact hss x hx
          · rw [List.mem_singleton] at hx
            subst hx
            exact ⟨h0, by dsimp only; omega, hr9, hst⟩
    · rintro σ H2 ⟨B2, xs, ss, v2, v3, rfl, A2, hss, hlen⟩
      have hxl : xs.length = ss.length := (dps_len A2.dx).trans (List.length_map ..)
      -- aisle = taken(row, len(shelves) + 1)
      refine ⟨_, rfl, _, rfl, l, xs, rfl, .inl (SqL.of A2.el), _, 1, rfl, rfl, ρ, _, _, rfl, by omega, A2.now, fun ai H3 ai0 ai1 R3 => ?_⟩
      -- many = [1 + taken(row, 3), taken(row, 6)][taken(row, 2)]
      refine ⟨_, rfl, ρ, 3, _, rfl, by decide, R3, fun a H4 a0 a1 R4 => ⟨1, a, rfl, rfl, _, rfl, ρ, 6, _, rfl, by decide, R4, fun b H5 b0 b1 R5 => ⟨small (by simp), fun p np => ⟨_, rfl, ρ, 2, _, rfl, by decide, R5.grow np, fun c H6 c0 c1 R6 => ?_⟩⟩⟩⟩
      obtain ⟨v, hv, _, hmem⟩ := atI_mem (xs := [V.int (1 + a), V.int b]) c0 c1
      obtain ⟨many, rfl, hm0, hm5⟩ : ∃ c : Int, v = V.int c ∧ 0 ≤ c ∧ c ≤ 5 := by
        simp only [List.mem_cons, List.not_mem_nil, or_false] at hmem
        rcases hmem with rfl | rfl
        · exact ⟨_, rfl, by omega, by omega⟩
        · exact ⟨_, rfl, by omega, by omega⟩
      refine ⟨p, _, c, _, rfl, rfl, SqL.of (R6.same _ _ upd_same), hv, ?_⟩
      have A6 : Acc K ρ B B2 H6 l xs (dshelves ss) := A2.back (R6.less (same_new (R5.same.free np)) A2.now.scr)
      -- if many == 5 and len(shelves) > 3
      refine ⟨fun σ H' => ∃ (many : Int), σ = [some (.ref ρ.r), some (.ref l), v2, v3, some (.int ai), some (.int many), none] ∧ Acc K ρ B B2 H' l xs (dshelves ss) ∧ 0 ≤ many ∧ many ≤ 5, ?_, ?_⟩
      · refine ⟨_, rfl, rfl, _, rfl, ite2 (fun e => ?_) (fun e => ?_)⟩
        · refine ⟨_, rfl, l, xs, rfl, .inl (SqL.of A6.el), _, 3, rfl, rfl, _, rfl, ite2 (fun e2 => ?_) (fun e2 => ?_)⟩
          · refine ⟨_, rfl, ρ, 4, _, rfl, by decide, A6.now, fun t H7 t0 t1 R7 => ⟨rfl, .inr ⟨_, rfl, 4, _, rfl, rfl, _, rfl, A6.back R7, ?_, ?_⟩⟩⟩
            · have := (b2z (decide (V.int t = V.int 3))).1
              omega
            · have := (b2z (decide (V.int t = V.int 3))).2
              omega
          · exact ⟨many, rfl, A6, hm0, hm5⟩
        · exact ⟨many, rfl, A6, hm0, hm5⟩
      · rintro σ H7 ⟨many, rfl, A7, hm0, hm5⟩
        obtain ⟨R7, s7, l7, d7⟩ := A7.done
        -- wishes = []
        refine ⟨small (by simp), fun m nm => ?_⟩
        have W0 : Acc K ρ (upd B2 l (.lst xs)) (upd B2 l (.lst xs)) (upd H7 m (.lst [])) m [] [] := Acc.start (Same.refl _) R7 nm
        -- for k in range(many)
        refine ⟨_, rfl, many, rfl, by omega, by omega, for_range (lo := 0) (n := many.toNat) (fun i σ H' => ∃ (B' : Hp) (ys : List V) (ws : List Wish) (v2 : Option V), σ = [some (.ref ρ.r), some (.ref l), v2, v3, some (.int ai), some (.int many), some (.ref m)] ∧ Acc K ρ (upd B2 l (.lst xs)) B' H' m ys (dwishes ws) ∧ (∀ x ∈ ws, WishOk ss.length many x) ∧ ws.length = i)
          ⟨_, [], [], v2, rfl, W0, fun s h => absurd h (by simp), rfl⟩ ?_ ?_⟩
        · rintro i σ H8 hi ⟨B8, ys, ws, v2, rfl, A8, hws, hwl⟩
          have l8 : SqL K B8 l xs := Same.l A8.s l7
          -- wishes.append(wish(row, len(shelves), [k, many][int(taken(row, 12) == 11)]))
          refine ⟨_, rfl, .inl ⟨rfl, _, SqL.of A8.el⟩, _, rfl, _, rfl, l, xs, rfl, .inl (Same.l A8.R.same l8), _, rfl, _, rfl, small (by simp), fun p np => ⟨_, rfl, ρ, 12, _, rfl, by decide, A8.now.grow np, fun t H9 t0 t1 R9 => ⟨rfl, .inr ⟨_, rfl, ?_⟩⟩⟩⟩
          obtain ⟨x0, x1⟩ := b2z (decide (V.int t = V.int 11))
          obtain ⟨v, hv, _, hmem⟩ := atI_mem (xs := [V.int (0 + (i : Int)), V.int many]) x0 x1
          obtain ⟨c, rfl, hc0, hc1⟩ : ∃ c : Int, v = V.int c ∧ 0 ≤ c ∧ c ≤ many := by
            simp only [List.mem_cons, List.not_mem_nil, or_false] at hmem
            rcases hmem with rfl | rfl
            · exact ⟨_, rfl, by omega, by omega⟩
            · exact ⟨_, rfl, by omega, by omega⟩
          have A9 : Acc K ρ _ B8 H9 m ys (dwishes ws) := A8.back (R9.less (same_new (A8.now.same.free np)) A8.now.scr)
          refine ⟨p, _, _, _, rfl, rfl, SqL.of (R9.same _ _ upd_same), hv, ρ, xs.length, c, _, rfl, by omega, hc0, by omega, A9.now, fun v B10 H10 x s10 R10 d10 hx => ?_⟩
          have A10 := A9.back2 s10 R10
          have A11 := A10.app (wish_del (s10 _ _ upd_same) d10)
          refine ⟨m, ys, _, rfl, rfl, A10.el, ?_, ?_⟩
          · have e := dps_len A10.dx
            have e2 : (dwishes ws).length = ws.length := List.length_map ..
            exact small1000 (by omega)
          · refine ⟨del1 B10 m, ys ++ [v], ws ++ [x], _, rfl, ?_, ?_, by rw [List.length_append]; exact congrArg (· + 1) hwl⟩
            · have e : dwishes (ws ++ [x]) = dwishes ws ++ [x.d] := List.map_append ..
              rw [e]
              exact A11
            · intro y hy
              rcases List.mem_append.mp hy with hy | hy
              · exact hws y hy
              · rw [List.mem_singleton] at hy
                subst hy
                rw [hxl] at hx
                exact ⟨hx.kind, hx.s0, hx.s1, hx.side, hx.crew, hx.k0, hx.k3, hx.after.more hc1⟩
        · rintro σ H8 ⟨B8, ys, ws, v2, rfl, A8, hws, hwl⟩
          obtain ⟨R8, s8, l8, d8⟩ := A8.done
          -- return (shelves, aisle, wishes)
          refine ⟨_, rfl, _, rfl, _, rfl, small (by simp), fun p np => ?_⟩
          have z := R8.same.free np
          have e1 : Same (upd B2 l (.lst xs)) (upd (upd B8 m (.lst ys)) p (.tup [.ref l, .int ai, .ref m])) := s8.trans (same_new z)
          refine q _ _ _ ⟨ss, ai, ws⟩ (s7.trans e1) (R8.grow np) (StoAt.d (l := l) (m := m) (xs := xs) (ys := ys) ⟨SqT.of upd_same, Same.l e1 l7, dps_mono e1 d7, Same.l (same_new z) l8, dps_mono (same_new z) d8⟩) ?_
          have hws' : ∀ x ∈ ws, WishOk ss.length ws.length x := fun x hx => by
            have e : (ws.length : Int) = many := by omega
            rw [e]
            exact hws x hx
          exact ⟨by dsimp only; omega, by dsimp only; omega, hss, ai0, by dsimp only; omega, by dsimp only; omega, hws'⟩
end

/-! ## stores -/
structure Tc (K : PySem.W.Frag) (mg : Str → Option Value) : Prop where
  c_MOST_SHELVES : ∃ t, mg "MOST_SHELVES" = some (.int 5 t)
  c_MOST_ROOM : ∃ t, mg "MOST_ROOM" = some (.int 9 t)
  c_MOST_WISHES : ∃ t, mg "MOST_WISHES" = some (.int 5 t)
  c_MOST_KEEP : ∃ t, mg "MOST_KEEP" = some (.int 3 t)
  c_KINDS : ∃ a, mg "KINDS" = some (.ref a) ∧ ∀ H, SqT K H a [.str "fetch", .str "bring"]
  c_SIDES : ∃ a, mg "SIDES" = some (.ref a) ∧ ∀ H, SqT K H a [.str "left", .str "right", .str "any"]
structure TSx (K : PySem.W.Frag) (mg : Str → Option Value) (C fI fS fW : Addr) (fdI fdS fdW : FuncData) : Prop where
  cl : Cls K C
  mkS : Mk K C fI
  g : mg "Store" = some (.ref C)
  nS : NoAttr K C "_shelves"
  nW : NoAttr K C "_wishes"
  nA : NoAttr K C "aisle"
  m_shelves : Meth K C "shelves" fS
  m_wishes : Meth K C "wishes" fW
  b_init : Binds K fdI ["self", "shelves", "aisle", "wishes"] []
  b_shelves : Binds K fdS ["self"] []
  b_wishes : Binds K fdW ["self"] []
def fsS (l m : Addr) (a : Int) : List (Str × V) := putF "aisle" (.int a) (putF "_wishes" (.ref m) (putF "_shelves" (.ref l) []))
theorem neWS : ¬ (("_shelves" : Str) = "_wishes") := by decide +kernel
theorem neSA : ¬ (("_shelves" : Str) = "aisle") := by decide +kernel
theorem neWA : ¬ (("_wishes" : Str) = "aisle") := by decide +kernel
theorem nshA : ¬ (("shelves" : Str) = "aisle") := by decide +kernel
theorem nshW : ¬ (("shelves" : Str) = "_wishes") := by decide +kernel
theorem nshS : ¬ (("shelves" : Str) = "_shelves") := by decide +kernel
theorem nwiA : ¬ (("wishes" : Str) = "aisle") := by decide +kernel
theorem nwiW : ¬ (("wishes" : Str) = "_wishes") := by decide +kernel
theorem nwiS : ¬ (("wishes" : Str) = "_shelves") := by decide +kernel
theorem fsS_sh {l m : Addr} {a : Int} : (fsS l m a).lookup ("_shelves" : Str) = some (.ref l) := by
  unfold fsS
  rw [lookup_putF, if_neg neSA, lookup_putF, if_neg neWS, lookup_putF, if_pos rfl]
theorem fsS_wi {l m : Addr} {a : Int} : (fsS l m a).lookup ("_wishes" : Str) = some (.ref m) := by
  unfold fsS
  rw [lookup_putF, if_neg neWA, lookup_putF, if_pos rfl]
theorem fsS_ai {l m : Addr} {a : Int} : (fsS l m a).lookup ("aisle" : Str) = some (.int a) := by
  unfold fsS
  rw [lookup_putF, if_pos rfl]
theorem fsS_m1 {l m : Addr} {a : Int} : (fsS l m a).lookup ("shelves" : Str) = none := by
  unfold fsS
  rw [lookup_putF, if_neg nshA, lookup_putF, if_neg nshW, lookup_putF, if_neg nshS]
  rfl
theorem fsS_m2 {l m : Addr} {a : Int} : (fsS l m a).lookup ("wishes" : Str) = none := by
  unfold fsS
  rw [lookup_putF, if_neg nwiA, lookup_putF, if_neg nwiW, lookup_putF, if_neg nwiS]
  rfl
theorem putF_len (f : Str) (v : V) : ∀ fs : List (Str × V), (putF f v fs).length ≤ fs.length + 1
  | [] => Nat.le_refl _
  | (g, x) :: r => by
    unfold putF
    split
    · exact Nat.le_succ _
    · exact Nat.succ_le_succ (putF_len f v r)
/-- the store's object -/
structure ObAt (K : PySem.W.Frag) (C : Addr) (H : Hp) (p dx l m : Addr) (xs ys : List V) (S : Sto) : Prop where
  o : H p = some (.ins C dx (fsS l m S.aisle))
  l : SqL K H l xs
  dx : DpAll K H xs (dshelves S.shelves)
  m : SqL K H m ys
  dy : DpAll K H ys (dwishes S.wishes)
def Ob (K : PySem.W.Frag) (C : Addr) (H : Hp) (p : Addr) (S : Sto) : Prop := ∃ dx l m xs ys, ObAt K C H p dx l m xs ys S
theorem Ob.mono {K : PySem.W.Frag} {C : Addr} {H H' : Hp} {p : Addr} {S : Sto} (s : Same H H') : Ob K C H p S → Ob K C H' p S := by
  rintro ⟨dx, l, m, xs, ys, h⟩
  exact ⟨dx, l, m, xs, ys, s _ _ h.o, Same.l s h.l, dps_mono s h.dx, Same.l s h.m, dps_mono s h.dy⟩
theorem rising_iff {lo n i : Int} {l : List Int} : Rising lo n (i :: l) ↔ lo ≤ i ∧ i < n ∧ Rising (i + 1) n l := Iff.rfl
section
variable {P : Program} {w : World} {K : PySem.W.Frag} {mg : Str → Option Value} {base : Heap}
def spRising (K : PySem.W.Frag) : Sp := fun vs H Q _ => ∃ (t : Addr) (l : List Int) (m : Int), vs = [.ref t, .int m] ∧ SqT K H t (l.map V.int) ∧ ∀ b, (b = true ↔ Rising 0 m l) → Q (.bl b) H
/-! _is_rising: 0 numbers, 1 many, 2 lowest, 3 number -/
abbrev s__is_rising : Stmt := topS 32
abbrev N__is_rising : List Str := ["numbers", "many", "lowest", "number"]
theorem sc__is_rising : FnScope N__is_rising ["numbers", "many"] (defScope s__is_rising) := ⟨rfl, rfl, rfl, by decide +kernel, rfl, by decide +kernel, by decide +kernel⟩
theorem ok__is_rising {f : Addr} {fd : FuncData} (D : Dfs K mg "_is_rising" s__is_rising ["numbers", "many"] f fd) : Cal P w K mg base 1 "_is_rising" ["numbers", "many"] (spRising K) f fd := by
  refine D.cal (D.F.ok sc__is_rising (fun vs H Q E h => ?_) (fun cdv A outer s H vs Q E hr h => ?_))
  · obtain ⟨t, l, m, rfl, _⟩ := h
    rfl
  · obtain ⟨t, l, m, rfl, ht, q⟩ := h
    refine ⟨_, (pss_cons (ps_set (i := 2) sc__is_rising.nd rfl (Or.inl rfl) pe_int)
      (pss_cons (ps_for PassesOwn.never rfl (pi_tup (pv 0)) (pg_name (i := 3) sc__is_rising.nd rfl (Or.inl rfl)) (pss_cons (ps_if (pt_not (pt_chain op_le op_lt (pv 2) (pv 3) (pv 1))) (pss_one (ps_ret pe_bl)) pss_nil)
      (pss_one (ps_set (i := 2) sc__is_rising.nd rfl (Or.inl rfl) (pe_op op_add (pv 3) pe_int)))))
      (pss_one (ps_ret pe_bl)))), ?_⟩
    refine ⟨_, rfl, t, rfl, ⟨_, ht⟩, for_tup (K := K) (a := t) (xs := l.map V.int) (fun i σ H' => ∃ (lo : Int) (v : Option V), σ = [some (.ref t), some (.int m), some (.int lo), v] ∧ H' = H ∧ (Rising 0 m l ↔ Rising lo m (l.drop i)))
      ⟨0, none, rfl, rfl, Iff.rfl⟩ (fun i σ H' _ ⟨_, _, _, e, _⟩ => by rw [e]; exact ht) ?_ ?_⟩
    · rintro i y σ H' hi ⟨lo, v, rfl, rfl, hri⟩
      obtain ⟨z, hz, rfl⟩ : ∃ z, l[i]? = some z ∧ y = V.int z := by
        rw [List.getElem?_map] at hi
        cases e : l[i]? with
        | none =>
          rw [e] at hi
          cases hi
        | some z =>
          rw [e] at hi
          exact ⟨z, rfl, (Option.some.inj hi).symm⟩
      have hd : l.drop i = z :: l.drop (i + 1) := by
        obtain ⟨h1, h2⟩ := List.getElem?_eq_some_iff.mp hz
        rw [List.drop_eq_getElem_cons h1, h2]
      rw [hd, rising_iff] at hri
      refine ⟨_, rfl, _, rfl, _, _, rfl, rfl, _, rfl, ite2 (fun e => ?_) (fun e => ?_)⟩
      · have e1 := yed e
        refine ⟨_, rfl, _, _, rfl, rfl, _, rfl, ite2 (fun e => ?_) (fun e => ?_)⟩
        · have e2 : ¬ z < m := by
            intro z2
            rw [decide_eq_true z2] at e
            cases e
          exact q false ⟨fun h => absurd h (by decide), fun h => absurd (hri.mp h).2.1 e2⟩
        · have e2 : z < m := by
            by_cases z2 : z < m
            · exact z2
            · rw [decide_eq_false z2] at e
              exact absurd rfl e
          refine ⟨_, rfl, _, _, rfl, rfl, z + 1, some (.int z), rfl, rfl, ?_⟩
          exact hri.trans ⟨fun h => h.2.2, fun h => ⟨e1, e2, h⟩⟩
      · have e1 := nod e
        refine ⟨_, rfl, iteT ?_⟩
        exact q false ⟨fun h => absurd h (by decide), fun h => absurd (hri.mp h).1 e1⟩
    · rintro σ H' ⟨lo, v, rfl, rfl, hri⟩
      rw [List.length_map, List.drop_length] at hri
      exact q true ⟨fun _ => hri.mpr trivial, fun _ => rfl⟩
def spIsShelf (K : PySem.W.Frag) : Sp := fun vs H Q _ => ∃ (v : V) (s : Shelf), vs = [v] ∧ Dp K H v s.d ∧ ∀ b H', (b = true ↔ ShelfOk s) → Same H H' → Q (.bl b) H'
/-! _is_shelf: 0 shelf, 1 room, 2 has, 3 sticks -/
abbrev s__is_shelf : Stmt := topS 30
abbrev N__is_shelf : List Str := ["shelf", "room", "has", "sticks"]
theorem sc__is_shelf : FnScope N__is_shelf ["shelf"] (defScope s__is_shelf) := ⟨rfl, rfl, rfl, by decide +kernel, rfl, by decide +kernel, by decide +kernel⟩
theorem ok__is_shelf {f : Addr} {fd : FuncData} (D : Dfs K mg "_is_shelf" s__is_shelf ["shelf"] f fd) (T : Tx K mg) (Tk : Tc K mg) : Cal P w K mg base 1 "_is_shelf" ["shelf"] (spIsShelf K) f fd := by
  obtain ⟨_, g_MOST_ROOM⟩ := Tk.c_MOST_ROOM
  refine D.cal (D.F.ok sc__is_shelf (fun vs H Q E h => ?_) (fun cdv A outer s H vs Q E hr h => ?_))
  · obtain ⟨v, S, rfl, _⟩ := h
    rfl
  · obtain ⟨v, S, rfl, hv, q⟩ := h
    obtain ⟨a, rfl, ha⟩ := shelf_at hv
    refine ⟨_, (pss_cons (ps_if (PW.pt (pw_or (pt_not (pt_val (pe_callB (kisi (K := K)) (by rfl) T.n_isinstance (by decide +kernel) (pa_cons (pv 0) (pa_cons (pe_bltn (v := .ty "tuple") (by rfl) T.n_tuple boot_tuple rfl) pa_nil))))) (pw_or1 (pt_cmpR op_ne (pe_callB (klen (K := K)) (by rfl) T.n_len (by decide +kernel) (pa_cons (pv 0) pa_nil)) pe_int (nomark _))))) (pss_one (ps_ret pe_bl)) pss_nil)
      (pss_cons (ps_asg (pv 0) (pg_tup (by rfl) (pgs_cons (pg_name (i := 1) sc__is_shelf.nd rfl (Or.inl rfl)) (pgs_cons (pg_name (i := 2) sc__is_shelf.nd rfl (Or.inl rfl)) (pgs_cons (pg_name (i := 3) sc__is_shelf.nd rfl (Or.inl rfl)) pgs_nil)))))
      (pss_one (ps_ret (pe_and (pe_chain3 op_le op_le op_le pe_int (pv 2) (pv 1) (pe_glob (v := .int 9) (by rfl) g_MOST_ROOM ⟨_, rfl⟩)) (pe_one (pe_cmpR (kin_seq (K := K)) (pv 3) (pe_tup (pa_cons pe_int (pa_cons pe_int pa_nil))) (by rfl)))))))), ?_⟩
    refine ⟨_, rfl, _, _, _, _, true, rfl, .ty "tuple", tyx_tup ha, kit_ty (by decide +kernel), _, rfl, iteF ⟨_, rfl, a, _, rfl, .inr ha, rfl, _, rfl, iteF ?_⟩⟩
    refine ⟨_, rfl, a, _, rfl, ha, rfl, _, _, rfl, _, _, rfl, _, _, rfl, rfl, ?_⟩
    refine ⟨_, rfl, _, _, rfl, rfl, _, rfl, ite2 (fun e => ?_) (fun e => ?_)⟩
    · have e1 := yed e
      refine ⟨_, rfl, _, _, rfl, rfl, _, rfl, ite2 (fun e => ?_) (fun e => ?_)⟩
      · have e2 := yed e
        refine ⟨_, _, rfl, rfl, _, rfl, ite2 (fun e => ?_) (fun e => ?_)⟩
        · have e3 := yed e
          refine ⟨_, rfl, small (by simp), fun p np => ⟨p, _, rfl, .inr tup_new, rfl, rfl, ?_⟩⟩
          refine q _ _ ?_ (same_new np)
          show inV (.int S.sticks) [.int 0, .int 1] = true ↔ _
          unfold inV
          simp only [List.any_cons, List.any_nil, Bool.or_false, Bool.or_eq_true]
          constructor
          · intro h
            refine ⟨e1, e2, e3, ?_⟩
            rcases h with h | h
            · exact .inl (by simpa [eqV] using Eq.symm (of_decide_eq_true h))
            · exact .inr (by simpa [eqV] using Eq.symm (of_decide_eq_true h))
          · rintro ⟨_, _, _, h | h⟩
            · exact .inl (by rw [h]; rfl)
            · exact .inr (by rw [h]; rfl)
        · have e3 := nod e
          exact q false _ ⟨fun h => absurd h (by decide), fun h => absurd h.h2 e3⟩ (Same.refl _)
      · have e2 := nod e
        exact ⟨_, rfl, iteF (q false _ ⟨fun h => absurd h (by decide), fun h => absurd h.h1 e2⟩ (Same.refl _))⟩
    · have e1 := nod e
      exact ⟨_, rfl, iteF (q false _ ⟨fun h => absurd h (by decide), fun h => absurd h.h0 e1⟩ (Same.refl _))⟩
end

section
variable {P : Program} {w : World} {K : PySem.W.Frag} {mg : Str → Option Value} {base : Heap}
def spIsWish (K : PySem.W.Frag) : Sp := fun vs H Q _ => ∃ (v : V) (x : Wish) (n m : Int), vs = [v, .int n, .int m] ∧ Dp K H v x.d ∧ ∀ b H', (b = true ↔ WishOk n m x) → Same H H' → Q (.bl b) H'
/-! _is_wish: 0 wish, 1 many_shelves, 2 many_wishes, 3 kind, 4 shelf, 5 side, 6 crew, 7 keep, 8 after -/
abbrev s__is_wish : Stmt := topS 31
abbrev N__is_wish : List Str := ["wish", "many_shelves", "many_wishes", "kind", "shelf", "side", "crew", "keep", "after"]
theorem sc__is_wish : FnScope N__is_wish ["wish", "many_shelves", "many_wishes"] (defScope s__is_wish) := ⟨rfl, rfl, rfl, by decide +kernel, rfl, by decide +kernel, by decide +kernel⟩
theorem ok__is_wish {f f1 : Addr} {fd fd1 : FuncData} (D : Dfs K mg "_is_wish" s__is_wish ["wish", "many_shelves", "many_wishes"] f fd) (T : Tx K mg) (Tk : Tc K mg) (C__is_rising : Cal P w K mg base 1 "_is_rising" ["numbers", "many"] (spRising K) f1 fd1) :
    Cal P w K mg base 2 "_is_wish" ["wish", "many_shelves", "many_wishes"] (spIsWish K) f fd := by
  obtain ⟨_, g_MOST_KEEP⟩ := Tk.c_MOST_KEEP
  obtain ⟨a_KINDS, g_KINDS, hK⟩ := Tk.c_KINDS
  obtain ⟨a_SIDES, g_SIDES, hSd⟩ := Tk.c_SIDES
  refine D.cal (D.F.ok sc__is_wish (fun vs H Q E h => ?_) (fun cdv A outer s H vs Q E hr h => ?_))
  · obtain ⟨v, x, n, m, rfl, _⟩ := h
    rfl
  · obtain ⟨v, x, n, m, rfl, hv, q⟩ := h
    obtain ⟨a, t, rfl, ha, ht⟩ := wish_at hv
    obtain ⟨kind, shelf, side, crew, keep, after⟩ := x
    dsimp only at ha ht
    refine ⟨_, (pss_cons (ps_if (PW.pt (pw_or (pt_not (pt_val (pe_callB (kisi (K := K)) (by rfl) T.n_isinstance (by decide +kernel) (pa_cons (pv 0) (pa_cons (pe_bltn (v := .ty "tuple") (by rfl) T.n_tuple boot_tuple rfl) pa_nil))))) (pw_or1 (pt_cmpR op_ne (pe_callB (klen (K := K)) (by rfl) T.n_len (by decide +kernel) (pa_cons (pv 0) pa_nil)) pe_int (nomark _))))) (pss_one (ps_ret pe_bl)) pss_nil)
      (pss_cons (ps_asg (pv 0) (pg_tup (by rfl) (pgs_cons (pg_name (i := 3) sc__is_wish.nd rfl (Or.inl rfl)) (pgs_cons (pg_name (i := 4) sc__is_wish.nd rfl (Or.inl rfl)) (pgs_cons (pg_name (i := 5) sc__is_wish.nd rfl (Or.inl rfl)) (pgs_cons (pg_name (i := 6) sc__is_wish.nd rfl (Or.inl rfl)) (pgs_cons (pg_name (i := 7) sc__is_wish.nd rfl (Or.inl rfl)) (pgs_cons (pg_name (i := 8) sc__is_wish.nd rfl (Or.inl rfl)) pgs_nil))))))))
      (pss_cons (ps_if (PW.pt (pw_or (pt_cmpR (knotIn_seq (K := K)) (pv 3) (pe_glob (v := .ref a_KINDS) (by rfl) g_KINDS rfl) (by rfl)) (pw_or (pt_cmpR (knotIn_seq (K := K)) (pv 5) (pe_glob (v := .ref a_SIDES) (by rfl) g_SIDES rfl) (by rfl)) (pw_or1 (pt_cmpR (knotIn_seq (K := K)) (pv 6) (pe_tup (pa_cons pe_int (pa_cons pe_int pa_nil))) (by rfl)))))) (pss_one (ps_ret pe_bl)) pss_nil)
      (pss_cons (ps_if (PW.pt (pw_or (pt_not (pt_chain op_le op_lt pe_int (pv 4) (pv 1))) (pw_or1 (pt_not (pt_chain op_le op_le pe_int (pv 7) (pe_glob (v := .int 3) (by rfl) g_MOST_KEEP ⟨_, rfl⟩)))))) (pss_one (ps_ret pe_bl)) pss_nil)
      (pss_one (ps_ret (pe_and (pe_callB (kisi (K := K)) (by rfl) T.n_isinstance (by decide +kernel) (pa_cons (pv 8) (pa_cons (pe_bltn (v := .ty "tuple") (by rfl) T.n_tuple boot_tuple rfl) pa_nil))) (pe_one (pe_call C__is_rising.G (hr.mono (by decide)) (by rfl) C__is_rising.g C__is_rising.kp C__is_rising.b .nil pass0 (pa_cons (pv 8) (pa_cons (pv 2) pa_nil))))))))))), ?_⟩
    refine ⟨_, rfl, _, _, _, _, true, rfl, .ty "tuple", tyx_tup ha, kit_ty (by decide +kernel), _, rfl, iteF ⟨_, rfl, a, _, rfl, .inr ha, rfl, _, rfl, iteF ?_⟩⟩
    refine ⟨_, rfl, a, _, rfl, ha, rfl, _, _, rfl, _, _, rfl, _, _, rfl, _, _, rfl, _, _, rfl, _, _, rfl, rfl, ?_⟩
    have ik : inV (.str kind) [.str "fetch", .str "bring"] = true ↔ kind = "fetch" ∨ kind = "bring" := by
      have e := inV_strs (x := kind) (l := ["fetch", "bring"])
      rw [List.mem_cons, List.mem_singleton] at e
      exact e
    have isd : inV (.str side) [.str "left", .str "right", .str "any"] = true ↔ side = "left" ∨ side = "right" ∨ side = "any" := by
      have e := inV_strs (x := side) (l := ["left", "right", "any"])
      rw [List.mem_cons, List.mem_cons, List.mem_singleton] at e
      exact e
    have ic : inV (.int crew) [.int 0, .int 1] = true ↔ crew = 0 ∨ crew = 1 := by
      have e := inV_ints (x := crew) (l := [0, 1])
      rw [List.mem_cons, List.mem_singleton] at e
      exact e
    refine ⟨_, rfl, a_KINDS, _, rfl, .inr (hK _), rfl, rfl, _, rfl, ite2 (fun e => iteT ?_) (fun e => ?_)⟩
    · have e1 : ¬ (kind = "fetch" ∨ kind = "bring") := fun z => by
        have z2 := ik.mpr z
        rw [if_pos rfl, z2] at e
        cases e
      exact q false _ ⟨fun h => absurd h (by decide), fun h => absurd h.kind e1⟩ (Same.refl _)
    have k1 : kind = "fetch" ∨ kind = "bring" := ik.mp (by
      rw [if_pos rfl] at e
      cases z : inV (.str kind) [.str "fetch", .str "bring"] with
      | true => rfl
      | false => rw [z] at e; exact absurd rfl e)
    refine ⟨_, rfl, a_SIDES, _, rfl, .inr (hSd _), rfl, rfl, _, rfl, ite2 (fun e => iteT ?_) (fun e => ?_)⟩
    · have e1 : ¬ (side = "left" ∨ side = "right" ∨ side = "any") := fun z => by
        have z2 := isd.mpr z
        rw [if_pos rfl, z2] at e
        cases e
      exact q false _ ⟨fun h => absurd h (by decide), fun h => absurd h.side e1⟩ (Same.refl _)
    have s1 : side = "left" ∨ side = "right" ∨ side = "any" := isd.mp (by
      rw [if_pos rfl] at e
      cases z : inV (.str side) [.str "left", .str "right", .str "any"] with
      | true => rfl
      | false => rw [z] at e; exact absurd rfl e)
    refine ⟨_, rfl, small (by simp), fun p np => ⟨p, _, rfl, .inr tup_new, rfl, rfl, _, rfl, ite2 (fun e => ?_) (fun e => ?_)⟩⟩
    · have e1 : ¬ (crew = 0 ∨ crew = 1) := fun z => by
        have z2 := ic.mpr z
        rw [if_pos rfl, z2] at e
        cases e
      exact q false _ ⟨fun h => absurd h (by decide), fun h => absurd h.crew e1⟩ (same_new np)
    have c1 : crew = 0 ∨ crew = 1 := ic.mp (by
      rw [if_pos rfl] at e
      cases z : inV (.int crew) [.int 0, .int 1] with
      | true => rfl
      | false => rw [z] at e; exact absurd rfl e)
    -- 0 <= shelf < many_shelves
    refine ⟨_, rfl, _, _, rfl, rfl, _, rfl, ite2 (fun e => ?_) (fun e => ?_)⟩
    rotate_left
    · have e1 := nod e
      exact ⟨_, rfl, iteT (iteT (q false _ ⟨fun h => absurd h (by decide), fun h => absurd h.s0 e1⟩ (same_new np)))⟩
    have e1 := yed e
    refine ⟨_, rfl, _, _, rfl, rfl, _, rfl, ?_⟩
    by_cases e2 : shelf < n
    rotate_left
    · exact itnF e2 (iteT (q false _ ⟨fun h => absurd h (by decide), fun h => absurd h.s1 e2⟩ (same_new np)))
    refine iteNS e2 ?_
    -- 0 <= keep <= MOST_KEEP
    refine ⟨_, rfl, _, _, rfl, rfl, _, rfl, ite2 (fun e => ?_) (fun e => ?_)⟩
    rotate_left
    · have e3 := nod e
      exact ⟨_, rfl, iteT (q false _ ⟨fun h => absurd h (by decide), fun h => absurd h.k0 e3⟩ (same_new np))⟩
    have e3 := yed e
    refine ⟨_, _, rfl, rfl, _, rfl, ?_⟩
    by_cases e4 : keep ≤ 3
    rotate_left
    · exact itnF e4 (q false _ ⟨fun h => absurd h (by decide), fun h => absurd h.k3 e4⟩ (same_new np))
    refine iteNS e4 ?_
    have ht2 := Same.t (same_new (o := .tup [.int 0, .int 1]) np) ht
    refine ⟨_, rfl, _, _, _, _, true, rfl, .ty "tuple", tyx_tup ht2, kit_ty (by decide +kernel), _, rfl, iteT ?_⟩
    refine ⟨_, rfl, _, rfl, t, after, m, rfl, ht2, fun b hb => q b _ ?_ (same_new np)⟩
    rw [hb]
    exact ⟨fun h => ⟨k1, e1, e2, s1, c1, e3, e4, h⟩, fun h => h.after⟩
end

section
variable {P : Program} {w : World} {K : PySem.W.Frag} {mg : Str → Option Value} {base : Heap}
/-- the store that is handed in is one -/
def spRefuse0 (K : PySem.W.Frag) : Sp := fun vs H Q _ => ∃ (l m : Addr) (xs ys : List V) (S : Sto), vs = [.ref l, .int S.aisle, .ref m] ∧ SqL K H l xs ∧ DpAll K H xs (dshelves S.shelves) ∧ SqL K H m ys ∧ DpAll K H ys (dwishes S.wishes) ∧ StoOk S ∧ ∀ H', Same H H' → Q .non H'
/-! _refuse_no_store: 0 shelves, 1 aisle, 2 wishes, 3 number, 4 shelf, 5 wish -/
abbrev s__refuse_no_store : Stmt := topS 29
abbrev N__refuse_no_store : List Str := ["shelves", "aisle", "wishes", "number", "shelf", "wish"]
theorem sc__refuse_no_store : FnScope N__refuse_no_store ["shelves", "aisle", "wishes"] (defScope s__refuse_no_store) := ⟨rfl, rfl, rfl, by decide +kernel, rfl, by decide +kernel, by decide +kernel⟩
theorem ok__refuse_no_store {f f1 f2 : Addr} {fd fd1 fd2 : FuncData} (D : Dfs K mg "_refuse_no_store" s__refuse_no_store ["shelves", "aisle", "wishes"] f fd) (T : Tx K mg) (Tk : Tc K mg) (C__is_shelf : Cal P w K mg base 1 "_is_shelf" ["shelf"] (spIsShelf K) f1 fd1)
    (C__is_wish : Cal P w K mg base 2 "_is_wish" ["wish", "many_shelves", "many_wishes"] (spIsWish K) f2 fd2) : Cal P w K mg base 3 "_refuse_no_store" ["shelves", "aisle", "wishes"] (spRefuse0 K) f fd := by
  obtain ⟨_, g_MOST_SHELVES⟩ := Tk.c_MOST_SHELVES
  obtain ⟨_, g_MOST_WISHES⟩ := Tk.c_MOST_WISHES
  refine D.cal (D.F.ok sc__refuse_no_store (fun vs H Q E h => ?_) (fun cdv A outer s H vs Q E hr h => ?_))
  · obtain ⟨l, m, xs, ys, S, rfl, _⟩ := h
    rfl
  · obtain ⟨l, m, xs, ys, S, rfl, hl, dl, hm, dm, ok, q⟩ := h
    have lx : xs.length = S.shelves.length := (dps_len dl).trans (List.length_map ..)
    have ly : ys.length = S.wishes.length := (dps_len dm).trans (List.length_map ..)
    have n1 := ok.n1
    have n5 := ok.n5
    have w5 := ok.w5
    have a0 := ok.a0
    have a1 := ok.a1
    refine ⟨_, (pss_cons (ps_if (pt_not (pt_chain op_le op_le pe_int (pe_callB (klen (K := K)) (by rfl) T.n_len (by decide +kernel) (pa_cons (pv 0) pa_nil)) (pe_glob (v := .int 5) (by rfl) g_MOST_SHELVES ⟨_, rfl⟩))) (pss_one ps_never) pss_nil)
      (pss_cons (ps_for PassesOwn.never rfl (pi_enum (by rfl) T.n_enumerate (pa_cons (pv 0) pa_nil)) (pg_tup (by rfl) (pgs_cons (pg_name (i := 3) sc__refuse_no_store.nd rfl (Or.inl rfl)) (pgs_cons (pg_name (i := 4) sc__refuse_no_store.nd rfl (Or.inl rfl)) pgs_nil))) (pss_one (ps_if (pt_not (pt_val (pe_call C__is_shelf.G (hr.mono (by decide)) (by rfl) C__is_shelf.g C__is_shelf.kp C__is_shelf.b .nil pass0 (pa_cons (pv 4) pa_nil)))) (pss_one ps_never) pss_nil)))
      (pss_cons (ps_if (pt_not (pt_chain op_le op_le pe_int (pv 1) (pe_callB (klen (K := K)) (by rfl) T.n_len (by decide +kernel) (pa_cons (pv 0) pa_nil)))) (pss_one ps_never) pss_nil)
      (pss_cons (ps_if (pt_cmpR op_gt (pe_callB (klen (K := K)) (by rfl) T.n_len (by decide +kernel) (pa_cons (pv 2) pa_nil)) (pe_glob (v := .int 5) (by rfl) g_MOST_WISHES ⟨_, rfl⟩) (nomark _)) (pss_one ps_never) pss_nil)
      (pss_one (ps_for PassesOwn.never rfl (pi_enum (by rfl) T.n_enumerate (pa_cons (pv 2) pa_nil)) (pg_tup (by rfl) (pgs_cons (pg_name (i := 3) sc__refuse_no_store.nd rfl (Or.inl rfl)) (pgs_cons (pg_name (i := 5) sc__refuse_no_store.nd rfl (Or.inl rfl)) pgs_nil))) (pss_one (ps_if (pt_not (pt_val (pe_call C__is_wish.G (hr.mono (by decide)) (by rfl) C__is_wish.g C__is_wish.kp C__is_wish.b .nil pass0 (pa_cons (pv 5) (pa_cons (pe_callB (klen (K := K)) (by rfl) T.n_len (by decide +kernel) (pa_cons (pv 0) pa_nil)) (pa_cons (pe_callB (klen (K := K)) (by rfl) T.n_len (by decide +kernel) (pa_cons (pv 2) pa_nil)) pa_nil)))))) (pss_one ps_never) pss_nil)))))))), ?_⟩
    refine ⟨_, rfl, l, xs, rfl, .inl hl, _, _, rfl, rfl, _, rfl, itD (by omega) ⟨_, _, rfl, rfl, _, rfl, iteNS (by omega) ?_⟩⟩
    -- the shelves
    refine ⟨_, rfl, l, xs, rfl, hl, for_enum (K := K) (a := l) (xs := xs) (fun i σ H' => Same H H' ∧ ∃ v3 v4 : Option V, σ = [some (.ref l), some (.int S.aisle), some (.ref m), v3, v4, none]) ⟨Same.refl _, none, none, rfl⟩ (fun i σ H' _ h => Same.l h.1 hl) ?_ ?_⟩
    · rintro i x σ H' p hx ⟨s, v3, v4, rfl⟩ np
      obtain ⟨d, hd, dx⟩ := dps_of_get dl hx
      obtain ⟨sh, hsh, rfl⟩ : ∃ sh, S.shelves[i]? = some sh ∧ d = sh.d := by
        unfold dshelves at hd
        rw [List.getElem?_map] at hd
        cases e : S.shelves[i]? with
        | none =>
          rw [e] at hd
          cases hd
        | some z =>
          rw [e] at hd
          exact ⟨z, rfl, (Option.some.inj hd).symm⟩
      have s2 := Same.new (o := .tup [.int (i : Nat), x]) s np
      refine ⟨p, _, rfl, tup_new, rfl, _, _, rfl, _, _, rfl, rfl, ?_⟩
      refine ⟨_, rfl, x, sh, rfl, dp_mono s2 dx, fun b H2 hb s3 => ⟨_, rfl, itnB (hb.mpr (ok.sh _ (List.mem_of_getElem? hsh))) ⟨s2.trans s3, _, _, rfl⟩⟩⟩
    · rintro σ H1 ⟨s, v3, v4, rfl⟩
      have hl1 := Same.l s hl
      have hm1 := Same.l s hm
      refine ⟨_, rfl, _, _, rfl, rfl, _, rfl, itD (by omega) ⟨_, rfl, l, xs, rfl, .inl hl1, _, _, rfl, rfl, _, rfl, iteNS (by omega) ?_⟩⟩
      refine ⟨_, rfl, m, ys, rfl, .inl hm1, _, _, rfl, rfl, _, rfl, itF (by omega) ?_⟩
      refine ⟨_, rfl, m, ys, rfl, hm1, for_enum (K := K) (a := m) (xs := ys) (fun i σ H' => Same H H' ∧ ∃ v3 v5 : Option V, σ = [some (.ref l), some (.int S.aisle), some (.ref m), v3, v4, v5]) ⟨s, v3, none, rfl⟩ (fun i σ H' _ h => Same.l h.1 hm) ?_ ?_⟩
      · rintro i x σ H' p hx ⟨s, v3, v5, rfl⟩ np
        obtain ⟨d, hd, dx⟩ := dps_of_get dm hx
        obtain ⟨sh, hsh, rfl⟩ : ∃ sh, S.wishes[i]? = some sh ∧ d = sh.d := by
          unfold dwishes at hd
          rw [List.getElem?_map] at hd
          cases e : S.wishes[i]? with
          | none =>
            rw [e] at hd
            cases hd
          | some z =>
            rw [e] at hd
            exact ⟨z, rfl, (Option.some.inj hd).symm⟩
        have s2 := Same.new (o := .tup [.int (i : Nat), x]) s np
        refine ⟨p, _, rfl, tup_new, rfl, _, _, rfl, _, _, rfl, rfl, ?_⟩
        refine ⟨_, rfl, _, rfl, l, xs, rfl, .inl (Same.l s2 hl), _, rfl, m, ys, rfl, .inl (Same.l s2 hm), x, sh, _, _, rfl, dp_mono s2 dx, fun b H2 hb s3 => ⟨_, rfl, itnB (hb.mpr ?_) ⟨s2.trans s3, _, _, rfl⟩⟩⟩
        rw [lx, ly]
        exact ok.ws _ (List.mem_of_getElem? hsh)
      · rintro σ H2 ⟨s, v3, v5, rfl⟩
        exact q H2 s
def spInit (K : PySem.W.Frag) (C : Addr) : Sp := fun vs H Q _ => ∃ (p dx l m : Addr) (xs ys : List V) (S : Sto) (B : Hp), vs = [.ref p, .ref l, .int S.aisle, .ref m] ∧ H p = some (.ins C dx []) ∧ Same B H ∧ B p = none ∧
  SqL K B l xs ∧ DpAll K B xs (dshelves S.shelves) ∧ SqL K B m ys ∧ DpAll K B ys (dwishes S.wishes) ∧ StoOk S ∧ ∀ H', Same B H' → Ob K C H' p S → Q .non H'
/-! Store.__init__: 0 self, 1 shelves, 2 aisle, 3 wishes -/
abbrev s_Store___init__ : Stmt := inClass (topS 28) 0
abbrev N_Store___init__ : List Str := ["self", "shelves", "aisle", "wishes"]
theorem sc_Store___init__ : FnScope N_Store___init__ ["self", "shelves", "aisle", "wishes"] (defScope s_Store___init__) := ⟨rfl, rfl, rfl, by decide +kernel, rfl, by decide +kernel, by decide +kernel⟩
theorem ok_Store_init {f f1 C fS fW : Addr} {fd fd1 fdS fdW : FuncData} (F : Fun K "__init__" "Store.__init__" s_Store___init__ f fd) (T : Tx K mg) (TS : TSx K mg C f fS fW fd fdS fdW) (C__refuse_no_store : Cal P w K mg base 3 "_refuse_no_store" ["shelves", "aisle", "wishes"] (spRefuse0 K) f1 fd1) :
    FnOk P w K mg base CX0 4 f fd ["self", "shelves", "aisle", "wishes"] (spInit K C) := by
  refine F.ok sc_Store___init__ (fun vs H Q E h => ?_) (fun cdv A outer s H vs Q E hr h => ?_)
  · obtain ⟨p, dx, l, m, xs, ys, S, B, rfl, _⟩ := h
    rfl
  · obtain ⟨p, dx, l, m, xs, ys, S, B, rfl, hp, s, bp, hl, dl, hm, dm, ok, q⟩ := h
    refine ⟨_, (pss_cons (ps_expr (pe_call C__refuse_no_store.G (hr.mono (by decide)) (by rfl) C__refuse_no_store.g C__refuse_no_store.kp C__refuse_no_store.b .nil pass0 (pa_cons (pv 1) (pa_cons (pv 2) (pa_cons (pv 3) pa_nil)))))
      (pss_cons (ps_fld (pv 0) (pe_callTy (klist_of (K := K)) (by rfl) T.n_list (by decide +kernel) (pa_cons (pv 1) pa_nil)) rfl)
      (pss_cons (ps_fld (pv 0) (pe_callTy (klist_of (K := K)) (by rfl) T.n_list (by decide +kernel) (pa_cons (pv 3) pa_nil)) rfl)
      (pss_one (ps_fld (pv 0) (pv 2) rfl))))), ?_⟩
    refine ⟨_, rfl, _, rfl, _, rfl, l, m, xs, ys, S, rfl, Same.l s hl, dps_mono s dl, Same.l s hm, dps_mono s dm, ok, fun H1 s1 => ?_⟩
    have s01 := s.trans s1
    -- self._shelves = list(shelves)
    refine ⟨_, rfl, l, xs, rfl, .inl (Same.l s01 hl), fun l2 nl2 => ?_⟩
    have hp1 := s1 _ _ hp
    have np2 : p ≠ l2 := ne_of_none hp1 nl2
    have hp2 : (upd H1 l2 (.lst xs)) p = some (.ins C dx []) := by
      rw [upd_ne np2]
      exact hp1
    refine ⟨_, rfl, p, C, dx, [], rfl, hp2, TS.cl, TS.nS, by simp, ?_⟩
    have s2 : Same (upd B l2 (.lst xs)) (upd H1 l2 (.lst xs)) := Same.grow s01 nl2
    have bp2 : (upd B l2 (.lst xs)) p = none := by
      rw [upd_ne np2]
      exact bp
    have s3 : Same (upd B l2 (.lst xs)) (upd (upd H1 l2 (.lst xs)) p (.ins C dx (putF "_shelves" (.ref l2) []))) := Same.put s2 bp2
    have hp3 : (upd (upd H1 l2 (.lst xs)) p (.ins C dx (putF "_shelves" (.ref l2) []))) p = _ := upd_same
    have sB2 : Same B (upd B l2 (.lst xs)) := same_new (s01.free nl2)
    generalize upd (upd H1 l2 (.lst xs)) p (.ins C dx (putF "_shelves" (.ref l2) [])) = H3 at s3 hp3
    have hB2 : SqL K (upd B l2 (.lst xs)) l2 xs := lst_new
    generalize upd B l2 (.lst xs) = B2 at s3 bp2 sB2 hB2
    -- self._wishes = list(wishes)
    refine ⟨_, rfl, m, ys, rfl, .inl (Same.l (sB2.trans s3) hm), fun m2 nm2 => ?_⟩
    have np4 : p ≠ m2 := ne_of_none hp3 nm2
    have hp4 : (upd H3 m2 (.lst ys)) p = some (.ins C dx (putF "_shelves" (.ref l2) [])) := by
      rw [upd_ne np4]
      exact hp3
    refine ⟨_, rfl, p, C, dx, _, rfl, hp4, TS.cl, TS.nW, Nat.lt_of_le_of_lt (putF_len _ _ _) (by simp), ?_⟩
    have s5 : Same (upd B2 m2 (.lst ys)) (upd H3 m2 (.lst ys)) := Same.grow s3 nm2
    have bp5 : (upd B2 m2 (.lst ys)) p = none := by
      rw [upd_ne np4]
      exact bp2
    have sB5 : Same B2 (upd B2 m2 (.lst ys)) := same_new (s3.free nm2)
    have hB5 : SqL K (upd B2 m2 (.lst ys)) m2 ys := lst_new
    have s6 : Same (upd B2 m2 (.lst ys)) (upd (upd H3 m2 (.lst ys)) p (.ins C dx (putF "_wishes" (.ref m2) (putF "_shelves" (.ref l2) [])))) := Same.put s5 bp5
    have hp6 : (upd (upd H3 m2 (.lst ys)) p (.ins C dx (putF "_wishes" (.ref m2) (putF "_shelves" (.ref l2) [])))) p = _ := upd_same
    generalize upd (upd H3 m2 (.lst ys)) p (.ins C dx (putF "_wishes" (.ref m2) (putF "_shelves" (.ref l2) []))) = H6 at s6 hp6
    generalize upd B2 m2 (.lst ys) = B5 at s6 bp5 sB5 hB5
    -- self.aisle = aisle
    refine ⟨_, rfl, _, rfl, p, C, dx, _, rfl, hp6, TS.cl, TS.nA, Nat.lt_of_le_of_lt (putF_len _ _ _) (Nat.lt_of_le_of_lt (Nat.succ_le_succ (putF_len _ _ _)) (by simp)), ?_⟩
    have s7 := Same.put (o := .ins C dx (fsS l2 m2 S.aisle)) s6 bp5
    have sB := sB2.trans sB5
    exact q _ (sB.trans s7) ⟨dx, l2, m2, xs, ys, upd_same, Same.l (sB5.trans s7) hB2, dps_mono (sB.trans s7) dl, Same.l s7 hB5, dps_mono (sB.trans s7) dm⟩
end

section
variable {P : Program} {w : World} {K : PySem.W.Frag} {mg : Str → Option Value} {base : Heap}
def spShelvesM (K : PySem.W.Frag) (C : Addr) : Sp := fun vs H Q _ => ∃ (p : Addr) (S : Sto), vs = [.ref p] ∧ Ob K C H p S ∧ ∀ q xs, H q = none → DpAll K H xs (dshelves S.shelves) → Q (.ref q) (upd H q (.lst xs))
def spWishesM (K : PySem.W.Frag) (C : Addr) : Sp := fun vs H Q _ => ∃ (p : Addr) (S : Sto), vs = [.ref p] ∧ Ob K C H p S ∧ ∀ q xs, H q = none → DpAll K H xs (dwishes S.wishes) → Q (.ref q) (upd H q (.lst xs))
/-! Store.shelves: 0 self -/
abbrev s_Store_shelves : Stmt := inClass (topS 28) 1
abbrev N_Store_shelves : List Str := ["self"]
theorem sc_Store_shelves : FnScope N_Store_shelves ["self"] (defScope s_Store_shelves) := ⟨rfl, rfl, rfl, by decide +kernel, rfl, by decide +kernel, by decide +kernel⟩
theorem ok_Store_shelves {f C fI fW : Addr} {fd fdI fdW : FuncData} (F : Fun K "shelves" "Store.shelves" s_Store_shelves f fd) (T : Tx K mg) (TS : TSx K mg C fI f fW fdI fd fdW) : FnOk P w K mg base CX0 1 f fd ["self"] (spShelvesM K C) := by
  refine F.ok sc_Store_shelves (fun vs H Q E h => ?_) (fun cdv A outer s H vs Q E hr h => ?_)
  · obtain ⟨p, S, rfl, _⟩ := h
    rfl
  · obtain ⟨p, S, rfl, ⟨dx, l, m, xs, ys, ob⟩, q⟩ := h
    refine ⟨_, (pss_one (ps_ret (pe_callTy (klist_of (K := K)) (by rfl) T.n_list (by decide +kernel) (pa_cons (pe_fld (pv 0) rfl) pa_nil)))), ?_⟩
    exact ⟨_, rfl, p, C, dx, _, _, rfl, ob.o, TS.cl, TS.nS, fsS_sh, l, xs, rfl, .inl ob.l, fun r nr => q r xs nr ob.dx⟩
/-! Store.wishes: 0 self -/
abbrev s_Store_wishes : Stmt := inClass (topS 28) 2
abbrev N_Store_wishes : List Str := ["self"]
theorem sc_Store_wishes : FnScope N_Store_wishes ["self"] (defScope s_Store_wishes) := ⟨rfl, rfl, rfl, by decide +kernel, rfl, by decide +kernel, by decide +kernel⟩
theorem ok_Store_wishes {f C fI fS : Addr} {fd fdI fdS : FuncData} (F : Fun K "wishes" "Store.wishes" s_Store_wishes f fd) (T : Tx K mg) (TS : TSx K mg C fI fS f fdI fdS fd) : FnOk P w K mg base CX0 1 f fd ["self"] (spWishesM K C) := by
  refine F.ok sc_Store_wishes (fun vs H Q E h => ?_) (fun cdv A outer s H vs Q E hr h => ?_)
  · obtain ⟨p, S, rfl, _⟩ := h
    rfl
  · obtain ⟨p, S, rfl, ⟨dx, l, m, xs, ys, ob⟩, q⟩ := h
    refine ⟨_, (pss_one (ps_ret (pe_callTy (klist_of (K := K)) (by rfl) T.n_list (by decide +kernel) (pa_cons (pe_fld (pv 0) rfl) pa_nil)))), ?_⟩
    exact ⟨_, rfl, p, C, dx, _, _, rfl, ob.o, TS.cl, TS.nW, fsS_wi, m, ys, rfl, .inl ob.m, fun r nr => q r ys nr ob.dy⟩
end

section
variable {P : Program} {w : World} {K : PySem.W.Frag} {mg : Str → Option Value} {base : Heap}
def spMade (K : PySem.W.Frag) (C : Addr) : Sp := fun vs H Q _ => ∃ (v : V) (S : Sto), vs = [v] ∧ Dp K H v S.d ∧ StoOk S ∧ ∀ p H', Same H H' → H p = none → Ob K C H' p S → Q (.ref p) H'
/-! _law_made: 0 _law_store_here -/
abbrev s__law_made : Stmt := topS 37
abbrev N__law_made : List Str := ["_law_store_here"]
theorem sc__law_made : FnScope N__law_made ["_law_store_here"] (defScope s__law_made) := ⟨rfl, rfl, rfl, by decide +kernel, rfl, by decide +kernel, by decide +kernel⟩
theorem ok__law_made {f C fI fS fW : Addr} {fd fdI fdS fdW : FuncData} (D : Dfs K mg "_law_made" s__law_made ["_law_store_here"] f fd) (T : Tx K mg) (TS : TSx K mg C fI fS fW fdI fdS fdW) (G_init : FnOk P w K mg base CX0 4 fI fdI ["self", "shelves", "aisle", "wishes"] (spInit K C)) :
    Cal P w K mg base 6 "_law_made" ["_law_store_here"] (spMade K C) f fd := by
  refine D.cal (D.F.ok sc__law_made (fun vs H Q E h => ?_) (fun cdv A outer s H vs Q E hr h => ?_))
  · obtain ⟨v, S, rfl, _⟩ := h
    rfl
  · obtain ⟨v, S, rfl, hv, ok, q⟩ := h
    obtain ⟨a, l, m, xs, ys, rfl, st⟩ := sto_at hv
    refine ⟨_, (pss_one (ps_ret (pe_make TS.mkS G_init (hr.mono (by decide)) rfl TS.g TS.b_init .nil pass0 (pa_cons (pe_callTy (klist_of (K := K)) (by rfl) T.n_list (by decide +kernel) (pa_cons (pe_ix (kix_tup (K := K)) (pv 0) pe_int (fun _ _ => rfl)) pa_nil)) (pa_cons (pe_ix (kix_tup (K := K)) (pv 0) pe_int (fun _ _ => rfl)) (pa_cons (pe_callTy (klist_of (K := K)) (by rfl) T.n_list (by decide +kernel) (pa_cons (pe_ix (kix_tup (K := K)) (pv 0) pe_int (fun _ _ => rfl)) pa_nil)) pa_nil)))))), ?_⟩
    refine ⟨_, rfl, a, _, 0, .ref l, rfl, rfl, st.t, rfl, l, xs, rfl, .inl st.l, fun l2 nl2 => ?_⟩
    have s1 := same_new (o := .lst xs) nl2
    have st1 := st.mono s1
    refine ⟨_, rfl, a, _, 1, .int S.aisle, rfl, rfl, st1.t, rfl, _, rfl, a, _, 2, .ref m, rfl, rfl, st1.t, rfl, m, ys, rfl, .inl st1.m, fun m2 nm2 => ?_⟩
    have s2 := same_new (o := .lst ys) nm2
    have st2 := st1.mono s2
    intro p dx np ndx nex
    have s3 := (same_new (o := .own p) ndx).trans (Same.new (p := p) (o := .ins C dx []) (Same.refl _) (by rw [upd_ne (fun z => nex z.symm)]; exact np))
    refine ⟨p, dx, l2, m2, xs, ys, S, _, rfl, upd_same, s3, np, Same.l s2 lst_new, st2.dx, lst_new, st2.dy, ok, fun H' s4 o => ⟨rfl, q p H' ((s1.trans s2).trans s4) ((s1.trans s2).free np) o⟩⟩
end

theorem room65 {k : Nat} {A : Around} (hr : Room k A) : A.units + 65 < cLine := by
  have := hr.un
  omega
/-! ### data that are laid flat enough to be compared -/
def Lay (n : Nat) (d : PyData) : Prop := d.canLay0 = true ∧ d.depth ≤ n
def Lays (n : Nat) (ds : List PyData) : Prop := PyData.canLayAll0 ds = true ∧ PyData.depthAll ds ≤ n
theorem Lay.shaped {n : Nat} {d : PyData} (h : Lay n d) (hn : n ≤ 64 := by decide) : SeqAt.shaped d = true := by
  unfold SeqAt.shaped
  rw [h.1, Bool.true_and]
  exact decide_eq_true (Nat.le_trans h.2 hn)
theorem Lay.refl {n : Nat} {d : PyData} (h : Lay n d) : PyData.eqv d d = true := SeqAt.eqv_refl d h.1
theorem lays_nil {n : Nat} : Lays n [] := ⟨rfl, Nat.zero_le _⟩
theorem Lays.cons {n : Nat} {d : PyData} {ds : List PyData} (h : Lay n d) (g : Lays n ds) : Lays n (d :: ds) :=
  ⟨by unfold PyData.canLayAll0; rw [h.1, g.1]; rfl, by unfold PyData.depthAll; exact Nat.max_le.mpr ⟨h.2, g.2⟩⟩
theorem Lays.tup {n : Nat} {ds : List PyData} (h : Lays n ds) : Lay (n + 1) (.tuple ds) := ⟨by unfold PyData.canLay0; exact h.1, by unfold PyData.depth; exact Nat.succ_le_succ h.2⟩
theorem Lays.lst {n : Nat} {ds : List PyData} (h : Lays n ds) : Lay (n + 1) (.list ds) := ⟨by unfold PyData.canLay0; exact h.1, by unfold PyData.depth; exact Nat.succ_le_succ h.2⟩
theorem lay_int {n : Nat} {i : Int} : Lay n (.int i) := ⟨by unfold PyData.canLay0; rfl, by unfold PyData.depth; exact Nat.zero_le _⟩
theorem lay_none {n : Nat} : Lay n .none := ⟨by unfold PyData.canLay0; rfl, by unfold PyData.depth; exact Nat.zero_le _⟩
theorem lay_str {n : Nat} {x : Str} (h : PyData.strOk x = true) : Lay n (.str x) := ⟨by unfold PyData.canLay0; exact h, by unfold PyData.depth; exact Nat.zero_le _⟩
theorem Lays.all {n : Nat} {ds : List PyData} (h : ∀ d ∈ ds, Lay n d) : Lays n ds := by
  induction ds with
  | nil => exact lays_nil
  | cons d ds ih => exact .cons (h d List.mem_cons_self) (ih fun e he => h e (List.mem_cons_of_mem _ he))
theorem Lay.more {n m : Nat} {d : PyData} (h : Lay n d) (e : n ≤ m) : Lay m d := ⟨h.1, Nat.le_trans h.2 e⟩
theorem lays_ints {n : Nat} (l : List Int) : Lays n (dints l) := .all fun d hd => by
  obtain ⟨i, _, rfl⟩ := List.mem_map.mp hd
  exact lay_int
theorem Shelf.lay (s : Shelf) : Lay 1 s.d := (Lays.cons lay_int (Lays.cons lay_int (Lays.cons lay_int lays_nil))).tup
theorem ok_fetch : PyData.strOk "fetch" = true := by decide +kernel
theorem ok_bring : PyData.strOk "bring" = true := by decide +kernel
theorem ok_left : PyData.strOk "left" = true := by decide +kernel
theorem ok_right : PyData.strOk "right" = true := by decide +kernel
theorem ok_any : PyData.strOk "any" = true := by decide +kernel
theorem Wish.lay {n m : Int} {x : Wish} (h : WishOk n m x) : Lay 2 x.d := by
  have h1 : PyData.strOk x.kind = true := by
    rcases h.kind with e | e
    · rw [e]; exact ok_fetch
    · rw [e]; exact ok_bring
  have h2 : PyData.strOk x.side = true := by
    rcases h.side with e | e | e
    · rw [e]; exact ok_left
    · rw [e]; exact ok_right
    · rw [e]; exact ok_any
  exact (Lays.cons (lay_str h1) (Lays.cons lay_int (Lays.cons (lay_str h2) (Lays.cons lay_int (Lays.cons lay_int (Lays.cons (lays_ints _).tup lays_nil)))))).tup
theorem shelves_lay (l : List Shelf) : Lay 2 (.list (dshelves l)) := (Lays.all fun d hd => by
  obtain ⟨i, _, rfl⟩ := List.mem_map.mp hd
  exact i.lay).lst
theorem wishes_lay {n m : Int} {l : List Wish} (h : ∀ x ∈ l, WishOk n m x) : Lay 3 (.list (dwishes l)) := (Lays.all fun d hd => by
  obtain ⟨i, hi, rfl⟩ := List.mem_map.mp hd
  exact Wish.lay (h i hi)).lst
/-! ### a list that grows, without the draws -/
structure Acq (K : PySem.W.Frag) (B0 B H : Hp) (l : Addr) (xs : List V) (ds : List PyData) : Prop where
  s : Same B0 B
  R : Same B H
  bl : B l = none
  el : H l = some (.lst xs)
  dx : DpAll K B xs ds
section
variable {K : PySem.W.Frag} {B0 B H H' : Hp} {l p : Addr} {xs : List V} {ds : List PyData} {o : HO}
theorem Acq.start (s : Same B0 B) (R : Same B H) (h : H l = none) : Acq K B0 B (upd H l (.lst [])) l [] [] := ⟨s, Same.new R h, R.free h, upd_same, .nil⟩
theorem Acq.grow (A : Acq K B0 B H l xs ds) (h : H p = none) : Acq K B0 (upd B p o) (upd H p o) l xs ds := by
  have n : l ≠ p := ne_of_none A.el h
  have z := A.R.free h
  exact ⟨A.s.trans (same_new z), Same.grow A.R h, by rw [upd_ne n]; exact A.bl, by rw [upd_ne n]; exact A.el, dps_mono (same_new z) A.dx⟩
theorem Acq.app {v : V} {d : PyData} (A : Acq K B0 B H l xs ds) (h : Dp K B v d) : Acq K B0 B (upd H l (.lst (xs ++ [v]))) l (xs ++ [v]) (ds ++ [d]) :=
  ⟨A.s, Same.put A.R A.bl, A.bl, upd_same, dps_app A.dx (.cons h .nil)⟩
/-- what a pure def made beside it -/
theorem Acq.pure (A : Acq K B0 B H l xs ds) (s : Same H H') : Acq K B0 (del1 H' l) H' l xs ds := by
  have s1 : Same B (del1 H' l) := same_del (A.R.trans s) A.bl
  exact ⟨A.s.trans s1, fun b o e => by
    by_cases hb : b = l
    · rw [hb, del1_same] at e
      cases e
    · rw [del1_ne hb] at e
      exact e, del1_same, s _ _ A.el, dps_mono s1 A.dx⟩
theorem Acq.keep (A : Acq K B0 B H l xs ds) (s : Same H H') : Acq K B0 B H' l xs ds := ⟨A.s, A.R.trans s, A.bl, s _ _ A.el, A.dx⟩
theorem Acq.all (A : Acq K B0 B H l xs ds) : Same B0 H ∧ SqL K H l xs ∧ DpAll K H xs ds := ⟨A.s.trans A.R, SqL.of A.el, dps_mono A.R A.dx⟩
end
/-! ### in, not in, of a list of ints -/
section
variable {z : Int} {l : List Int} {A B : Prop}
theorem in_y (h : z ∈ l) (q : A) : if (if false = true then !inV (V.int z) (l.map V.int) else inV (V.int z) (l.map V.int)) = true then A else B := by
  rw [inV_ints.mpr h]
  exact iteT q
theorem inF {l : List Int} {z : Int} (h : z ∉ l) : inV (V.int z) (l.map V.int) = false := by
  cases e : inV (V.int z) (l.map V.int) with
  | false => rfl
  | true => exact absurd (inV_ints.mp e) h
theorem in_n (h : z ∉ l) (q : B) : if (if false = true then !inV (V.int z) (l.map V.int) else inV (V.int z) (l.map V.int)) = true then A else B := by
  rw [inF h]
  exact iteF q
theorem ni_y (h : z ∉ l) (q : A) : if (if true = true then !inV (V.int z) (l.map V.int) else inV (V.int z) (l.map V.int)) = true then A else B := by
  rw [inF h]
  exact iteT q
theorem ni_n (h : z ∈ l) (q : B) : if (if true = true then !inV (V.int z) (l.map V.int) else inV (V.int z) (l.map V.int)) = true then A else B := by
  rw [inV_ints.mpr h]
  exact iteF q
end
theorem sne {a b : Str} (h : ¬ a = b) : ¬ (V.str a = V.str b) := fun z => h (V.str.inj z)
theorem ine {a b : Int} (h : ¬ a = b) : ¬ (V.int a = V.int b) := fun z => h (V.int.inj z)
theorem int_item {l : List Int} {i : Nat} {y : V} (h : (l.map V.int)[i]? = some y) : ∃ z, l[i]? = some z ∧ y = V.int z := by
  rw [List.getElem?_map] at h
  cases e : l[i]? with
  | none =>
    rw [e] at h
    cases h
  | some z =>
    rw [e] at h
    exact ⟨z, rfl, (Option.some.inj h).symm⟩
theorem take_snoc {α : Type} {l : List α} {i : Nat} {z : α} (h : l[i]? = some z) : l.take (i + 1) = l.take i ++ [z] := by
  rw [List.take_add_one, h]
  rfl
theorem two_dp {K : PySem.W.Frag} {H : Hp} {a : Addr} {r : Str} {n : Int} (h : SqT K H a [.str r, .int n]) : Dp K H (.ref a) (.tuple [.str r, .int n]) := .tup h (.cons (.str _) (.cons (.int _) .nil))
theorem pair1 {K : PySem.W.Frag} {H : Hp} {a : Addr} {r : Str} (h : SqT K H a [.str r]) : Dp K H (.ref a) (.tuple [.str r]) := .tup h (.cons (.str _) .nil)
theorem filter_snoc {α : Type} {p : α → Bool} {l : List α} {i : Nat} {t : α} (h : l[i]? = some t) : (l.take (i + 1)).filter p = (l.take i).filter p ++ (if p t = true then [t] else []) := by
  rw [take_snoc h, List.filter_append]
  cases e : p t <;> simp [List.filter, e]
theorem Rising.len {lo n : Int} {l : List Int} (h : Rising lo n l) : l.length ≤ (n - lo).toNat := by
  induction l generalizing lo with
  | nil => exact Nat.zero_le _
  | cons i r ih =>
    obtain ⟨a, b, c⟩ := h
    have := ih c
    rw [List.length_cons]
    omega

/-! ## states, steps, and what bars a step -/
structure Sta where
  aisle : Int
  done : List Int
  inside : List Int
  kept : Int
inductive Stp where
  | wait
  | shift (by_ : Int)
  | cin (c : Int)
  | cout (c : Int)
  | wish (n : Int)
def Sta.d (s : Sta) : PyData := .tuple [.int s.aisle, .tuple (dints s.done), .tuple (dints s.inside), .int s.kept]
def Stp.d : Stp → PyData
  | .wait => .tuple [.str "wait"]
  | .shift b => .tuple [.str "shift", .int b]
  | .cin c => .tuple [.str "in", .int c]
  | .cout c => .tuple [.str "out", .int c]
  | .wish n => .tuple [.str "do", .int n]
def StpOk (m : Int) : Stp → Prop
  | .wait => True
  | .shift b => b = -1 ∨ b = 1
  | .cin c => c = 0 ∨ c = 1
  | .cout c => c = 0 ∨ c = 1
  | .wish n => 0 ≤ n ∧ n < m
def InsideOk (l : List Int) : Prop := l = [] ∨ l = [0] ∨ l = [1] ∨ l = [0, 1]
/-- what a wish that is done changes at the shelf k -/
def delta (S : Sto) (k z : Int) : Int := match S.wishes[z.toNat]? with
  | some x => if x.shelf = k then (if x.kind = "fetch" then -1 else 1) else 0
  | none => 0
def hasAt (S : Sto) (k : Int) : Int := match S.shelves[k.toNat]? with
  | some x => x.has
  | none => 0
def roomAt (S : Sto) (k : Int) : Int := match S.shelves[k.toNat]? with
  | some x => x.room
  | none => 0
def goods (S : Sto) (done : List Int) (k : Int) : Int := hasAt S k + (done.map (delta S k)).sum
/-- a state of the store's form -/
structure StaOk (S : Sto) (s : Sta) : Prop where
  a0 : 0 ≤ s.aisle
  a1 : s.aisle ≤ S.shelves.length
  done : Rising 0 S.wishes.length s.done
  inside : InsideOk s.inside
  k0 : 0 ≤ s.kept
  k3 : s.kept ≤ 3
  has : ∀ k : Int, 0 ≤ k → k < S.shelves.length → 0 ≤ goods S s.done k ∧ goods S s.done k ≤ roomAt S k
def barShift (S : Sto) (s : Sta) (b : Int) : Option (Str × Int) :=
  let sh := if b = 1 then s.aisle else s.aisle - 1
  if 0 ≤ sh ∧ sh < S.shelves.length then
    match S.shelves[sh.toNat]? with
    | none => none
    | some x => if x.sticks = 1 then some ("sticks", sh) else match s.inside with
      | c :: _ => some ("in", c)
      | [] => if s.kept > 0 then some ("kept", s.kept) else none
  else some ("end", s.aisle)
def beside (aisle shelf : Int) (side : Str) : Bool := if side = "left" then decide (aisle = shelf) else if side = "right" then decide (aisle = shelf + 1) else decide (aisle = shelf ∨ aisle = shelf + 1)
def barLoad (S : Sto) (done : List Int) (kind : Str) (k : Int) : Option (Str × Int) :=
  if kind = "fetch" ∧ goods S done k = 0 then some ("empty", k) else if kind = "bring" ∧ goods S done k = roomAt S k then some ("full", k) else none
def barWish (S : Sto) (s : Sta) (n : Int) : Option (Str × Int) := match S.wishes[n.toNat]? with
  | none => none
  | some x =>
    if n ∈ s.done then some ("done", n) else match x.after.find? (fun z => decide (z ∉ s.done)) with
      | some z => some ("after", z)
      | none => if x.crew ∉ s.inside then some ("crew", x.crew) else if beside s.aisle x.shelf x.side = false then some ("aisle", s.aisle) else barLoad S s.done x.kind x.shelf
def bar (S : Sto) (s : Sta) : Stp → Option (Str × Int)
  | .wait => none
  | .shift b => barShift S s b
  | .cin c => if c ∈ s.inside then some ("is", c) else none
  | .cout c => if c ∈ s.inside then none else some ("isnt", c)
  | .wish n => barWish S s n
def dbar : Option (Str × Int) → PyData
  | none => .none
  | some (r, n) => .tuple [.str r, .int n]
theorem sta_at {K : PySem.W.Frag} {H : Hp} {v : V} {s : Sta} (h : Dp K H v s.d) : ∃ a d i, v = .ref a ∧ SqT K H a [.int s.aisle, .ref d, .ref i, .int s.kept] ∧ SqT K H d (s.done.map V.int) ∧ SqT K H i (s.inside.map V.int) := by
  obtain ⟨a, xs, rfl, h1, h2⟩ := dp_tup h
  obtain ⟨x1, r1, rfl, e1, k1⟩ := dps_cons h2
  obtain ⟨x2, r2, rfl, e2, k2⟩ := dps_cons k1
  obtain ⟨x3, r3, rfl, e3, k3⟩ := dps_cons k2
  obtain ⟨x4, r4, rfl, e4, k4⟩ := dps_cons k3
  obtain ⟨d, rfl, hd⟩ := dp_ints e2
  obtain ⟨i, rfl, hi⟩ := dp_ints e3
  obtain rfl := dps_nil k4
  rw [dp_int e1, dp_int e4] at h1
  exact ⟨a, d, i, rfl, h1, hd, hi⟩
theorem at_sta {K : PySem.W.Frag} {H : Hp} {s : Sta} {a d i : Addr} (h : SqT K H a [.int s.aisle, .ref d, .ref i, .int s.kept]) (hd : SqT K H d (s.done.map V.int)) (hi : SqT K H i (s.inside.map V.int)) : Dp K H (.ref a) s.d :=
  .tup h (.cons (.int _) (.cons (.tup hd (ints_dps _)) (.cons (.tup hi (ints_dps _)) (.cons (.int _) .nil))))
theorem dp_one {K : PySem.W.Frag} {H : Hp} {v : V} {r : Str} (h : Dp K H v (.tuple [.str r])) : ∃ a, v = .ref a ∧ SqT K H a [.str r] := by
  obtain ⟨a, xs, rfl, h1, h2⟩ := dp_tup h
  obtain ⟨x1, r1, rfl, e1, k1⟩ := dps_cons h2
  obtain rfl := dps_nil k1
  rw [dp_str e1] at h1
  exact ⟨a, rfl, h1⟩
theorem dp_two {K : PySem.W.Frag} {H : Hp} {v : V} {r : Str} {n : Int} (h : Dp K H v (.tuple [.str r, .int n])) : ∃ a, v = .ref a ∧ SqT K H a [.str r, .int n] := by
  obtain ⟨a, xs, rfl, h1, h2⟩ := dp_tup h
  obtain ⟨x1, r1, rfl, e1, k1⟩ := dps_cons h2
  obtain ⟨x2, r2, rfl, e2, k2⟩ := dps_cons k1
  obtain rfl := dps_nil k2
  rw [dp_str e1, dp_int e2] at h1
  exact ⟨a, rfl, h1⟩
theorem two_new {K : PySem.W.Frag} {H : Hp} {a : Addr} {r : Str} {n : Int} : Dp K (upd H a (.tup [.str r, .int n])) (.ref a) (dbar (some (r, n))) := two_dp tup_new
/-- an item of a list of ints -/
theorem shelf_at_k {S : Sto} {k : Int} (h0 : 0 ≤ k) (h1 : k < S.shelves.length) : ∃ x, S.shelves[k.toNat]? = some x ∧ x ∈ S.shelves ∧ hasAt S k = x.has ∧ roomAt S k = x.room := by
  have hl : k.toNat < S.shelves.length := by omega
  have e := List.getElem?_eq_getElem hl
  exact ⟨_, e, List.getElem_mem hl, by unfold hasAt; rw [e], by unfold roomAt; rw [e]⟩
theorem wish_at_k {S : Sto} {k : Int} (h0 : 0 ≤ k) (h1 : k < S.wishes.length) : ∃ x, S.wishes[k.toNat]? = some x ∧ x ∈ S.wishes := by
  have hl : k.toNat < S.wishes.length := by omega
  exact ⟨_, List.getElem?_eq_getElem hl, List.getElem_mem hl⟩
theorem Rising.upto {lo m : Int} {i : Int} : ∀ {l : List Int}, Rising lo m l → l.filter (fun z => decide (z < i + 1)) = l.filter (fun z => decide (z < i)) ++ (if i ∈ l then [i] else [])
  | [], _ => by simp
  | j :: r, h => by
    have hr : Rising (j + 1) m r := h.2.2
    have ih := Rising.upto (i := i) hr
    rcases Int.lt_trichotomy j i with e | e | e
    · rw [List.filter_cons_of_pos (p := fun z => decide (z < i + 1)) (show decide (j < i + 1) = true from decide_eq_true (by omega)), List.filter_cons_of_pos (p := fun z => decide (z < i)) (show decide (j < i) = true from decide_eq_true e), ih]
      have q : (i ∈ j :: r) ↔ i ∈ r := by
        rw [List.mem_cons]
        exact ⟨fun h => h.resolve_left (by omega), .inr⟩
      by_cases z : i ∈ r
      · rw [if_pos z, if_pos (q.mpr z)]
        rfl
      · rw [if_neg z, if_neg (fun y => z (q.mp y))]
        rfl
    · subst e
      have n1 : r.filter (fun z => decide (z < j + 1)) = [] := List.filter_eq_nil_iff.mpr fun z hz => by
        have := (hr.mem hz).1
        simp only [decide_eq_true_eq]
        omega
      have n2 : r.filter (fun z => decide (z < j)) = [] := List.filter_eq_nil_iff.mpr fun z hz => by
        have := (hr.mem hz).1
        simp only [decide_eq_true_eq]
        omega
      rw [List.filter_cons_of_pos (p := fun z => decide (z < j + 1)) (show decide (j < j + 1) = true from decide_eq_true (by omega)), List.filter_cons_of_neg (p := fun z => decide (z < j)) (show ¬ decide (j < j) = true by simp), n1, n2, if_pos List.mem_cons_self]
      rfl
    · have n1 : ∀ b : Int, b ≤ j → (j :: r).filter (fun z => decide (z < b)) = [] := fun b hb => List.filter_eq_nil_iff.mpr fun z hz => by
        simp only [decide_eq_true_eq]
        rcases List.mem_cons.mp hz with rfl | hz
        · omega
        · have := (hr.mem hz).1
          omega
      rw [n1 _ (by omega), n1 _ (by omega), if_neg]
      · rfl
      · intro hz
        rcases List.mem_cons.mp hz with rfl | hz
        · omega
        · have := (hr.mem hz).1
          omega
def goodsTo (S : Sto) (done : List Int) (k i : Int) : Int := goods S (done.filter fun z => decide (z < i)) k
theorem goodsTo_zero {S : Sto} {done : List Int} {k m : Int} (h : Rising 0 m done) : goodsTo S done k 0 = hasAt S k := by
  unfold goodsTo goods
  rw [List.filter_eq_nil_iff.mpr, List.map_nil, List.sum_nil, Int.add_zero]
  intro z hz
  have := (h.mem hz).1
  simp only [decide_eq_true_eq]
  omega
theorem goodsTo_all {S : Sto} {done : List Int} {k m : Int} (h : Rising 0 m done) : goodsTo S done k m = goods S done k := by
  unfold goodsTo
  rw [List.filter_eq_self.mpr]
  intro z hz
  exact decide_eq_true (h.mem hz).2
theorem goodsTo_succ {S : Sto} {done : List Int} {k i m : Int} (h : Rising 0 m done) : goodsTo S done k (i + 1) = goodsTo S done k i + (if i ∈ done then delta S k i else 0) := by
  unfold goodsTo goods
  rw [h.upto, List.map_append, List.sum_append]
  by_cases e : i ∈ done
  · rw [if_pos e, if_pos e]
    simp only [List.map_cons, List.map_nil, List.sum_cons, List.sum_nil]
    omega
  · rw [if_neg e, if_neg e]
    simp only [List.map_nil, List.sum_nil]
    omega
section
variable {P : Program} {w : World} {K : PySem.W.Frag} {mg : Str → Option Value} {base : Heap}
def spHasNow (K : PySem.W.Frag) (C : Addr) : Sp := fun vs H Q _ => ∃ (p d : Addr) (k : Int) (S : Sto) (done : List Int), vs = [.ref p, .ref d, .int k] ∧ Ob K C H p S ∧ SqT K H d (done.map V.int) ∧ 0 ≤ k ∧ k < S.shelves.length ∧ Rising 0 S.wishes.length done ∧
  ∀ H', Same H H' → Q (.int (goods S done k)) H'
/-! _has_now: 0 store, 1 done, 2 shelf, 3 _, 4 has, 5 number, 6 kind, 7 place -/
abbrev s__has_now : Stmt := topS 20
abbrev N__has_now : List Str := ["store", "done", "shelf", "_", "has", "number", "kind", "place"]
theorem sc__has_now : FnScope N__has_now ["store", "done", "shelf"] (defScope s__has_now) := ⟨rfl, rfl, rfl, by decide +kernel, rfl, by decide +kernel, by decide +kernel⟩
theorem ok__has_now {f C fI fS fW : Addr} {fd fdI fdS fdW : FuncData} (D : Dfs K mg "_has_now" s__has_now ["store", "done", "shelf"] f fd) (T : Tx K mg) (TS : TSx K mg C fI fS fW fdI fdS fdW) (G_shelves : FnOk P w K mg base CX0 1 fS fdS ["self"] (spShelvesM K C)) (G_wishes : FnOk P w K mg base CX0 1 fW fdW ["self"] (spWishesM K C)) :
    Cal P w K mg base 2 "_has_now" ["store", "done", "shelf"] (spHasNow K C) f fd := by
  refine D.cal (D.F.ok sc__has_now (fun vs H Q E h => ?_) (fun cdv A outer s H vs Q E hr h => ?_))
  · obtain ⟨p, d, k, S, done, rfl, _⟩ := h
    rfl
  · obtain ⟨p, d, k, S, done, rfl, ob, hd, k0, k1, hz, q⟩ := h
    obtain ⟨dx, l, m, xs, ys, o⟩ := id ob
    obtain ⟨sh, hsh, _, ehas, _⟩ := shelf_at_k k0 k1
    refine ⟨_, (pss_cons (ps_asg (pe_ix (kix_list (K := K)) (pe_meth0 (pv 0) TS.cl TS.m_shelves G_shelves (hr.mono (by decide)) TS.b_shelves .nil pass0) (pv 2) (fun _ _ => rfl)) (pg_tup (by rfl) (pgs_cons (pg_name (i := 3) sc__has_now.nd rfl (Or.inl rfl)) (pgs_cons (pg_name (i := 4) sc__has_now.nd rfl (Or.inl rfl)) (pgs_cons (pg_name (i := 3) sc__has_now.nd rfl (Or.inl rfl)) pgs_nil)))))
      (pss_cons (ps_for PassesOwn.never rfl (pi_enum (by rfl) T.n_enumerate (pa_cons (pe_meth0 (pv 0) TS.cl TS.m_wishes G_wishes (hr.mono (by decide)) TS.b_wishes .nil pass0) pa_nil)) (pg_tup (by rfl) (pgs_cons (pg_name (i := 5) sc__has_now.nd rfl (Or.inl rfl)) (pgs_cons (pg_tup (by rfl) (pgs_cons (pg_name (i := 6) sc__has_now.nd rfl (Or.inl rfl)) (pgs_cons (pg_name (i := 7) sc__has_now.nd rfl (Or.inl rfl)) (pgs_cons (pg_name (i := 3) sc__has_now.nd rfl (Or.inl rfl)) (pgs_cons (pg_name (i := 3) sc__has_now.nd rfl (Or.inl rfl)) (pgs_cons (pg_name (i := 3) sc__has_now.nd rfl (Or.inl rfl)) (pgs_cons (pg_name (i := 3) sc__has_now.nd rfl (Or.inl rfl)) pgs_nil))))))) pgs_nil))) (pss_one (ps_if (PW.pt (pw_and (pt_cmpR (kin_seq (K := K)) (pv 5) (pv 1) (by rfl)) (pw_and1 (pt_cmpR op_eq (pv 7) (pv 2) (nomark _))))) (pss_one (ps_set (i := 4) sc__has_now.nd rfl (Or.inl rfl) (pe_ifExp (pt_cmpR op_eq (pv 6) pe_str (nomark _)) (pe_op op_sub (pv 4) pe_int) (pe_op op_add (pv 4) pe_int)))) pss_nil)))
      (pss_one (ps_ret (pv 4))))), ?_⟩
    -- _, has, _ = store.shelves()[shelf]
    refine ⟨_, rfl, p, dx, _, rfl, o.o, fsS_m1, p, S, rfl, ob, fun r zs nr dzs => ?_⟩
    obtain ⟨a, ha, hT⟩ := shelf_get dzs hsh
    have s1 := same_new (o := .lst zs) nr
    refine ⟨_, rfl, r, zs, k, .ref a, rfl, rfl, lst_new, at_of (j := k.toNat) (by omega) ha, a, _, rfl, Same.t s1 hT, rfl, _, _, rfl, _, _, rfl, _, _, rfl, rfl, ?_⟩
    -- for number, (kind, place, ..) in enumerate(store.wishes())
    refine ⟨_, rfl, p, dx, _, rfl, s1 _ _ o.o, fsS_m2, p, S, rfl, ob.mono s1, fun r2 us nr2 dus => ?_⟩
    have s2 := s1.trans (same_new (o := .lst us) nr2)
    have hus : SqL K (upd (upd H r (.lst zs)) r2 (.lst us)) r2 us := lst_new
    have dus2 := dps_mono (same_new (o := .lst us) nr2) dus
    have lus : us.length = S.wishes.length := (dps_len dus).trans (List.length_map ..)
    generalize upd (upd H r (.lst zs)) r2 (.lst us) = H2 at s2 hus dus2
    refine ⟨r2, us, rfl, hus, for_enum (K := K) (a := r2) (xs := us) (fun i σ H' => Same H2 H' ∧ ∃ v3 v5 v6 v7 : Option V, σ = [some (.ref p), some (.ref d), some (.int k), v3, some (.int (goodsTo S done k (i : Nat))), v5, v6, v7])
      ⟨Same.refl _, some (.int sh.sticks), none, none, none, ?_⟩ (fun i σ H' _ h => Same.l h.1 hus) ?_ ?_⟩
    · rw [show ((0 : Nat) : Int) = 0 from rfl, goodsTo_zero hz, ehas]
      rfl
    · rintro i y σ H' pt hy ⟨sH, v3, v5, v6, v7, rfl⟩ npt
      have hi : i < us.length := (List.getElem?_eq_some_iff.mp hy).1
      have z0 : (0 : Int) ≤ (i : Nat) := Int.natCast_nonneg _
      have z1 : ((i : Nat) : Int) < S.wishes.length := by omega
      obtain ⟨x, hx, _⟩ := wish_at_k z0 z1
      obtain ⟨b, t, hb, hbT, _⟩ := wish_get dus2 hx
      rw [Int.toNat_natCast, hy] at hb
      cases hb
      have sHp := sH.trans (same_new (o := .tup [.int (i : Nat), .ref b]) npt)
      have eg := goodsTo_succ (S := S) (k := k) (i := (i : Nat)) hz
      have ed : delta S k (i : Nat) = if x.shelf = k then (if x.kind = "fetch" then -1 else 1) else 0 := by
        unfold delta
        rw [hx]
      rw [ed] at eg
      have fin : ∀ g : Int, g = goodsTo S done k ((i : Nat) + 1) → Same H2 (upd H' pt (.tup [.int (i : Nat), .ref b])) ∧ ∃ v3 v5 v6 v7 : Option V, [some (V.ref p), some (.ref d), some (.int k), some (.ref t), some (.int g), some (.int (i : Nat)), some (.str x.kind), some (.int x.shelf)] = [some (.ref p), some (.ref d), some (.int k), v3, some (.int (goodsTo S done k ((i + 1 : Nat) : Int))), v5, v6, v7] := by
        rintro g rfl
        exact ⟨sHp, _, _, _, _, by rw [Int.natCast_succ]⟩
      refine ⟨pt, _, rfl, tup_new, rfl, _, _, rfl, _, _, rfl, b, _, rfl, Same.t sHp hbT, rfl, _, _, rfl, _, _, rfl, _, _, rfl, _, _, rfl, _, _, rfl, _, _, rfl, rfl, rfl, ?_⟩
      refine ⟨_, rfl, _, rfl, d, _, rfl, .inr (Same.t (s2.trans sHp) hd), rfl, flat_ints done, _, rfl, ?_⟩
      rw [show (if false = true then !inV (V.int (i : Nat)) (done.map V.int) else inV (V.int (i : Nat)) (done.map V.int)) = decide (((i : Nat) : Int) ∈ done) from (if_neg Bool.false_ne_true).trans (Bool.eq_iff_iff.mpr (inV_ints.trans decide_eq_true_iff.symm))]
      by_cases h0 : ((i : Nat) : Int) ∈ done
      · rw [if_pos h0] at eg
        refine itD h0 ⟨_, rfl, _, rfl, rfl, _, rfl, ?_⟩
        by_cases h1 : x.shelf = k
        · rw [if_pos h1] at eg
          refine itD (by rw [h1]) ⟨_, rfl, rfl, _, rfl, ?_⟩
          by_cases h2 : x.kind = "fetch"
          · rw [if_pos h2] at eg
            exact itD (by rw [h2]) ⟨_, rfl, _, 1, rfl, rfl, fin _ (by omega)⟩
          · rw [if_neg h2] at eg
            exact itF (sne h2) ⟨_, rfl, _, 1, rfl, rfl, fin _ (by omega)⟩
        · rw [if_neg h1] at eg
          exact itF (ine h1) (fin _ (by omega))
      · rw [if_neg h0] at eg
        exact itF h0 (iteF (fin _ (by omega)))
    · rintro σ H' ⟨sH, v3, v5, v6, v7, rfl⟩
      rw [lus, goodsTo_all hz]
      exact ⟨_, rfl, q _ (s2.trans sH)⟩
def spBeside : Sp := fun vs H Q _ => ∃ (a k : Int) (side : Str), vs = [.int a, .int k, .str side] ∧ ∀ H', Same H H' → Q (.bl (beside a k side)) H'
/-! _is_beside: 0 aisle, 1 shelf, 2 side -/
abbrev s__is_beside : Stmt := topS 19
abbrev N__is_beside : List Str := ["aisle", "shelf", "side"]
theorem sc__is_beside : FnScope N__is_beside ["aisle", "shelf", "side"] (defScope s__is_beside) := ⟨rfl, rfl, rfl, by decide +kernel, rfl, by decide +kernel, by decide +kernel⟩
theorem ok__is_beside {f : Addr} {fd : FuncData} (D : Dfs K mg "_is_beside" s__is_beside ["aisle", "shelf", "side"] f fd) : Cal P w K mg base 1 "_is_beside" ["aisle", "shelf", "side"] spBeside f fd := by
  refine D.cal (D.F.ok sc__is_beside (fun vs H Q E h => ?_) (fun cdv A outer s H vs Q E hr h => ?_))
  · obtain ⟨a, k, side, rfl, _⟩ := h
    rfl
  · obtain ⟨a, k, side, rfl, q⟩ := h
    refine ⟨_, (pss_cons (ps_if (pt_cmpR op_eq (pv 2) pe_str (nomark _)) (pss_one (ps_ret (pe_cmpR op_eq (pv 0) (pv 1) (nomark _)))) pss_nil)
      (pss_cons (ps_if (pt_cmpR op_eq (pv 2) pe_str (nomark _)) (pss_one (ps_ret (pe_cmpR op_eq (pv 0) (pe_op op_add (pv 1) pe_int) (nomark _)))) pss_nil)
      (pss_one (ps_ret (pe_cmpR (kin_seq (K := K)) (pv 0) (pe_tup (pa_cons (pv 1) (pa_cons (pe_op op_add (pv 1) pe_int) pa_nil))) (by rfl)))))), ?_⟩
    refine ⟨_, rfl, rfl, _, rfl, ?_⟩
    by_cases h1 : side = "left"
    · refine itD (by rw [h1]) ⟨_, rfl, _, rfl, rfl, ?_⟩
      have e : decide (V.int a = V.int k) = beside a k side := by
        unfold beside
        rw [if_pos h1]
        exact decide_eq_decide.mpr ⟨V.int.inj, congrArg V.int⟩
      show Q (.bl (decide (V.int a = V.int k))) H
      rw [e]
      exact q H (Same.refl H)
    refine itF (sne h1) ⟨_, rfl, rfl, _, rfl, ?_⟩
    by_cases h2 : side = "right"
    · refine itD (by rw [h2]) ⟨_, rfl, _, rfl, _, _, rfl, rfl, rfl, ?_⟩
      have e : decide (V.int a = V.int (k + 1)) = beside a k side := by
        unfold beside
        rw [if_neg h1, if_pos h2]
        exact decide_eq_decide.mpr ⟨V.int.inj, congrArg V.int⟩
      show Q (.bl (decide (V.int a = V.int (k + 1)))) H
      rw [e]
      exact q H (Same.refl H)
    refine itF (sne h2) ⟨_, rfl, _, rfl, _, rfl, _, _, rfl, rfl, small (by simp), fun p np => ⟨p, _, rfl, .inr tup_new, rfl, rfl, ?_⟩⟩
    have e : (if false = true then !inV (V.int a) [V.int k, V.int (k + 1)] else inV (V.int a) [V.int k, V.int (k + 1)]) = beside a k side := by
      rw [if_neg Bool.false_ne_true]
      unfold beside
      rw [if_neg h1, if_neg h2]
      have e := inV_ints (x := a) (l := [k, k + 1])
      rw [List.mem_cons, List.mem_singleton] at e
      have e' : inV (V.int a) [V.int k, V.int (k + 1)] = true ↔ a = k ∨ a = k + 1 := e
      rw [Bool.eq_iff_iff, e', decide_eq_true_iff]
    show Q (.bl (if false = true then !inV (V.int a) [V.int k, V.int (k + 1)] else inV (V.int a) [V.int k, V.int (k + 1)])) _
    rw [e]
    exact q _ (same_new np)
end

theorem ok_wait : PyData.strOk "wait" = true := by decide +kernel
theorem ok_shift : PyData.strOk "shift" = true := by decide +kernel
theorem ok_in : PyData.strOk "in" = true := by decide +kernel
theorem ok_out : PyData.strOk "out" = true := by decide +kernel
theorem ok_do : PyData.strOk "do" = true := by decide +kernel
theorem Stp.lay : ∀ t : Stp, Lay 1 t.d
  | .wait => (Lays.cons (lay_str ok_wait) lays_nil).tup
  | .shift _ => (Lays.cons (lay_str ok_shift) (Lays.cons lay_int lays_nil)).tup
  | .cin _ => (Lays.cons (lay_str ok_in) (Lays.cons lay_int lays_nil)).tup
  | .cout _ => (Lays.cons (lay_str ok_out) (Lays.cons lay_int lays_nil)).tup
  | .wish _ => (Lays.cons (lay_str ok_do) (Lays.cons lay_int lays_nil)).tup
theorem Sta.lay (s : Sta) : Lay 2 s.d := (Lays.cons lay_int (Lays.cons (lays_ints _).tup (Lays.cons (lays_ints _).tup (Lays.cons lay_int lays_nil)))).tup
def dsteps (l : List Stp) : List PyData := l.map Stp.d
theorem steps_lays (l : List Stp) : Lays 1 (dsteps l) := .all fun d hd => by
  obtain ⟨i, _, rfl⟩ := List.mem_map.mp hd
  exact i.lay
def fixedSteps : List Stp := [.wait, .shift (-1), .shift 1, .cin 0, .cin 1, .cout 0, .cout 1]
def allSteps (m : Nat) : List Stp := fixedSteps ++ (List.range m).map fun (k : Nat) => Stp.wish (k : Int)
theorem mem_allSteps {m : Nat} {t : Stp} (h : StpOk m t) : t ∈ allSteps m := by
  unfold allSteps fixedSteps
  cases t with
  | wait => simp
  | shift b => rcases h with rfl | rfl <;> simp
  | cin c => rcases h with rfl | rfl <;> simp
  | cout c => rcases h with rfl | rfl <;> simp
  | wish n =>
    obtain ⟨h0, h1⟩ := h
    refine List.mem_append_right _ (List.mem_map.mpr ⟨n.toNat, List.mem_range.mpr (by omega), ?_⟩)
    rw [Int.toNat_of_nonneg h0]
theorem allSteps_ok {m : Nat} {t : Stp} (h : t ∈ allSteps m) : StpOk m t := by
  rcases List.mem_append.mp h with h | h
  · simp only [fixedSteps, List.mem_cons, List.not_mem_nil, or_false] at h
    rcases h with rfl | rfl | rfl | rfl | rfl | rfl | rfl
    · trivial
    · exact .inl rfl
    · exact .inr rfl
    · exact .inl rfl
    · exact .inr rfl
    · exact .inl rfl
    · exact .inr rfl
  · obtain ⟨k, hk, rfl⟩ := List.mem_map.mp h
    exact ⟨Int.natCast_nonneg _, by have := List.mem_range.mp hk; omega⟩
theorem find_take {l : List Int} {p : Int → Bool} {i : Nat} {z : Int} (h : ∀ y ∈ l.take i, p y = false) (hi : l[i]? = some z) (hz : p z = true) : l.find? p = some z := by
  obtain ⟨h1, h2⟩ := List.getElem?_eq_some_iff.mp hi
  have e : l = l.take i ++ z :: l.drop (i + 1) := by
    have e := List.drop_eq_getElem_cons h1
    rw [h2] at e
    rw [← e, List.take_append_drop]
  rw [e, List.find?_append, List.find?_eq_none.mpr (fun y hy => by rw [h y hy]; decide), Option.none_or, List.find?_cons_of_pos hz]
section
variable {P : Program} {w : World} {K : PySem.W.Frag} {mg : Str → Option Value} {base : Heap}
/-- a def that hands back data, and leaves all as it was -/
def Ret (K : PySem.W.Frag) (H : Hp) (Q : VK) (d : PyData) : Prop := ∀ v H', Same H H' → Dp K H' v d → Q v H'
def spBarLoad (K : PySem.W.Frag) (C : Addr) : Sp := fun vs H Q _ => ∃ (p d : Addr) (kind : Str) (k : Int) (S : Sto) (done : List Int), vs = [.ref p, .ref d, .str kind, .int k] ∧ Ob K C H p S ∧ SqT K H d (done.map V.int) ∧ 0 ≤ k ∧ k < S.shelves.length ∧ Rising 0 S.wishes.length done ∧
  Ret K H Q (dbar (barLoad S done kind k))
/-! _bar_of_load: 0 store, 1 done, 2 kind, 3 shelf, 4 room, 5 _, 6 has -/
abbrev s__bar_of_load : Stmt := topS 18
abbrev N__bar_of_load : List Str := ["store", "done", "kind", "shelf", "room", "_", "has"]
theorem sc__bar_of_load : FnScope N__bar_of_load ["store", "done", "kind", "shelf"] (defScope s__bar_of_load) := ⟨rfl, rfl, rfl, by decide +kernel, rfl, by decide +kernel, by decide +kernel⟩
theorem ok__bar_of_load {f f1 C fI fS fW : Addr} {fd fd1 fdI fdS fdW : FuncData} (D : Dfs K mg "_bar_of_load" s__bar_of_load ["store", "done", "kind", "shelf"] f fd) (TS : TSx K mg C fI fS fW fdI fdS fdW) (G_shelves : FnOk P w K mg base CX0 1 fS fdS ["self"] (spShelvesM K C))
    (C__has_now : Cal P w K mg base 2 "_has_now" ["store", "done", "shelf"] (spHasNow K C) f1 fd1) : Cal P w K mg base 3 "_bar_of_load" ["store", "done", "kind", "shelf"] (spBarLoad K C) f fd := by
  refine D.cal (D.F.ok sc__bar_of_load (fun vs H Q E h => ?_) (fun cdv A outer s H vs Q E hr h => ?_))
  · obtain ⟨p, d, kind, k, S, done, rfl, _⟩ := h
    rfl
  · obtain ⟨p, d, kind, k, S, done, rfl, ob, hd, k0, k1, hz, q⟩ := h
    obtain ⟨dx, l, m, xs, ys, o⟩ := id ob
    obtain ⟨sh, hsh, _, _, eroom⟩ := shelf_at_k k0 k1
    refine ⟨_, (pss_cons (ps_asg (pe_ix (kix_list (K := K)) (pe_meth0 (pv 0) TS.cl TS.m_shelves G_shelves (hr.mono (by decide)) TS.b_shelves .nil pass0) (pv 3) (fun _ _ => rfl)) (pg_tup (by rfl) (pgs_cons (pg_name (i := 4) sc__bar_of_load.nd rfl (Or.inl rfl)) (pgs_cons (pg_name (i := 5) sc__bar_of_load.nd rfl (Or.inl rfl)) (pgs_cons (pg_name (i := 5) sc__bar_of_load.nd rfl (Or.inl rfl)) pgs_nil)))))
      (pss_cons (ps_set (i := 6) sc__bar_of_load.nd rfl (Or.inl rfl) (pe_call C__has_now.G (hr.mono (by decide)) (by rfl) C__has_now.g C__has_now.kp C__has_now.b .nil pass0 (pa_cons (pv 0) (pa_cons (pv 1) (pa_cons (pv 3) pa_nil)))))
      (pss_cons (ps_if (PW.pt (pw_and (pt_cmpR op_eq (pv 2) pe_str (nomark _)) (pw_and1 (pt_cmpR op_eq (pv 6) pe_int (nomark _))))) (pss_one (ps_ret (pe_tup (pa_cons pe_str (pa_cons (pv 3) pa_nil))))) pss_nil)
      (pss_cons (ps_if (PW.pt (pw_and (pt_cmpR op_eq (pv 2) pe_str (nomark _)) (pw_and1 (pt_cmpR op_eq (pv 6) (pv 4) (nomark _))))) (pss_one (ps_ret (pe_tup (pa_cons pe_str (pa_cons (pv 3) pa_nil))))) pss_nil)
      (pss_one (ps_ret pe_non)))))), ?_⟩
    refine ⟨_, rfl, p, dx, _, rfl, o.o, fsS_m1, p, S, rfl, ob, fun r zs nr dzs => ?_⟩
    obtain ⟨a, ha, hT⟩ := shelf_get dzs hsh
    have s1 := same_new (o := .lst zs) nr
    refine ⟨_, rfl, r, zs, k, .ref a, rfl, rfl, lst_new, at_of (j := k.toNat) (by omega) ha, a, _, rfl, Same.t s1 hT, rfl, _, _, rfl, _, _, rfl, _, _, rfl, rfl, ?_⟩
    refine ⟨_, rfl, _, rfl, _, rfl, p, d, k, S, done, rfl, ob.mono s1, Same.t s1 hd, k0, k1, hz, fun H2 s2 => ?_⟩
    have s12 := s1.trans s2
    refine ⟨_, rfl, rfl, _, rfl, ?_⟩
    unfold barLoad at q
    rw [eroom] at q
    by_cases e1 : kind = "fetch"
    · refine itD (by rw [e1]) ⟨_, rfl, rfl, _, rfl, ?_⟩
      by_cases e2 : goods S done k = 0
      · rw [if_pos ⟨e1, e2⟩] at q
        exact itD (by rw [e2]) ⟨_, rfl, small (by simp), fun pt npt => q _ _ (Same.new s12 npt) two_new⟩
      · rw [if_neg (fun z => e2 z.2), if_neg (fun z => by rw [e1] at z; exact absurd z.1 (by decide +kernel))] at q
        refine itF (ine e2) ⟨_, rfl, rfl, _, rfl, itF (sne (by rw [e1]; decide +kernel)) (iteF ?_)⟩
        exact q _ _ s12 .non
    · rw [if_neg (fun z => e1 z.1)] at q
      refine itF (sne e1) (iteF ⟨_, rfl, rfl, _, rfl, ?_⟩)
      by_cases e3 : kind = "bring"
      · refine itD (by rw [e3]) ⟨_, rfl, _, rfl, rfl, _, rfl, ?_⟩
        by_cases e2 : goods S done k = sh.room
        · rw [if_pos ⟨e3, e2⟩] at q
          exact itD (by rw [e2]) ⟨_, rfl, small (by simp), fun pt npt => q _ _ (Same.new s12 npt) two_new⟩
        · rw [if_neg (fun z => e2 z.2)] at q
          exact itF (ine e2) (q _ _ s12 .non)
      · rw [if_neg (fun z => e3 z.1)] at q
        exact itF (sne e3) (iteF (q _ _ s12 .non))
def spBarWish (K : PySem.W.Frag) (C : Addr) : Sp := fun vs H Q _ => ∃ (p : Addr) (v : V) (n : Int) (S : Sto) (s : Sta), vs = [.ref p, v, .int n] ∧ Ob K C H p S ∧ Dp K H v s.d ∧ StoOk S ∧ Rising 0 S.wishes.length s.done ∧ 0 ≤ n ∧ n < S.wishes.length ∧
  Ret K H Q (dbar (barWish S s n))
/-! _bar_of_wish: 0 store, 1 state, 2 wish, 3 aisle, 4 done, 5 inside, 6 _, 7 kind, 8 shelf, 9 side, 10 crew, 11 after, 12 earlier -/
abbrev s__bar_of_wish : Stmt := topS 17
abbrev N__bar_of_wish : List Str := ["store", "state", "wish", "aisle", "done", "inside", "_", "kind", "shelf", "side", "crew", "after", "earlier"]
theorem sc__bar_of_wish : FnScope N__bar_of_wish ["store", "state", "wish"] (defScope s__bar_of_wish) := ⟨rfl, rfl, rfl, by decide +kernel, rfl, by decide +kernel, by decide +kernel⟩
theorem ok__bar_of_wish {f f1 f2 C fI fS fW : Addr} {fd fd1 fd2 fdI fdS fdW : FuncData} (D : Dfs K mg "_bar_of_wish" s__bar_of_wish ["store", "state", "wish"] f fd) (TS : TSx K mg C fI fS fW fdI fdS fdW) (G_wishes : FnOk P w K mg base CX0 1 fW fdW ["self"] (spWishesM K C))
    (C__bar_of_load : Cal P w K mg base 3 "_bar_of_load" ["store", "done", "kind", "shelf"] (spBarLoad K C) f1 fd1) (C__is_beside : Cal P w K mg base 1 "_is_beside" ["aisle", "shelf", "side"] spBeside f2 fd2) :
    Cal P w K mg base 4 "_bar_of_wish" ["store", "state", "wish"] (spBarWish K C) f fd := by
  refine D.cal (D.F.ok sc__bar_of_wish (fun vs H Q E h => ?_) (fun cdv A outer s H vs Q E hr h => ?_))
  · obtain ⟨p, v, n, S, s, rfl, _⟩ := h
    rfl
  · obtain ⟨p, v, n, S, st, rfl, ob, hv, ok, hz, n0, n1, q⟩ := h
    obtain ⟨dx, l, m, xs, ys, o⟩ := id ob
    obtain ⟨x, hx, hmem⟩ := wish_at_k n0 n1
    have okx := ok.ws x hmem
    obtain ⟨sa, d, i, rfl, hsa, hd, hi⟩ := sta_at hv
    refine ⟨_, (pss_cons (ps_asg (pv 1) (pg_tup (by rfl) (pgs_cons (pg_name (i := 3) sc__bar_of_wish.nd rfl (Or.inl rfl)) (pgs_cons (pg_name (i := 4) sc__bar_of_wish.nd rfl (Or.inl rfl)) (pgs_cons (pg_name (i := 5) sc__bar_of_wish.nd rfl (Or.inl rfl)) (pgs_cons (pg_name (i := 6) sc__bar_of_wish.nd rfl (Or.inl rfl)) pgs_nil))))))
      (pss_cons (ps_asg (pe_ix (kix_list (K := K)) (pe_meth0 (pv 0) TS.cl TS.m_wishes G_wishes (hr.mono (by decide)) TS.b_wishes .nil pass0) (pv 2) (fun _ _ => rfl)) (pg_tup (by rfl) (pgs_cons (pg_name (i := 7) sc__bar_of_wish.nd rfl (Or.inl rfl)) (pgs_cons (pg_name (i := 8) sc__bar_of_wish.nd rfl (Or.inl rfl)) (pgs_cons (pg_name (i := 9) sc__bar_of_wish.nd rfl (Or.inl rfl)) (pgs_cons (pg_name (i := 10) sc__bar_of_wish.nd rfl (Or.inl rfl)) (pgs_cons (pg_name (i := 6) sc__bar_of_wish.nd rfl (Or.inl rfl)) (pgs_cons (pg_name (i := 11) sc__bar_of_wish.nd rfl (Or.inl rfl)) pgs_nil))))))))
      (pss_cons (ps_if (pt_cmpR (kin_seq (K := K)) (pv 2) (pv 4) (by rfl)) (pss_one (ps_ret (pe_tup (pa_cons pe_str (pa_cons (pv 2) pa_nil))))) pss_nil)
      (pss_cons (ps_for PassesOwn.never rfl (pi_tup (pv 11)) (pg_name (i := 12) sc__bar_of_wish.nd rfl (Or.inl rfl)) (pss_one (ps_if (pt_cmpR (knotIn_seq (K := K)) (pv 12) (pv 4) (by rfl)) (pss_one (ps_ret (pe_tup (pa_cons pe_str (pa_cons (pv 12) pa_nil))))) pss_nil)))
      (pss_cons (ps_if (pt_cmpR (knotIn_seq (K := K)) (pv 10) (pv 5) (by rfl)) (pss_one (ps_ret (pe_tup (pa_cons pe_str (pa_cons (pv 10) pa_nil))))) pss_nil)
      (pss_cons (ps_if (pt_not (pt_val (pe_call C__is_beside.G (hr.mono (by decide)) (by rfl) C__is_beside.g C__is_beside.kp C__is_beside.b .nil pass0 (pa_cons (pv 3) (pa_cons (pv 8) (pa_cons (pv 9) pa_nil)))))) (pss_one (ps_ret (pe_tup (pa_cons pe_str (pa_cons (pv 3) pa_nil))))) pss_nil)
      (pss_one (ps_ret (pe_call C__bar_of_load.G (hr.mono (by decide)) (by rfl) C__bar_of_load.g C__bar_of_load.kp C__bar_of_load.b .nil pass0 (pa_cons (pv 0) (pa_cons (pv 4) (pa_cons (pv 7) (pa_cons (pv 8) pa_nil))))))))))))), ?_⟩
    refine ⟨_, rfl, sa, _, rfl, hsa, rfl, _, _, rfl, _, _, rfl, _, _, rfl, _, _, rfl, rfl, ?_⟩
    refine ⟨_, rfl, p, dx, _, rfl, o.o, fsS_m2, p, S, rfl, ob, fun r zs nr dzs => ?_⟩
    obtain ⟨a, t, ha, hT, ht⟩ := wish_get dzs hx
    have s1 := same_new (o := .lst zs) nr
    replace hT := Same.t s1 hT
    replace ht := Same.t s1 ht
    refine ⟨_, rfl, r, zs, n, .ref a, rfl, rfl, lst_new, at_of (j := n.toNat) (by omega) ha, a, _, rfl, hT, rfl, _, _, rfl, _, _, rfl, _, _, rfl, _, _, rfl, _, _, rfl, _, _, rfl, rfl, ?_⟩
    have hd1 := Same.t s1 hd
    have hi1 := Same.t s1 hi
    have ob1 := ob.mono s1
    unfold barWish at q
    rw [hx] at q
    dsimp only at q
    generalize upd H r (.lst zs) = H1 at s1 hd1 hi1 ob1 hT ht
    refine ⟨_, rfl, _, rfl, d, _, rfl, .inr hd1, rfl, flat_ints _, _, rfl, ?_⟩
    by_cases e1 : n ∈ st.done
    · rw [if_pos e1] at q
      exact in_y e1 ⟨_, rfl, small (by simp), fun pt npt => q _ _ (Same.new s1 npt) two_new⟩
    rw [if_neg e1] at q
    refine in_n e1 ?_
    -- for earlier in after
    refine ⟨_, rfl, t, rfl, ⟨_, ht⟩, for_tup (K := K) (a := t) (xs := x.after.map V.int) (fun j σ H' => H' = H1 ∧ (∀ z ∈ x.after.take j, z ∈ st.done) ∧ ∃ v12 : Option V, σ = [some (.ref p), some (.ref sa), some (.int n), some (.int st.aisle), some (.ref d), some (.ref i), some (.int x.keep), some (.str x.kind), some (.int x.shelf), some (.str x.side), some (.int x.crew), some (.ref t), v12])
      ⟨rfl, fun z hz => absurd hz (by simp), none, rfl⟩ (fun j σ H' _ h => by rw [h.1]; exact ht) ?_ ?_⟩
    · rintro j y σ H' hj ⟨rfl, hall, v12, rfl⟩
      obtain ⟨z, hzj, rfl⟩ := int_item hj
      refine ⟨_, rfl, _, rfl, d, _, rfl, .inr hd1, rfl, flat_ints _, _, rfl, ?_⟩
      by_cases e2 : z ∈ st.done
      · refine ni_n e2 ⟨rfl, ?_, _, rfl⟩
        intro y hy
        rw [take_snoc hzj] at hy
        rcases List.mem_append.mp hy with hy | hy
        · exact hall y hy
        · rw [List.mem_singleton] at hy
          rw [hy]
          exact e2
      · have ef : x.after.find? (fun z => decide (z ∉ st.done)) = some z := find_take (fun y hy => by rw [decide_eq_false (fun h => h (hall y hy))]) hzj (decide_eq_true e2)
        rw [ef] at q
        exact ni_y e2 ⟨_, rfl, small (by simp), fun pt npt => q _ _ (Same.new s1 npt) two_new⟩
    · rintro σ H' ⟨rfl, hall, v12, rfl⟩
      rw [List.length_map, List.take_length] at hall
      have ef : x.after.find? (fun z => decide (z ∉ st.done)) = none := List.find?_eq_none.mpr fun y hy => by
        rw [decide_eq_false (fun h => h (hall y hy))]
        decide
      rw [ef] at q
      dsimp only at q
      refine ⟨_, rfl, _, rfl, i, _, rfl, .inr hi1, rfl, flat_ints _, _, rfl, ?_⟩
      by_cases e3 : x.crew ∈ st.inside
      · rw [if_neg (fun h => h e3)] at q
        refine ni_n e3 ⟨_, rfl, _, rfl, _, rfl, st.aisle, x.shelf, x.side, rfl, fun H2 s2 => ⟨_, rfl, ?_⟩⟩
        have s12 := s1.trans s2
        cases e4 : beside st.aisle x.shelf x.side with
        | false =>
          rw [e4, if_pos rfl] at q
          exact iteT ⟨_, rfl, small (by simp), fun pt npt => q _ _ (Same.new s12 npt) two_new⟩
        | true =>
          rw [e4, if_neg (by decide)] at q
          exact iteF ⟨_, rfl, _, rfl, _, rfl, _, rfl, p, d, x.kind, x.shelf, S, st.done, rfl, ob1.mono s2, Same.t s2 hd1, okx.s0, okx.s1, hz, fun v H3 s3 h3 => q v H3 (s12.trans s3) h3⟩
      · rw [if_pos e3] at q
        exact ni_y e3 ⟨_, rfl, small (by simp), fun pt npt => q _ _ (Same.new s1 npt) two_new⟩
def spBarIn (K : PySem.W.Frag) : Sp := fun vs H Q _ => ∃ (v : V) (c : Int) (s : Sta), vs = [v, .int c] ∧ Dp K H v s.d ∧ Ret K H Q (dbar (if c ∈ s.inside then some ("is", c) else none))
/-! _bar_of_going_in: 0 state, 1 crew, 2 _, 3 inside -/
abbrev s__bar_of_going_in : Stmt := topS 15
abbrev N__bar_of_going_in : List Str := ["state", "crew", "_", "inside"]
theorem sc__bar_of_going_in : FnScope N__bar_of_going_in ["state", "crew"] (defScope s__bar_of_going_in) := ⟨rfl, rfl, rfl, by decide +kernel, rfl, by decide +kernel, by decide +kernel⟩
theorem ok__bar_of_going_in {f : Addr} {fd : FuncData} (D : Dfs K mg "_bar_of_going_in" s__bar_of_going_in ["state", "crew"] f fd) : Cal P w K mg base 1 "_bar_of_going_in" ["state", "crew"] (spBarIn K) f fd := by
  refine D.cal (D.F.ok sc__bar_of_going_in (fun vs H Q E h => ?_) (fun cdv A outer s H vs Q E hr h => ?_))
  · obtain ⟨v, c, s, rfl, _⟩ := h
    rfl
  · obtain ⟨v, c, st, rfl, hv, q⟩ := h
    obtain ⟨sa, d, i, rfl, hsa, hd, hi⟩ := sta_at hv
    refine ⟨_, (pss_cons (ps_asg (pv 0) (pg_tup (by rfl) (pgs_cons (pg_name (i := 2) sc__bar_of_going_in.nd rfl (Or.inl rfl)) (pgs_cons (pg_name (i := 2) sc__bar_of_going_in.nd rfl (Or.inl rfl)) (pgs_cons (pg_name (i := 3) sc__bar_of_going_in.nd rfl (Or.inl rfl)) (pgs_cons (pg_name (i := 2) sc__bar_of_going_in.nd rfl (Or.inl rfl)) pgs_nil))))))
      (pss_cons (ps_if (pt_cmpR (kin_seq (K := K)) (pv 1) (pv 3) (by rfl)) (pss_one (ps_ret (pe_tup (pa_cons pe_str (pa_cons (pv 1) pa_nil))))) pss_nil)
      (pss_one (ps_ret pe_non)))), ?_⟩
    refine ⟨_, rfl, sa, _, rfl, hsa, rfl, _, _, rfl, _, _, rfl, _, _, rfl, _, _, rfl, rfl, ?_⟩
    refine ⟨_, rfl, _, rfl, i, _, rfl, .inr hi, rfl, flat_ints _, _, rfl, ?_⟩
    by_cases e1 : c ∈ st.inside
    · rw [if_pos e1] at q
      exact in_y e1 ⟨_, rfl, small (by simp), fun pt npt => q _ _ (same_new npt) two_new⟩
    · rw [if_neg e1] at q
      exact in_n e1 (q _ _ (Same.refl _) .non)
def spBarOut (K : PySem.W.Frag) : Sp := fun vs H Q _ => ∃ (v : V) (c : Int) (s : Sta), vs = [v, .int c] ∧ Dp K H v s.d ∧ Ret K H Q (dbar (if c ∈ s.inside then none else some ("isnt", c)))
/-! _bar_of_going_out: 0 state, 1 crew, 2 _, 3 inside -/
abbrev s__bar_of_going_out : Stmt := topS 16
abbrev N__bar_of_going_out : List Str := ["state", "crew", "_", "inside"]
theorem sc__bar_of_going_out : FnScope N__bar_of_going_out ["state", "crew"] (defScope s__bar_of_going_out) := ⟨rfl, rfl, rfl, by decide +kernel, rfl, by decide +kernel, by decide +kernel⟩
theorem ok__bar_of_going_out {f : Addr} {fd : FuncData} (D : Dfs K mg "_bar_of_going_out" s__bar_of_going_out ["state", "crew"] f fd) : Cal P w K mg base 1 "_bar_of_going_out" ["state", "crew"] (spBarOut K) f fd := by
  refine D.cal (D.F.ok sc__bar_of_going_out (fun vs H Q E h => ?_) (fun cdv A outer s H vs Q E hr h => ?_))
  · obtain ⟨v, c, s, rfl, _⟩ := h
    rfl
  · obtain ⟨v, c, st, rfl, hv, q⟩ := h
    obtain ⟨sa, d, i, rfl, hsa, hd, hi⟩ := sta_at hv
    refine ⟨_, (pss_cons (ps_asg (pv 0) (pg_tup (by rfl) (pgs_cons (pg_name (i := 2) sc__bar_of_going_out.nd rfl (Or.inl rfl)) (pgs_cons (pg_name (i := 2) sc__bar_of_going_out.nd rfl (Or.inl rfl)) (pgs_cons (pg_name (i := 3) sc__bar_of_going_out.nd rfl (Or.inl rfl)) (pgs_cons (pg_name (i := 2) sc__bar_of_going_out.nd rfl (Or.inl rfl)) pgs_nil))))))
      (pss_cons (ps_if (pt_cmpR (knotIn_seq (K := K)) (pv 1) (pv 3) (by rfl)) (pss_one (ps_ret (pe_tup (pa_cons pe_str (pa_cons (pv 1) pa_nil))))) pss_nil)
      (pss_one (ps_ret pe_non)))), ?_⟩
    refine ⟨_, rfl, sa, _, rfl, hsa, rfl, _, _, rfl, _, _, rfl, _, _, rfl, _, _, rfl, rfl, ?_⟩
    refine ⟨_, rfl, _, rfl, i, _, rfl, .inr hi, rfl, flat_ints _, _, rfl, ?_⟩
    by_cases e1 : c ∈ st.inside
    · rw [if_pos e1] at q
      exact ni_n e1 (q _ _ (Same.refl _) .non)
    · rw [if_neg e1] at q
      exact ni_y e1 ⟨_, rfl, small (by simp), fun pt npt => q _ _ (same_new npt) two_new⟩
def spBarShift (K : PySem.W.Frag) (C : Addr) : Sp := fun vs H Q _ => ∃ (p : Addr) (v : V) (b : Int) (S : Sto) (s : Sta), vs = [.ref p, v, .int b] ∧ Ob K C H p S ∧ Dp K H v s.d ∧ Ret K H Q (dbar (barShift S s b))
/-! _bar_of_shift: 0 store, 1 state, 2 by, 3 aisle, 4 _, 5 inside, 6 kept, 7 shelves, 8 shelf, 9 sticks -/
abbrev s__bar_of_shift : Stmt := topS 14
abbrev N__bar_of_shift : List Str := ["store", "state", "by", "aisle", "_", "inside", "kept", "shelves", "shelf", "sticks"]
theorem sc__bar_of_shift : FnScope N__bar_of_shift ["store", "state", "by"] (defScope s__bar_of_shift) := ⟨rfl, rfl, rfl, by decide +kernel, rfl, by decide +kernel, by decide +kernel⟩
theorem ok__bar_of_shift {f C fI fS fW : Addr} {fd fdI fdS fdW : FuncData} (D : Dfs K mg "_bar_of_shift" s__bar_of_shift ["store", "state", "by"] f fd) (T : Tx K mg) (TS : TSx K mg C fI fS fW fdI fdS fdW) (G_shelves : FnOk P w K mg base CX0 1 fS fdS ["self"] (spShelvesM K C)) :
    Cal P w K mg base 2 "_bar_of_shift" ["store", "state", "by"] (spBarShift K C) f fd := by
  refine D.cal (D.F.ok sc__bar_of_shift (fun vs H Q E h => ?_) (fun cdv A outer s H vs Q E hr h => ?_))
  · obtain ⟨p, v, b, S, s, rfl, _⟩ := h
    rfl
  · obtain ⟨p, v, b, S, st, rfl, ob, hv, q⟩ := h
    obtain ⟨dx, l, m, xs, ys, o⟩ := id ob
    obtain ⟨sa, d, i, rfl, hsa, hd, hi⟩ := sta_at hv
    refine ⟨_, (pss_cons (ps_asg (pv 1) (pg_tup (by rfl) (pgs_cons (pg_name (i := 3) sc__bar_of_shift.nd rfl (Or.inl rfl)) (pgs_cons (pg_name (i := 4) sc__bar_of_shift.nd rfl (Or.inl rfl)) (pgs_cons (pg_name (i := 5) sc__bar_of_shift.nd rfl (Or.inl rfl)) (pgs_cons (pg_name (i := 6) sc__bar_of_shift.nd rfl (Or.inl rfl)) pgs_nil))))))
      (pss_cons (ps_set (i := 7) sc__bar_of_shift.nd rfl (Or.inl rfl) (pe_meth0 (pv 0) TS.cl TS.m_shelves G_shelves (hr.mono (by decide)) TS.b_shelves .nil pass0))
      (C8.pss_cut (ps_set (i := 8) sc__bar_of_shift.nd rfl (Or.inl rfl) (pe_ifExp (pt_cmpR op_eq (pv 2) pe_int (nomark _)) (pv 3) (pe_op op_sub (pv 3) pe_int)))
      (pss_cons (ps_if (pt_not (pt_chain op_le op_lt pe_int (pv 8) (pe_callB (klen (K := K)) (by rfl) T.n_len (by decide +kernel) (pa_cons (pv 7) pa_nil)))) (pss_one (ps_ret (pe_tup (pa_cons pe_str (pa_cons (pv 3) pa_nil))))) pss_nil)
      (pss_cons (ps_asg (pe_ix (kix_list (K := K)) (pv 7) (pv 8) (fun _ _ => rfl)) (pg_tup (by rfl) (pgs_cons (pg_name (i := 4) sc__bar_of_shift.nd rfl (Or.inl rfl)) (pgs_cons (pg_name (i := 4) sc__bar_of_shift.nd rfl (Or.inl rfl)) (pgs_cons (pg_name (i := 9) sc__bar_of_shift.nd rfl (Or.inl rfl)) pgs_nil)))))
      (pss_cons (ps_if (pt_cmpR op_eq (pv 9) pe_int (nomark _)) (pss_one (ps_ret (pe_tup (pa_cons pe_str (pa_cons (pv 8) pa_nil))))) pss_nil)
      (pss_cons (ps_if (pt_cmpR op_gt (pe_callB (klen (K := K)) (by rfl) T.n_len (by decide +kernel) (pa_cons (pv 5) pa_nil)) pe_int (nomark _)) (pss_one (ps_ret (pe_tup (pa_cons pe_str (pa_cons (pe_ix (kix_tup (K := K)) (pv 5) pe_int (fun _ _ => rfl)) pa_nil))))) pss_nil)
      (pss_cons (ps_if (pt_cmpR op_gt (pv 6) pe_int (nomark _)) (pss_one (ps_ret (pe_tup (pa_cons pe_str (pa_cons (pv 6) pa_nil))))) pss_nil)
      (pss_one (ps_ret pe_non)))))))))), ?_⟩
    refine ⟨_, rfl, sa, _, rfl, hsa, rfl, _, _, rfl, _, _, rfl, _, _, rfl, _, _, rfl, rfl, ?_⟩
    refine ⟨_, rfl, p, dx, _, rfl, o.o, fsS_m1, p, S, rfl, ob, fun r zs nr dzs => ?_⟩
    have s1 := same_new (o := .lst zs) nr
    have hr1 : SqL K (upd H r (.lst zs)) r zs := lst_new
    have hi1 := Same.t s1 hi
    have lz : zs.length = S.shelves.length := (dps_len dzs).trans (List.length_map ..)
    have dz1 := dps_mono s1 dzs
    generalize upd H r (.lst zs) = H1 at s1 hr1 hi1 dz1
    refine ⟨fun σ H' => H' = H1 ∧ σ = [some (.ref p), some (.ref sa), some (.int b), some (.int st.aisle), some (.ref d), some (.ref i), some (.int st.kept), some (.ref r), some (.int (if b = 1 then st.aisle else st.aisle - 1)), none], ?_, ?_⟩
    · refine ⟨_, rfl, rfl, _, rfl, ?_⟩
      by_cases e : b = 1
      · refine itD (by rw [e]) ⟨_, rfl, rfl, ?_⟩
        rw [if_pos e]
        rfl
      · refine itF (ine e) ⟨_, rfl, _, 1, rfl, rfl, rfl, ?_⟩
        rw [if_neg e]
        rfl
    · rintro σ H' ⟨rfl, rfl⟩
      unfold barShift at q
      dsimp only at q
      generalize (if b = 1 then st.aisle else st.aisle - 1) = sh at q
      refine ⟨_, rfl, _, _, rfl, rfl, _, rfl, ?_⟩
      by_cases e0 : 0 ≤ sh
      rotate_left
      · rw [if_neg (fun z => e0 z.1)] at q
        exact itF e0 ⟨_, rfl, iteT ⟨_, rfl, small (by simp), fun pt npt => q _ _ (Same.new s1 npt) two_new⟩⟩
      refine itD e0 ⟨_, rfl, r, zs, rfl, .inl hr1, _, _, rfl, rfl, _, rfl, ?_⟩
      by_cases e1 : sh < S.shelves.length
      rotate_left
      · rw [if_neg (fun z => e1 z.2)] at q
        exact itnF (by omega) ⟨_, rfl, small (by simp), fun pt npt => q _ _ (Same.new s1 npt) two_new⟩
      rw [if_pos ⟨e0, e1⟩] at q
      refine iteNS (by omega) ?_
      obtain ⟨x, hx, _⟩ := shelf_at_k e0 e1
      rw [hx] at q
      dsimp only at q
      obtain ⟨a, ha, hT⟩ := shelf_get dz1 hx
      refine ⟨_, rfl, _, rfl, r, zs, sh, .ref a, rfl, rfl, hr1, at_of (j := sh.toNat) (by omega) ha, a, _, rfl, hT, rfl, _, _, rfl, _, _, rfl, _, _, rfl, rfl, ?_⟩
      refine ⟨_, rfl, rfl, _, rfl, ?_⟩
      by_cases e2 : x.sticks = 1
      · rw [if_pos e2] at q
        exact itD (by rw [e2]) ⟨_, rfl, small (by simp), fun pt npt => q _ _ (Same.new s1 npt) two_new⟩
      rw [if_neg e2] at q
      refine itF (ine e2) ⟨_, rfl, i, _, rfl, .inr hi1, _, _, rfl, rfl, _, rfl, ?_⟩
      cases e3 : st.inside with
      | cons c cs =>
        rw [e3] at q hi1
        refine itD (by simp) ⟨_, rfl, i, _, 0, .int c, rfl, rfl, hi1, at_of (j := 0) rfl rfl, small (by simp), fun pt npt => q _ _ (Same.new s1 npt) two_new⟩
      | nil =>
        rw [e3] at q
        dsimp only at q
        refine itF (by simp) ⟨_, rfl, _, _, rfl, rfl, _, rfl, ?_⟩
        by_cases e4 : st.kept > 0
        · rw [if_pos e4] at q
          exact itD e4 ⟨_, rfl, small (by simp), fun pt npt => q _ _ (Same.new s1 npt) two_new⟩
        · rw [if_neg e4] at q
          exact itF e4 (q _ _ s1 .non)
end

structure Ts (K : PySem.W.Frag) (mg : Str → Option Value) : Prop where
  c_STEPS : ∃ (a : Addr) (xs : List V), mg "STEPS_OF_ANY_STORE" = some (.ref a) ∧ ∀ H, SqT K H a xs ∧ DpAll K H xs (dsteps fixedSteps)
section
variable {P : Program} {w : World} {K : PySem.W.Frag} {mg : Str → Option Value} {base : Heap}
def spBar (K : PySem.W.Frag) (C : Addr) : Sp := fun vs H Q _ => ∃ (p : Addr) (v u : V) (S : Sto) (s : Sta) (t : Stp), vs = [.ref p, v, u] ∧ Ob K C H p S ∧ Dp K H v s.d ∧ Dp K H u t.d ∧ StoOk S ∧ Rising 0 S.wishes.length s.done ∧ StpOk S.wishes.length t ∧
  Ret K H Q (dbar (bar S s t))
/-! _bar: 0 store, 1 state, 2 step, 3 word -/
abbrev s__bar : Stmt := topS 13
abbrev N__bar : List Str := ["store", "state", "step", "word"]
theorem sc__bar : FnScope N__bar ["store", "state", "step"] (defScope s__bar) := ⟨rfl, rfl, rfl, by decide +kernel, rfl, by decide +kernel, by decide +kernel⟩
theorem ok__bar {f f1 f2 f3 f4 C : Addr} {fd fd1 fd2 fd3 fd4 : FuncData} (D : Dfs K mg "_bar" s__bar ["store", "state", "step"] f fd) (C__bar_of_shift : Cal P w K mg base 2 "_bar_of_shift" ["store", "state", "by"] (spBarShift K C) f1 fd1)
    (C__bar_of_going_in : Cal P w K mg base 1 "_bar_of_going_in" ["state", "crew"] (spBarIn K) f2 fd2) (C__bar_of_going_out : Cal P w K mg base 1 "_bar_of_going_out" ["state", "crew"] (spBarOut K) f3 fd3) (C__bar_of_wish : Cal P w K mg base 4 "_bar_of_wish" ["store", "state", "wish"] (spBarWish K C) f4 fd4) :
    Cal P w K mg base 5 "_bar" ["store", "state", "step"] (spBar K C) f fd := by
  refine D.cal (D.F.ok sc__bar (fun vs H Q E h => ?_) (fun cdv A outer s H vs Q E hr h => ?_))
  · obtain ⟨p, v, u, S, s, t, rfl, _⟩ := h
    rfl
  · obtain ⟨p, v, u, S, st, t, rfl, ob, hv, hu, ok, hz, ht, q⟩ := h
    refine ⟨_, (pss_cons (ps_set (i := 3) sc__bar.nd rfl (Or.inl rfl) (pe_ix (kix_tup (K := K)) (pv 2) pe_int (fun _ _ => rfl)))
      (pss_cons (ps_if (pt_cmpR op_eq (pv 3) pe_str (nomark _)) (pss_one (ps_ret (pe_call C__bar_of_shift.G (hr.mono (by decide)) (by rfl) C__bar_of_shift.g C__bar_of_shift.kp C__bar_of_shift.b .nil pass0 (pa_cons (pv 0) (pa_cons (pv 1) (pa_cons (pe_ix (kix_tup (K := K)) (pv 2) pe_int (fun _ _ => rfl)) pa_nil)))))) pss_nil)
      (pss_cons (ps_if (pt_cmpR op_eq (pv 3) pe_str (nomark _)) (pss_one (ps_ret (pe_call C__bar_of_going_in.G (hr.mono (by decide)) (by rfl) C__bar_of_going_in.g C__bar_of_going_in.kp C__bar_of_going_in.b .nil pass0 (pa_cons (pv 1) (pa_cons (pe_ix (kix_tup (K := K)) (pv 2) pe_int (fun _ _ => rfl)) pa_nil))))) pss_nil)
      (pss_cons (ps_if (pt_cmpR op_eq (pv 3) pe_str (nomark _)) (pss_one (ps_ret (pe_call C__bar_of_going_out.G (hr.mono (by decide)) (by rfl) C__bar_of_going_out.g C__bar_of_going_out.kp C__bar_of_going_out.b .nil pass0 (pa_cons (pv 1) (pa_cons (pe_ix (kix_tup (K := K)) (pv 2) pe_int (fun _ _ => rfl)) pa_nil))))) pss_nil)
      (pss_cons (ps_if (pt_cmpR op_eq (pv 3) pe_str (nomark _)) (pss_one (ps_ret (pe_call C__bar_of_wish.G (hr.mono (by decide)) (by rfl) C__bar_of_wish.g C__bar_of_wish.kp C__bar_of_wish.b .nil pass0 (pa_cons (pv 0) (pa_cons (pv 1) (pa_cons (pe_ix (kix_tup (K := K)) (pv 2) pe_int (fun _ _ => rfl)) pa_nil)))))) pss_nil)
      (pss_one (ps_ret pe_non))))))), ?_⟩
    cases t with
    | wait =>
      obtain ⟨a, rfl, ha⟩ := dp_one hu
      refine ⟨_, rfl, a, _, 0, .str "wait", rfl, rfl, ha, rfl, ?_⟩
      refine ⟨_, rfl, rfl, _, rfl, itF (sne (by decide +kernel)) ⟨_, rfl, rfl, _, rfl, itF (sne (by decide +kernel)) ⟨_, rfl, rfl, _, rfl, itF (sne (by decide +kernel)) ⟨_, rfl, rfl, _, rfl, itF (sne (by decide +kernel)) ?_⟩⟩⟩⟩
      exact q _ _ (Same.refl _) .non
    | shift b =>
      obtain ⟨a, rfl, ha⟩ := dp_two hu
      refine ⟨_, rfl, a, _, 0, .str "shift", rfl, rfl, ha, rfl, ?_⟩
      refine ⟨_, rfl, rfl, _, rfl, itD rfl ⟨_, rfl, _, rfl, _, rfl, a, _, 1, .int b, rfl, rfl, ha, rfl, p, v, b, S, st, rfl, ob, hv, q⟩⟩
    | cin c =>
      obtain ⟨a, rfl, ha⟩ := dp_two hu
      refine ⟨_, rfl, a, _, 0, .str "in", rfl, rfl, ha, rfl, ?_⟩
      refine ⟨_, rfl, rfl, _, rfl, itF (sne (by decide +kernel)) ⟨_, rfl, rfl, _, rfl, itD rfl ⟨_, rfl, _, rfl, a, _, 1, .int c, rfl, rfl, ha, rfl, v, c, st, rfl, hv, q⟩⟩⟩
    | cout c =>
      obtain ⟨a, rfl, ha⟩ := dp_two hu
      refine ⟨_, rfl, a, _, 0, .str "out", rfl, rfl, ha, rfl, ?_⟩
      refine ⟨_, rfl, rfl, _, rfl, itF (sne (by decide +kernel)) ⟨_, rfl, rfl, _, rfl, itF (sne (by decide +kernel)) ⟨_, rfl, rfl, _, rfl, itD rfl ⟨_, rfl, _, rfl, a, _, 1, .int c, rfl, rfl, ha, rfl, v, c, st, rfl, hv, q⟩⟩⟩⟩
    | wish n =>
      obtain ⟨a, rfl, ha⟩ := dp_two hu
      refine ⟨_, rfl, a, _, 0, .str "do", rfl, rfl, ha, rfl, ?_⟩
      refine ⟨_, rfl, rfl, _, rfl, itF (sne (by decide +kernel)) ⟨_, rfl, rfl, _, rfl, itF (sne (by decide +kernel)) ⟨_, rfl, rfl, _, rfl, itF (sne (by decide +kernel)) ⟨_, rfl, rfl, _, rfl, itD rfl ?_⟩⟩⟩⟩
      exact ⟨_, rfl, _, rfl, _, rfl, a, _, 1, .int n, rfl, rfl, ha, rfl, p, v, n, S, st, rfl, ob, hv, ok, hz, ht.1, ht.2, q⟩
def sta0 (S : Sto) : Sta := ⟨S.aisle, [], [], 0⟩
def spBegin (K : PySem.W.Frag) (C : Addr) : Sp := fun vs H Q _ => ∃ (p : Addr) (S : Sto), vs = [.ref p] ∧ Ob K C H p S ∧ Ret K H Q (sta0 S).d
/-! begin: 0 store -/
abbrev s_begin : Stmt := topS 7
abbrev N_begin : List Str := ["store"]
theorem sc_begin : FnScope N_begin ["store"] (defScope s_begin) := ⟨rfl, rfl, rfl, by decide +kernel, rfl, by decide +kernel, by decide +kernel⟩
theorem ok_begin {f C fI fS fW : Addr} {fd fdI fdS fdW : FuncData} (D : Dfs K mg "begin" s_begin ["store"] f fd) (TS : TSx K mg C fI fS fW fdI fdS fdW) : Cal P w K mg base 1 "begin" ["store"] (spBegin K C) f fd := by
  refine D.cal (D.F.ok sc_begin (fun vs H Q E h => ?_) (fun cdv A outer s H vs Q E hr h => ?_))
  · obtain ⟨p, S, rfl, _⟩ := h
    rfl
  · obtain ⟨p, S, rfl, ⟨dx, l, m, xs, ys, o⟩, q⟩ := h
    refine ⟨_, (pss_one (ps_ret (pe_tup (pa_cons (pe_fld (pv 0) rfl) (pa_cons (pe_tup pa_nil) (pa_cons (pe_tup pa_nil) (pa_cons pe_int pa_nil))))))), ?_⟩
    refine ⟨_, rfl, p, C, dx, _, _, rfl, o.o, TS.cl, TS.nA, fsS_ai, small (by simp), fun p1 np1 => ⟨small (by simp), fun p2 np2 => ⟨small (by simp), fun p3 np3 => ?_⟩⟩⟩
    have s1 := same_new (o := .tup []) np1
    have s2 := same_new (o := .tup []) np2
    have s3 := same_new (o := .tup [.int S.aisle, .ref p1, .ref p2, .int 0]) np3
    exact q _ _ ((s1.trans s2).trans s3) (at_sta (s := sta0 S) tup_new (Same.t (s2.trans s3) tup_new) (Same.t s3 tup_new))
def spAllSteps (K : PySem.W.Frag) (C : Addr) : Sp := fun vs H Q _ => ∃ (p : Addr) (S : Sto), vs = [.ref p] ∧ Ob K C H p S ∧ StoOk S ∧ ∀ q xs H', Same H H' → H q = none → H' q = some (.lst xs) → DpAll K H' xs (dsteps (allSteps S.wishes.length)) → Q (.ref q) H'
/-! _all_steps: 0 store, 1 number -/
abbrev s__all_steps : Stmt := topS 12
abbrev N__all_steps : List Str := ["store", "number"]
theorem sc__all_steps : FnScope N__all_steps ["store"] (defScope s__all_steps) := ⟨rfl, rfl, rfl, by decide +kernel, rfl, by decide +kernel, by decide +kernel⟩
theorem ok__all_steps {f C fI fS fW : Addr} {fd fdI fdS fdW : FuncData} (D : Dfs K mg "_all_steps" s__all_steps ["store"] f fd) (T : Tx K mg) (Tp : Ts K mg) (TS : TSx K mg C fI fS fW fdI fdS fdW) (G_wishes : FnOk P w K mg base CX0 1 fW fdW ["self"] (spWishesM K C)) :
    Cal P w K mg base 2 "_all_steps" ["store"] (spAllSteps K C) f fd := by
  obtain ⟨a_STEPS_OF_ANY_STORE, fx, g_STEPS_OF_ANY_STORE, hF⟩ := Tp.c_STEPS
  refine D.cal (D.F.ok sc__all_steps (fun vs H Q E h => ?_) (fun cdv A outer s H vs Q E hr h => ?_))
  · obtain ⟨p, S, rfl, _⟩ := h
    rfl
  · obtain ⟨p, S, rfl, ob, ok, q⟩ := h
    obtain ⟨dx, l, m, xs, ys, o⟩ := id ob
    have w5 := ok.w5
    refine ⟨_, (pss_one (ps_ret (pe_op op_cat (pe_callTy (klist_of (K := K)) (by rfl) T.n_list (by decide +kernel) (pa_cons (pe_glob (v := .ref a_STEPS_OF_ANY_STORE) (by rfl) g_STEPS_OF_ANY_STORE rfl) pa_nil)) (pe_lc (own := [("number", 1)]) (g := gName 1) rfl sc__all_steps.nd (pi_range1 (by rfl) T.n_range (pa_cons (pe_callB (klen (K := K)) (by rfl) T.n_len (by decide +kernel) (pa_cons (pe_meth0 (pv 0) TS.cl TS.m_wishes G_wishes (hr.mono (by decide)) TS.b_wishes .nil pass0) pa_nil)) pa_nil)) (blkOk_by (own := [("number", 1)]) (N := N__all_steps) (sc := defScope s__all_steps) (by decide +kernel)) (fun _ _ _ _ _ => (pg_name (i := 1) sc__all_steps.nd rfl (Or.inl rfl))) (fun _ _ _ _ _ => pts_nil) (fun _ _ _ _ _ => by exact (pe_tup (pa_cons pe_str (pa_cons (pv 1) pa_nil)))))))), ?_⟩
    refine ⟨a_STEPS_OF_ANY_STORE, fx, rfl, .inr (hF _).1, fun l1 nl1 => ?_⟩
    have s1 := same_new (o := .lst fx) nl1
    refine ⟨_, rfl, p, dx, _, rfl, s1 _ _ o.o, fsS_m2, p, S, rfl, ob.mono s1, fun r us nr dus => ?_⟩
    have s2 := same_new (o := .lst us) nr
    have lu : us.length = S.wishes.length := (dps_len dus).trans (List.length_map ..)
    refine ⟨r, us, rfl, .inl lst_new, _, rfl, by omega, by omega, fun D nD => ?_⟩
    have e1 : (upd (upd H l1 (.lst fx)) r (.lst us)) l1 = some (.lst fx) := s2 _ _ upd_same
    have s12 := s1.trans s2
    generalize upd (upd H l1 (.lst fx)) r (.lst us) = H2 at nD e1 s12
    refine lc_range (lo := 0) (n := (us.length : Int).toNat) (fun i H' => ∃ B zs, Acq K H2 B H' D zs (dsteps ((List.range i).map fun (k : Nat) => Stp.wish (k : Int)))) ⟨H2, [], Acq.start (Same.refl _) (Same.refl _) nD⟩ ?_ ?_
    · rintro i H3 hi ⟨B, zs, A⟩
      refine ⟨rfl, _, rfl, small (by simp), fun p3 np3 => ?_⟩
      have A2 := A.grow (o := .tup [.str "do", .int (0 + (i : Int))]) np3
      refine ⟨zs, A2.el, ?_, ?_⟩
      · have e := dps_len A.dx
        have e2 : (dsteps ((List.range i).map fun (k : Nat) => Stp.wish (k : Int))).length = i := by
          unfold dsteps
          rw [List.length_map, List.length_map, List.length_range]
        exact small1000 (by omega)
      · refine ⟨upd B p3 (.tup [.str "do", .int (0 + (i : Int))]), zs ++ [.ref p3], ?_⟩
        · have A3 := A2.app (v := .ref p3) (d := (Stp.wish (0 + (i : Int))).d) (two_dp tup_new)
          have e : dsteps ((List.range (i + 1)).map fun (k : Nat) => Stp.wish (k : Int)) = dsteps ((List.range i).map fun (k : Nat) => Stp.wish (k : Int)) ++ [(Stp.wish (0 + (i : Int))).d] := by
            unfold dsteps
            rw [List.range_succ, List.map_append, List.map_append, Int.zero_add]
            rfl
          rw [e]
          exact A3
    · rintro H3 ⟨B, zs, A⟩
      obtain ⟨s3, _, dz⟩ := A.all
      have lz : zs.length = us.length := by
        have e := dps_len dz
        unfold dsteps at e
        rw [List.length_map, List.length_map, List.length_range] at e
        omega
      have lf : fx.length = 7 := dps_len (hF H).2
      refine ⟨l1, D, fx, zs, rfl, rfl, s3 _ _ e1, A.el, small (by omega), fun pq npq => ?_⟩
      have s4 := same_new (o := .lst (fx ++ zs)) npq
      refine q pq _ _ ((s12.trans s3).trans s4) ((s12.trans s3).free npq) upd_same ?_
      have e : dsteps (allSteps S.wishes.length) = dsteps fixedSteps ++ dsteps ((List.range S.wishes.length).map fun (k : Nat) => Stp.wish (k : Int)) := List.map_append ..
      rw [e]
      have en : (us.length : Int).toNat = S.wishes.length := by omega
      rw [en] at dz
      exact dps_app (hF _).2 (dps_mono s4 dz)
theorem any_mem {l : List Stp} {t : Stp} (h : t ∈ l) : ((dsteps l).any fun z => PyData.eqv z t.d) = true := List.any_eq_true.mpr ⟨t.d, List.mem_map.mpr ⟨t, h, rfl⟩, t.lay.refl⟩
theorem step_item {ts : List Stp} {i : Nat} {d : PyData} (h : (dsteps ts)[i]? = some d) : ∃ t, ts[i]? = some t ∧ d = t.d := by
  unfold dsteps at h
  rw [List.getElem?_map] at h
  cases e : ts[i]? with
  | none =>
    rw [e] at h
    cases h
  | some z =>
    rw [e] at h
    exact ⟨z, rfl, (Option.some.inj h).symm⟩
def openSteps (S : Sto) (s : Sta) : List Stp := (allSteps S.wishes.length).filter fun t => (bar S s t).isNone
theorem dbar_none {K : PySem.W.Frag} {H : Hp} {v : V} {o : Option (Str × Int)} (h : Dp K H v (dbar o)) : decide (v = .non) = o.isNone := by
  cases o with
  | none =>
    rw [dp_none h]
    rfl
  | some rn =>
    obtain ⟨a, rfl, _⟩ := dp_two h
    exact decide_eq_false (fun z => by cases z)
theorem allSteps_len (m : Nat) : (allSteps m).length = m + 7 := by
  unfold allSteps fixedSteps
  rw [List.length_append, List.length_map, List.length_range]
  show 7 + m = m + 7
  omega
end

section
variable {P : Program} {w : World} {K : PySem.W.Frag} {mg : Str → Option Value} {base : Heap}
def spRefuse1 (K : PySem.W.Frag) (C : Addr) : Sp := fun vs H Q _ => ∃ (p l : Addr) (xs : List V) (S : Sto) (ts : List Stp), vs = [.ref p, .ref l] ∧ Ob K C H p S ∧ StoOk S ∧ SqL K H l xs ∧ DpAll K H xs (dsteps ts) ∧ (∀ t ∈ ts, StpOk S.wishes.length t) ∧ ∀ H', Same H H' → Q .non H'
/-! refuse_no_steps: 0 store, 1 plan, 2 known, 3 step -/
abbrev s_refuse_no_steps : Stmt := topS 11
abbrev N_refuse_no_steps : List Str := ["store", "plan", "known", "step"]
theorem sc_refuse_no_steps : FnScope N_refuse_no_steps ["store", "plan"] (defScope s_refuse_no_steps) := ⟨rfl, rfl, rfl, by decide +kernel, rfl, by decide +kernel, by decide +kernel⟩
theorem ok_refuse_no_steps {f f1 C : Addr} {fd fd1 : FuncData} (D : Dfs K mg "refuse_no_steps" s_refuse_no_steps ["store", "plan"] f fd) (C__all_steps : Cal P w K mg base 2 "_all_steps" ["store"] (spAllSteps K C) f1 fd1) :
    Cal P w K mg base 3 "refuse_no_steps" ["store", "plan"] (spRefuse1 K C) f fd := by
  refine D.cal (D.F.ok sc_refuse_no_steps (fun vs H Q E h => ?_) (fun cdv A outer s H vs Q E hr h => ?_))
  · obtain ⟨p, l, xs, S, ts, rfl, _⟩ := h
    rfl
  · obtain ⟨p, l, xs, S, ts, rfl, ob, ok, hl, dl, hts, q⟩ := h
    refine ⟨_, (pss_cons (ps_set (i := 2) sc_refuse_no_steps.nd rfl (Or.inl rfl) (pe_call C__all_steps.G (hr.mono (by decide)) (by rfl) C__all_steps.g C__all_steps.kp C__all_steps.b .nil pass0 (pa_cons (pv 0) pa_nil)))
      (pss_one (ps_for PassesOwn.never rfl (pi_list (pv 1)) (pg_name (i := 3) sc_refuse_no_steps.nd rfl (Or.inl rfl)) (pss_one (ps_if (pt_cmpR (knotInD (K := K) (room65 hr)) (pv 3) (pv 2) (by rfl)) (pss_one ps_never) pss_nil))))), ?_⟩
    refine ⟨_, rfl, p, S, rfl, ob, ok, fun r zs H1 s1 nr e1 dz => ?_⟩
    refine ⟨_, rfl, l, rfl, ⟨_, Same.l s1 hl⟩, for_list (K := K) (a := l) (xs := xs) (fun i σ H' => H' = H1 ∧ ∃ v : Option V, σ = [some (.ref p), some (.ref l), some (.ref r), v]) ⟨rfl, none, rfl⟩ (fun i σ H' _ h => by rw [h.1]; exact Same.l s1 hl) ?_ ?_⟩
    · rintro i y σ H' hy ⟨rfl, v, rfl⟩
      obtain ⟨d, hd, dy⟩ := dps_of_get dl hy
      obtain ⟨t, ht, rfl⟩ := step_item hd
      refine ⟨_, rfl, _, rfl, t.d, _, dp_mono s1 dy, .lst (SqL.of e1) dz, t.lay.shaped, (steps_lays _).lst.shaped, _, rfl, ?_⟩
      rw [any_mem (mem_allSteps (hts t (List.mem_of_getElem? ht)))]
      exact iteF ⟨rfl, _, rfl⟩
    · rintro σ H' ⟨rfl, v, rfl⟩
      exact q _ s1
def spStepsAt (K : PySem.W.Frag) (C : Addr) : Sp := fun vs H Q _ => ∃ (p : Addr) (v : V) (S : Sto) (s : Sta), vs = [.ref p, v] ∧ Ob K C H p S ∧ Dp K H v s.d ∧ StoOk S ∧ Rising 0 S.wishes.length s.done ∧
  ∀ q xs H', Same H H' → H q = none → H' q = some (.lst xs) → DpAll K H' xs (dsteps (openSteps S s)) → Q (.ref q) H'
/-! steps_at: 0 store, 1 state, 2 step -/
abbrev s_steps_at : Stmt := topS 8
abbrev N_steps_at : List Str := ["store", "state", "step"]
theorem sc_steps_at : FnScope N_steps_at ["store", "state"] (defScope s_steps_at) := ⟨rfl, rfl, rfl, by decide +kernel, rfl, by decide +kernel, by decide +kernel⟩
theorem ok_steps_at {f f1 f2 C : Addr} {fd fd1 fd2 : FuncData} (D : Dfs K mg "steps_at" s_steps_at ["store", "state"] f fd) (C__all_steps : Cal P w K mg base 2 "_all_steps" ["store"] (spAllSteps K C) f1 fd1) (C__bar : Cal P w K mg base 5 "_bar" ["store", "state", "step"] (spBar K C) f2 fd2) :
    Cal P w K mg base 6 "steps_at" ["store", "state"] (spStepsAt K C) f fd := by
  refine D.cal (D.F.ok sc_steps_at (fun vs H Q E h => ?_) (fun cdv A outer s H vs Q E hr h => ?_))
  · obtain ⟨p, v, S, s, rfl, _⟩ := h
    rfl
  · obtain ⟨p, v, S, st, rfl, ob, hv, ok, hz, q⟩ := h
    refine ⟨_, (pss_one (ps_ret (pe_lc (own := [("step", 2)]) (g := gName 2) rfl sc_steps_at.nd (pi_list (by exact (pe_call C__all_steps.G (hr.mono (by decide)) (by rfl) C__all_steps.g C__all_steps.kp C__all_steps.b .nil pass0 (pa_cons (pv 0) pa_nil)))) (blkOk_by (own := [("step", 2)]) (N := N_steps_at) (sc := defScope s_steps_at) (by decide +kernel)) (fun _ _ _ _ _ => (pg_name (i := 2) sc_steps_at.nd rfl (Or.inl rfl))) (fun _ _ _ _ _ => (pts_one (pt_cmpR op_isN (pe_call C__bar.G (hr.mono (by decide)) (by rfl) C__bar.g C__bar.kp C__bar.b .nil pass0 (pa_cons (pv 0) (pa_cons (pv 1) (pa_cons (pv 2) pa_nil)))) pe_non (nomark _)))) (fun _ _ _ _ _ => (pv 2))))), ?_⟩
    refine ⟨_, rfl, p, S, rfl, ob, ok, fun r zs H1 s1 nr e1 dz => ?_⟩
    have w5 := ok.w5
    refine ⟨r, rfl, ⟨zs, SqL.of e1⟩, fun D nD => ?_⟩
    refine lc_list (K := K) (a := r) (xs := zs) (fun i H' => ∃ B us, Acq K H1 B H' D us (dsteps (((allSteps S.wishes.length).take i).filter fun t => (bar S st t).isNone))) ⟨H1, [], ?_⟩ (fun i H' _ ⟨B, us, A⟩ => SqL.of ((A.s.trans A.R) _ _ e1)) ?_ ?_
    · rw [List.take_zero]
      exact Acq.start (Same.refl _) (Same.refl _) nD
    · rintro i y H3 hy ⟨B, us, A⟩
      obtain ⟨d, hd, dy⟩ := dps_of_get dz hy
      obtain ⟨t, ht, rfl⟩ := step_item hd
      have s3 := A.s.trans A.R
      have tok := allSteps_ok (List.mem_of_getElem? ht)
      refine ⟨rfl, _, rfl, _, rfl, _, rfl, p, v, y, S, st, t, rfl, ob.mono (s1.trans s3), dp_mono (s1.trans s3) hv, dp_mono s3 dy, ok, hz, tok, fun b H4 s4 db => ?_⟩
      refine ⟨rfl, _, rfl, ?_⟩
      rw [dbar_none db]
      have A4 := A.keep s4
      have ef := filter_snoc (p := fun t => (bar S st t).isNone) ht
      cases hb : (bar S st t).isNone with
      | true =>
        rw [hb, if_pos rfl] at ef
        refine iteT ⟨_, rfl, us, A4.el, ?_, ?_⟩
        · have e := dps_len A4.dx
          have e2 : (dsteps (((allSteps S.wishes.length).take i).filter fun t => (bar S st t).isNone)).length ≤ 12 := by
            unfold dsteps
            rw [List.length_map]
            refine Nat.le_trans (List.length_filter_le _ _) ?_
            rw [List.length_take, allSteps_len]
            omega
          exact small1000 (by omega)
        · refine ⟨del1 H4 D, us ++ [y], ?_⟩
          have A5 := (A4.pure (Same.refl _)).app (d := t.d) (by
            have hs : Same H1 (del1 H4 D) := same_del (s3.trans s4) nD
            exact dp_mono hs dy)
          rw [ef]
          have e : dsteps (((allSteps S.wishes.length).take i).filter (fun t => (bar S st t).isNone) ++ [t]) = dsteps (((allSteps S.wishes.length).take i).filter fun t => (bar S st t).isNone) ++ [t.d] := List.map_append ..
          rw [e]
          exact A5
      | false =>
        rw [hb, if_neg Bool.false_ne_true, List.append_nil] at ef
        refine iteF ⟨B, us, ?_⟩
        rw [ef]
        exact A4
    · rintro H3 ⟨B, us, A⟩
      obtain ⟨s3, _, du⟩ := A.all
      have lz : zs.length = (allSteps S.wishes.length).length := (dps_len dz).trans (List.length_map ..)
      rw [lz, List.take_length] at du
      exact q D us H3 (s1.trans s3) (s1.free nD) A.el du
end

/-! ### what does not hang on a list that is left out -/
theorem RowSt.pure {K : PySem.W.Frag} {ρ : RowP} {B H H' : Hp} (R : RowSt K ρ B H) (s : Same H H') : RowSt K ρ B H' := by
  obtain ⟨n1, n2, e, g⟩ := R.row
  exact ⟨R.same.trans s, R.free, R.scr, n1, n2, s _ _ e, g⟩
mutual
def noL : PyData → Bool
  | .tuple ds => noLs ds
  | .list _ => false
  | .dict _ => false
  | _ => true
def noLs : List PyData → Bool
  | [] => true
  | d :: ds => noL d && noLs ds
end
mutual
theorem dp_del {K : PySem.W.Frag} {B : Hp} {r : Addr} {zs : List V} (e : B r = some (.lst zs)) : ∀ {v : V} {d : PyData}, Dp K B v d → noL d = true → Dp K (del1 B r) v d
  | _, _, .non, _ => .non
  | _, _, .bl b, _ => .bl b
  | _, _, .int i, _ => .int i
  | _, _, .str x, _ => .str x
  | _, _, .lst _ _, h => absurd h (by unfold noL; decide)
  | _, _, .tup h g, q => .tup (sqt_del e h) (dps_del e g (by unfold noL at q; exact q))
theorem dps_del {K : PySem.W.Frag} {B : Hp} {r : Addr} {zs : List V} (e : B r = some (.lst zs)) : ∀ {vs : List V} {ds : List PyData}, DpAll K B vs ds → noLs ds = true → DpAll K (del1 B r) vs ds
  | _, _, .nil, _ => .nil
  | _, _, .cons h g, q => by
    unfold noLs at q
    obtain ⟨q1, q2⟩ := Bool.and_eq_true_iff.mp q
    exact .cons (dp_del e h q1) (dps_del e g q2)
end
theorem noL_ints (l : List Int) : noLs (dints l) = true := by
  induction l with
  | nil => rfl
  | cons i l ih =>
    show (noL (.int i) && noLs (dints l)) = true
    rw [ih]
    rfl
theorem noL_shelves (l : List Shelf) : noLs (dshelves l) = true := by
  induction l with
  | nil => rfl
  | cons i l ih =>
    show (noL i.d && noLs (dshelves l)) = true
    rw [ih]
    rfl
theorem noL_wishes (l : List Wish) : noLs (dwishes l) = true := by
  induction l with
  | nil => rfl
  | cons x l ih =>
    show (noL x.d && noLs (dwishes l)) = true
    rw [ih]
    show ((true && (true && (true && (true && (true && (noLs (dints x.after) && true)))))) && true) = true
    rw [noL_ints]
    rfl
theorem sql_del {K : PySem.W.Frag} {B : Hp} {r l : Addr} {xs zs : List V} (e : B r = some (.lst zs)) (n : xs ≠ zs) (h : SqL K B l xs) : SqL K (del1 B r) l xs := by
  rcases h with (h | ⟨o, h⟩) | h
  · refine .inl (.inl ?_)
    rw [del1_ne (fun z => by
      rw [z, e] at h
      cases h
      exact n rfl)]
    exact h
  · refine .inl (.inr ⟨o, ?_⟩)
    rw [del1_ne (fun z => by rw [z, e] at h; cases h)]
    exact h
  · exact .inr h
theorem no_int_tup {K : PySem.W.Frag} {B : Hp} {i : Int} {ds : List PyData} (h : Dp K B (.int i) (.tuple ds)) : False := by cases h
theorem not_row1 {K : PySem.W.Frag} {B : Hp} {x : V} {i : Int} {r : List V} {ss : List Shelf} (h : DpAll K B (x :: .int i :: r) (dshelves ss)) : False := by
  cases ss with
  | nil => cases h
  | cons s ss =>
    cases ss with
    | nil =>
      cases h with
      | cons _ h => cases h
    | cons s2 ss =>
      cases h with
      | cons _ h =>
        cases h with
        | cons h _ => exact no_int_tup h
theorem not_row2 {K : PySem.W.Frag} {B : Hp} {x : V} {i : Int} {r : List V} {ss : List Wish} (h : DpAll K B (x :: .int i :: r) (dwishes ss)) : False := by
  cases ss with
  | nil => cases h
  | cons s ss =>
    cases ss with
    | nil =>
      cases h with
      | cons _ h => cases h
    | cons s2 ss =>
      cases h with
      | cons _ h =>
        cases h with
        | cons h _ => exact no_int_tup h
theorem ob_del {K : PySem.W.Frag} {C : Addr} {H : Hp} {r p : Addr} {x : V} {i j : Int} {S : Sto} (e : H r = some (.lst [x, .int i, .int j])) (h : Ob K C H p S) : Ob K C (del1 H r) p S := by
  obtain ⟨dx, l, m, xs, ys, o⟩ := h
  refine ⟨dx, l, m, xs, ys, ?_, sql_del e (fun z => ?_) o.l, dps_del e o.dx (noL_shelves _), sql_del e (fun z => ?_) o.m, dps_del e o.dy (noL_wishes _)⟩
  · rw [del1_ne (fun z => by
      have q := o.o
      rw [z, e] at q
      cases q)]
    exact o.o
  · have q := o.dx
    rw [z] at q
    exact not_row1 q
  · have q := o.dy
    rw [z] at q
    exact not_row2 q
/-- the row is known, B is all but it -/
theorem row_all {K : PySem.W.Frag} {ρ : RowP} {B H H' : Hp} (R : RowSt K ρ B H) (s : Same H H') : RowSt K ρ (del1 H' ρ.r) H' ∧ Same B (del1 H' ρ.r) := by
  obtain ⟨n1, n2, e, g⟩ := R.row
  have z := same_del (R.same.trans s) R.free
  exact ⟨⟨fun b o h => by
    by_cases hb : b = ρ.r
    · rw [hb, del1_same] at h
      cases h
    · rw [del1_ne hb] at h
      exact h, del1_same, Same.l z R.scr, n1, n2, s _ _ e, g⟩, z⟩

theorem noL_sta (s : Sta) : noL s.d = true := by
  show (true && (noLs (dints s.done) && (noLs (dints s.inside) && (true && true)))) = true
  rw [noL_ints, noL_ints]
  rfl
/-! ### the rules' names -/
theorem ok_end : PyData.strOk "end" = true := by decide +kernel
theorem ok_sticks : PyData.strOk "sticks" = true := by decide +kernel
theorem ok_kept : PyData.strOk "kept" = true := by decide +kernel
theorem ok_is : PyData.strOk "is" = true := by decide +kernel
theorem ok_isnt : PyData.strOk "isnt" = true := by decide +kernel
theorem ok_done : PyData.strOk "done" = true := by decide +kernel
theorem ok_after : PyData.strOk "after" = true := by decide +kernel
theorem ok_crew : PyData.strOk "crew" = true := by decide +kernel
theorem ok_aisle : PyData.strOk "aisle" = true := by decide +kernel
theorem ok_empty : PyData.strOk "empty" = true := by decide +kernel
theorem ok_full : PyData.strOk "full" = true := by decide +kernel
def RuleOk : Option (Str × Int) → Prop
  | none => True
  | some (r, _) => PyData.strOk r = true
theorem bar_rule (S : Sto) (s : Sta) (t : Stp) : RuleOk (bar S s t) := by
  cases t with
  | wait => trivial
  | shift b =>
    show RuleOk (barShift S s b)
    unfold barShift
    dsimp only
    generalize (if b = 1 then s.aisle else s.aisle - 1) = sh
    split
    · split
      · trivial
      · split
        · exact ok_sticks
        · split
          · exact ok_in
          · split
            · exact ok_kept
            · trivial
    · exact ok_end
  | cin c =>
    show RuleOk (if c ∈ s.inside then some ("is", c) else none)
    split
    · exact ok_is
    · trivial
  | cout c =>
    show RuleOk (if c ∈ s.inside then none else some ("isnt", c))
    split
    · trivial
    · exact ok_isnt
  | wish n =>
    show RuleOk (barWish S s n)
    unfold barWish
    split
    · trivial
    · split
      · exact ok_done
      · split
        · exact ok_after
        · split
          · exact ok_crew
          · split
            · exact ok_aisle
            · unfold barLoad
              split
              · exact ok_empty
              · split
                · exact ok_full
                · trivial
theorem dbar_lay {o : Option (Str × Int)} (h : RuleOk o) : Lay 1 (dbar o) := by
  cases o with
  | none => exact lay_none
  | some rn =>
    obtain ⟨r, n⟩ := rn
    exact (Lays.cons (lay_str h) (Lays.cons lay_int lays_nil)).tup

/-! ## the state behind a step, plans -/
def insI (x : Int) : List Int → List Int
  | [] => [x]
  | y :: r => if x ≤ y then x :: y :: r else y :: insI x r
def sortI : List Int → List Int
  | [] => []
  | x :: r => insI x (sortI r)
theorem insI_perm (x : Int) : ∀ l : List Int, (insI x l).Perm (x :: l)
  | [] => List.Perm.refl _
  | y :: r => by
    unfold insI
    split
    · exact List.Perm.refl _
    · exact ((insI_perm x r).cons y).trans (List.Perm.swap x y r)
theorem sortI_perm : ∀ l : List Int, (sortI l).Perm l
  | [] => List.Perm.refl _
  | x :: r => (insI_perm x (sortI r)).trans ((sortI_perm r).cons x)
theorem insI_sorted {x : Int} : ∀ {l : List Int}, l.Pairwise (· ≤ ·) → (insI x l).Pairwise (· ≤ ·)
  | [], _ => List.pairwise_singleton _ _
  | y :: r, h => by
    obtain ⟨h1, h2⟩ := List.pairwise_cons.mp h
    unfold insI
    split
    · rename_i e
      refine List.pairwise_cons.mpr ⟨fun z hz => ?_, h⟩
      rcases List.mem_cons.mp hz with rfl | hz
      · exact e
      · exact Int.le_trans e (h1 z hz)
    · rename_i e
      refine List.pairwise_cons.mpr ⟨fun z hz => ?_, insI_sorted h2⟩
      rcases List.mem_cons.mp ((insI_perm x r).mem_iff.mp hz) with rfl | hz
      · omega
      · exact h1 z hz
theorem sortI_sorted : ∀ l : List Int, (sortI l).Pairwise (· ≤ ·)
  | [] => List.Pairwise.nil
  | x :: r => insI_sorted (sortI_sorted r)
theorem sortI_of {l m : List Int} (h1 : m.Perm l) (h2 : m.Pairwise (· ≤ ·)) : m = sortI l :=
  (h1.trans (sortI_perm l).symm).eq_of_pairwise (fun x y _ _ a b => Int.le_antisymm a b) h2 (sortI_sorted l)
theorem sortI_congr {l m : List Int} (h : l.Perm m) : sortI l = sortI m := sortI_of ((sortI_perm l).trans h) (sortI_sorted l)
theorem mem_sortI {l : List Int} {z : Int} : z ∈ sortI l ↔ z ∈ l := (sortI_perm l).mem_iff
theorem maxI {i j : Int} : (if j > i then j else i) = max i j := by
  split <;> omega
def keepAt (S : Sto) (n : Int) : Int := match S.wishes[n.toNat]? with
  | some x => x.keep
  | none => 0
def behindS (S : Sto) (s : Sta) : Stp → Sta
  | .wait => ⟨s.aisle, s.done, s.inside, max (s.kept - 1) 0⟩
  | .shift b => ⟨s.aisle + b, s.done, s.inside, max (s.kept - 1) 0⟩
  | .cin c => ⟨s.aisle, s.done, sortI (s.inside ++ [c]), max (s.kept - 1) 0⟩
  | .cout c => ⟨s.aisle, s.done, s.inside.filter (fun z => decide (z ≠ c)), max (s.kept - 1) 0⟩
  | .wish n => ⟨s.aisle, sortI (s.done ++ [n]), s.inside, max (max (s.kept - 1) 0) (keepAt S n)⟩
def runS (S : Sto) (s : Sta) (ts : List Stp) : Sta := ts.foldl (behindS S) s
def playS (S : Sto) : Sta → List Stp → List Sta
  | s, [] => [s]
  | s, t :: r => s :: playS S (behindS S s t) r
def OpenPlan (S : Sto) : Sta → List Stp → Prop
  | _, [] => True
  | s, t :: r => bar S s t = none ∧ OpenPlan S (behindS S s t) r
def DoneOk (S : Sto) (s : Sta) : Prop := Rising 0 S.wishes.length s.done
def dstates (l : List Sta) : List PyData := l.map Sta.d
theorem states_lays (l : List Sta) : Lays 2 (dstates l) := .all fun d hd => by
  obtain ⟨i, _, rfl⟩ := List.mem_map.mp hd
  exact i.lay
theorem runS_snoc {S : Sto} {s : Sta} {ts : List Stp} {t : Stp} : runS S s (ts ++ [t]) = behindS S (runS S s ts) t := by
  unfold runS
  rw [List.foldl_append]
  rfl
theorem playS_snoc {S : Sto} : ∀ {s : Sta} {ts : List Stp} {t : Stp}, playS S s (ts ++ [t]) = playS S s ts ++ [runS S s (ts ++ [t])]
  | s, [], t => rfl
  | s, u :: r, t => by
    show s :: playS S (behindS S s u) (r ++ [t]) = s :: (playS S (behindS S s u) r ++ [runS S (behindS S s u) (r ++ [t])])
    rw [playS_snoc]
theorem playS_len {S : Sto} : ∀ {s : Sta} {ts : List Stp}, (playS S s ts).length = ts.length + 1
  | s, [] => rfl
  | s, u :: r => by
    show (playS S (behindS S s u) r).length + 1 = _
    rw [playS_len, List.length_cons]
theorem Rising.sorted {lo m : Int} : ∀ {l : List Int}, Rising lo m l → l.Pairwise (· ≤ ·) ∧ ∀ z ∈ l, lo ≤ z
  | [], _ => ⟨List.Pairwise.nil, fun z h => absurd h (by simp)⟩
  | i :: r, ⟨a, b, c⟩ => by
    obtain ⟨h1, h2⟩ := Rising.sorted (l := r) c
    refine ⟨List.pairwise_cons.mpr ⟨fun z hz => ?_, h1⟩, fun z hz => ?_⟩
    · have := h2 z hz
      omega
    · rcases List.mem_cons.mp hz with rfl | hz
      · exact a
      · have := h2 z hz
        omega
theorem Rising.ins {lo m n : Int} : ∀ {l : List Int}, Rising lo m l → n ∉ l → lo ≤ n → n < m → Rising lo m (insI n l)
  | [], _, _, a, b => ⟨a, b, trivial⟩
  | i :: r, ⟨h1, h2, h3⟩, hn, a, b => by
    have ne : ¬ n = i := fun z => hn (by rw [z]; exact List.mem_cons_self)
    unfold insI
    split
    · exact ⟨a, b, by omega, h2, h3⟩
    · exact ⟨h1, h2, Rising.ins (l := r) h3 (fun z => hn (List.mem_cons_of_mem _ z)) (by omega) b⟩
theorem sort_ins {lo m n : Int} {l : List Int} (h : Rising lo m l) : sortI (l ++ [n]) = insI n l :=
  (sortI_of ((insI_perm n l).trans (List.perm_append_comm (l₁ := [n]) (l₂ := l))) (insI_sorted h.sorted.1)).symm
theorem barWish_none {S : Sto} {s : Sta} {n : Int} {x : Wish} (hx : S.wishes[n.toNat]? = some x) (h : barWish S s n = none) :
    n ∉ s.done ∧ (∀ z ∈ x.after, z ∈ s.done) ∧ x.crew ∈ s.inside ∧ beside s.aisle x.shelf x.side = true ∧ barLoad S s.done x.kind x.shelf = none := by
  unfold barWish at h
  rw [hx] at h
  dsimp only at h
  by_cases e1 : n ∈ s.done
  · rw [if_pos e1] at h
    cases h
  rw [if_neg e1] at h
  cases e2 : x.after.find? (fun z => decide (z ∉ s.done)) with
  | some z =>
    rw [e2] at h
    cases h
  | none =>
    rw [e2] at h
    dsimp only at h
    by_cases e3 : x.crew ∈ s.inside
    · rw [if_neg (fun y => y e3)] at h
      cases e4 : beside s.aisle x.shelf x.side with
      | false =>
        rw [e4, if_pos rfl] at h
        cases h
      | true =>
        rw [e4, if_neg (by decide)] at h
        refine ⟨e1, fun z hz => ?_, e3, rfl, h⟩
        have q := List.find?_eq_none.mp e2 z hz
        by_cases e5 : z ∈ s.done
        · exact e5
        · exact absurd (decide_eq_true e5) q
    · rw [if_pos e3] at h
      cases h
theorem DoneOk.step {S : Sto} {s : Sta} {t : Stp} (h : DoneOk S s) (ht : StpOk S.wishes.length t) (hb : bar S s t = none) : DoneOk S (behindS S s t) := by
  cases t with
  | wish n =>
    obtain ⟨x, hx, _⟩ := wish_at_k ht.1 ht.2
    obtain ⟨e1, _⟩ := barWish_none hx hb
    show Rising 0 _ (sortI (s.done ++ [n]))
    rw [sort_ins h]
    exact Rising.ins h e1 ht.1 ht.2
  | _ => exact h
theorem DoneOk.run {S : Sto} : ∀ {ts : List Stp} {s : Sta}, DoneOk S s → (∀ t ∈ ts, StpOk S.wishes.length t) → OpenPlan S s ts → DoneOk S (runS S s ts)
  | [], s, h, _, _ => h
  | t :: r, s, h, ht, op => DoneOk.run (ts := r) (h.step (ht t List.mem_cons_self) op.1) (fun u hu => ht u (List.mem_cons_of_mem _ hu)) op.2
theorem OpenPlan.take {S : Sto} : ∀ {ts : List Stp} {s : Sta} (i : Nat), OpenPlan S s ts → OpenPlan S s (ts.take i)
  | _, _, 0, _ => trivial
  | [], _, _ + 1, h => h
  | t :: r, s, i + 1, h => ⟨h.1, OpenPlan.take (ts := r) i h.2⟩
theorem OpenPlan.at {S : Sto} : ∀ {ts : List Stp} {s : Sta} {i : Nat} {t : Stp}, OpenPlan S s ts → ts[i]? = some t → bar S (runS S s (ts.take i)) t = none
  | [], s, i, t, _, h => by simp at h
  | u :: r, s, 0, t, h, e => by
    have e' : u = t := Option.some.inj e
    rw [← e']
    exact h.1
  | u :: r, s, i + 1, t, h, e => OpenPlan.at (ts := r) h.2 e
theorem OpenPlan.snoc {S : Sto} : ∀ {ts : List Stp} {s : Sta} {t : Stp}, OpenPlan S s ts → bar S (runS S s ts) t = none → OpenPlan S s (ts ++ [t])
  | [], s, t, _, h => ⟨h, trivial⟩
  | u :: r, s, t, h, e => ⟨h.1, OpenPlan.snoc (ts := r) h.2 e⟩
section
variable {P : Program} {w : World} {K : PySem.W.Frag} {mg : Str → Option Value} {base : Heap}
def spBehind (K : PySem.W.Frag) (C : Addr) : Sp := fun vs H Q _ => ∃ (p : Addr) (v u : V) (S : Sto) (s : Sta) (t : Stp), vs = [.ref p, v, u] ∧ Ob K C H p S ∧ Dp K H v s.d ∧ Dp K H u t.d ∧ StpOk S.wishes.length t ∧ s.done.length < 60 ∧ s.inside.length < 60 ∧ Ret K H Q (behindS S s t).d
/-! behind: 0 store, 1 state, 2 step, 3 aisle, 4 done, 5 inside, 6 kept, 7 word, 8 _, 9 keep, 10 crew -/
abbrev s_behind : Stmt := topS 10
abbrev N_behind : List Str := ["store", "state", "step", "aisle", "done", "inside", "kept", "word", "_", "keep", "crew"]
theorem sc_behind : FnScope N_behind ["store", "state", "step"] (defScope s_behind) := ⟨rfl, rfl, rfl, by decide +kernel, rfl, by decide +kernel, by decide +kernel⟩
theorem ok_behind {f C fI fS fW : Addr} {fd fdI fdS fdW : FuncData} (D : Dfs K mg "behind" s_behind ["store", "state", "step"] f fd) (T : Tx K mg) (TS : TSx K mg C fI fS fW fdI fdS fdW) (G_wishes : FnOk P w K mg base CX0 1 fW fdW ["self"] (spWishesM K C)) :
    Cal P w K mg base 2 "behind" ["store", "state", "step"] (spBehind K C) f fd := by
  refine D.cal (D.F.ok sc_behind (fun vs H Q E h => ?_) (fun cdv A outer s H vs Q E hr h => ?_))
  · obtain ⟨p, v, u, S, s, t, rfl, _⟩ := h
    rfl
  · obtain ⟨p, v, u, S, st, t, rfl, ob, hv, hu, ht, hl1, hl2, q⟩ := h
    obtain ⟨sa, d, i, rfl, hsa, hd, hi⟩ := sta_at hv
    obtain ⟨dx, l, m, xs, ys, o⟩ := id ob
    refine ⟨_, (pss_cons (ps_asg (pv 1) (pg_tup (by rfl) (pgs_cons (pg_name (i := 3) sc_behind.nd rfl (Or.inl rfl)) (pgs_cons (pg_name (i := 4) sc_behind.nd rfl (Or.inl rfl)) (pgs_cons (pg_name (i := 5) sc_behind.nd rfl (Or.inl rfl)) (pgs_cons (pg_name (i := 6) sc_behind.nd rfl (Or.inl rfl)) pgs_nil))))))
      (C8.pss_cut (ps_set (i := 6) sc_behind.nd rfl (Or.inl rfl) (pe_callB (call_max2 rfl) (by rfl) T.n_max (by decide +kernel) (pa_cons (pe_op op_sub (pv 6) pe_int) (pa_cons pe_int pa_nil))))
      (C8.pss_cut (ps_set (i := 7) sc_behind.nd rfl (Or.inl rfl) (pe_ix (kix_tup (K := K)) (pv 2) pe_int (fun _ _ => rfl)))
      (C8.pss_cut (ps_if (pt_cmpR op_eq (pv 7) pe_str (nomark _)) (pss_one (ps_set (i := 3) sc_behind.nd rfl (Or.inl rfl) (pe_op op_add (pv 3) (pe_ix (kix_tup (K := K)) (pv 2) pe_int (fun _ _ => rfl))))) (pss_one (ps_if (pt_cmpR op_eq (pv 7) pe_str (nomark _)) (pss_one (ps_set (i := 5) sc_behind.nd rfl (Or.inl rfl) (pe_callTy (ktuple_of (K := K)) (by rfl) T.n_tuple (by decide +kernel) (pa_cons (pe_callB (ksorted (K := K)) (by rfl) T.n_sorted (by decide +kernel) (pa_cons (pe_lst (StX.pa_star (pv 5) (pa_cons (pe_ix (kix_tup (K := K)) (pv 2) pe_int (fun _ _ => rfl)) pa_nil))) pa_nil)) pa_nil)))) (pss_one (ps_if (pt_cmpR op_eq (pv 7) pe_str (nomark _)) (pss_one (ps_set (i := 5) sc_behind.nd rfl (Or.inl rfl) (pe_callTy (ktuple_of (K := K)) (by rfl) T.n_tuple (by decide +kernel) (pa_cons (pe_lc (own := [("crew", 10)]) (g := gName 10) rfl sc_behind.nd (pi_tup (pv 5)) (blkOk_by (own := [("crew", 10)]) (N := N_behind) (sc := defScope s_behind) (by decide +kernel)) (fun _ _ _ _ _ => (pg_name (i := 10) sc_behind.nd rfl (Or.inl rfl))) (fun _ _ _ _ _ => (pts_one (pt_cmpR op_ne (pv 10) (pe_ix (kix_tup (K := K)) (pv 2) pe_int (fun _ _ => rfl)) (nomark _)))) (fun _ _ _ _ _ => (pv 10))) pa_nil)))) (pss_one (ps_if (pt_cmpR op_eq (pv 7) pe_str (nomark _)) (pss_cons (ps_asg (pe_ix (kix_list (K := K)) (pe_meth0 (pv 0) TS.cl TS.m_wishes G_wishes (hr.mono (by decide)) TS.b_wishes .nil pass0) (pe_ix (kix_tup (K := K)) (pv 2) pe_int (fun _ _ => rfl)) (fun _ _ => rfl)) (pg_tup (by rfl) (pgs_cons (pg_name (i := 8) sc_behind.nd rfl (Or.inl rfl)) (pgs_cons (pg_name (i := 8) sc_behind.nd rfl (Or.inl rfl)) (pgs_cons (pg_name (i := 8) sc_behind.nd rfl (Or.inl rfl)) (pgs_cons (pg_name (i := 8) sc_behind.nd rfl (Or.inl rfl)) (pgs_cons (pg_name (i := 9) sc_behind.nd rfl (Or.inl rfl)) (pgs_cons (pg_name (i := 8) sc_behind.nd rfl (Or.inl rfl)) pgs_nil))))))))
      (pss_cons (ps_set (i := 4) sc_behind.nd rfl (Or.inl rfl) (pe_callTy (ktuple_of (K := K)) (by rfl) T.n_tuple (by decide +kernel) (pa_cons (pe_callB (ksorted (K := K)) (by rfl) T.n_sorted (by decide +kernel) (pa_cons (pe_lst (StX.pa_star (pv 4) (pa_cons (pe_ix (kix_tup (K := K)) (pv 2) pe_int (fun _ _ => rfl)) pa_nil))) pa_nil)) pa_nil)))
      (pss_one (ps_set (i := 6) sc_behind.nd rfl (Or.inl rfl) (pe_callB (call_max2 rfl) (by rfl) T.n_max (by decide +kernel) (pa_cons (pv 6) (pa_cons (pv 9) pa_nil))))))) pss_nil)))))))
      (pss_one (ps_ret (pe_tup (pa_cons (pv 3) (pa_cons (pv 4) (pa_cons (pv 5) (pa_cons (pv 6) pa_nil))))))))))), ?_⟩
    refine ⟨_, rfl, sa, _, rfl, hsa, rfl, _, _, rfl, _, _, rfl, _, _, rfl, _, _, rfl, rfl, ?_⟩
    refine ⟨fun σ H' => H = H' ∧ σ = [some (.ref p), some (.ref sa), some u, some (.int st.aisle), some (.ref d), some (.ref i), some (.int (max (st.kept - 1) 0)), none, none, none, none], ?_, ?_⟩
    · refine ⟨_, rfl, _, _, rfl, rfl, _, _, rfl, rfl, ?_⟩
      rw [maxI]
      rfl
    rintro σ _ ⟨rfl, rfl⟩
    generalize hk1 : max (st.kept - 1) 0 = k1
    have ret : ∀ (d2 i2 : Addr) (st2 : Sta) (H2 : Hp), Same H H2 → SqT K H2 d2 (st2.done.map V.int) → SqT K H2 i2 (st2.inside.map V.int) → st2 = behindS S st t → ∀ p2, H2 p2 = none → Q (.ref p2) (upd H2 p2 (.tup [.int st2.aisle, .ref d2, .ref i2, .int st2.kept])) := by
      intro d2 i2 st2 H2 s2 h1 h2 e p2 np2
      have z := same_new (o := .tup [.int st2.aisle, .ref d2, .ref i2, .int st2.kept]) np2
      exact q _ _ (s2.trans z) (by rw [← e]; exact at_sta tup_new (Same.t z h1) (Same.t z h2))
    -- what is read off the step
    obtain ⟨w0, c, hc, hw⟩ : ∃ (w0 : Str) (c : Addr), u = .ref c ∧ (∃ r, SqT K H c (.str w0 :: r) ∧ Stp.d t = .tuple (.str w0 :: (match t with | .wait => [] | .shift b => [.int b] | .cin b => [.int b] | .cout b => [.int b] | .wish b => [.int b])) ∧ r = (match t with | .wait => [] | .shift b => [.int b] | .cin b => [.int b] | .cout b => [.int b] | .wish b => [.int b])) := by
      cases t with
      | wait =>
        obtain ⟨c, e, h⟩ := dp_one hu
        exact ⟨_, c, e, _, h, rfl, rfl⟩
      | _ =>
        obtain ⟨c, e, h⟩ := dp_two hu
        exact ⟨_, c, e, _, h, rfl, rfl⟩
    obtain ⟨r, hcT, ed, er⟩ := hw
    subst hc
    refine ⟨fun σ H' => H = H' ∧ σ = [some (.ref p), some (.ref sa), some (.ref c), some (.int st.aisle), some (.ref d), some (.ref i), some (.int k1), some (.str w0), none, none, none], ?_, ?_⟩
    · exact ⟨_, rfl, c, _, 0, .str w0, rfl, rfl, hcT, at_of (j := 0) rfl rfl, rfl, rfl⟩
    rintro σ _ ⟨rfl, rfl⟩
    refine ⟨fun σ H' => ∃ (d2 i2 : Addr) (st2 : Sta) (v8 v9 : Option V), σ = [some (.ref p), some (.ref sa), some (.ref c), some (.int st2.aisle), some (.ref d2), some (.ref i2), some (.int st2.kept), some (.str w0), v8, v9, none] ∧ Same H H' ∧ SqT K H' d2 (st2.done.map V.int) ∧ SqT K H' i2 (st2.inside.map V.int) ∧ st2 = behindS S st t, ?_, ?_⟩
    rotate_left
    · rintro σ H2 ⟨d2, i2, st2, v8, v9, rfl, s2, h1, h2, e⟩
      exact ⟨_, rfl, _, rfl, _, rfl, _, rfl, small (by simp), fun p2 np2 => ret d2 i2 st2 H2 s2 h1 h2 e p2 np2⟩
    cases t with
    | wait =>
      cases ed
      refine ⟨_, rfl, rfl, _, rfl, itF (sne (by decide +kernel)) ⟨_, rfl, rfl, _, rfl, itF (sne (by decide +kernel)) ⟨_, rfl, rfl, _, rfl, itF (sne (by decide +kernel)) ⟨_, rfl, rfl, _, rfl, itF (sne (by decide +kernel)) ?_⟩⟩⟩⟩
      exact ⟨d, i, ⟨st.aisle, st.done, st.inside, k1⟩, none, none, rfl, Same.refl _, hd, hi, by rw [← hk1]; rfl⟩
    | shift b =>
      cases ed
      subst er
      refine ⟨_, rfl, rfl, _, rfl, itD rfl ⟨_, rfl, _, rfl, c, _, 1, .int b, rfl, rfl, hcT, rfl, _, _, rfl, rfl, ?_⟩⟩
      exact ⟨d, i, ⟨st.aisle + b, st.done, st.inside, k1⟩, none, none, rfl, Same.refl _, hd, hi, by rw [← hk1]; rfl⟩
    | cin b =>
      cases ed
      subst er
      refine ⟨_, rfl, rfl, _, rfl, itF (sne (by decide +kernel)) ⟨_, rfl, rfl, _, rfl, itD rfl ?_⟩⟩
      refine ⟨_, rfl, i, _, rfl, .inl hi, _, rfl, c, _, 1, .int b, rfl, rfl, hcT, rfl, small (by simp; omega), fun p1 np1 => ?_⟩
      have z1 := same_new (o := .lst (st.inside.map V.int ++ [.int b])) np1
      refine ⟨p1, st.inside ++ [b], rfl, by rw [List.map_append]; exact lst_new, by simp; omega, fun ns p2 hp hs np2 => ?_⟩
      rw [sortI_of hp hs]
      have z2 := same_new (o := .lst ((sortI (st.inside ++ [b])).map V.int)) np2
      refine ⟨p2, _, rfl, .inl ⟨lst_new, fun p3 np3 => ?_⟩⟩
      have z3 := same_new (o := .tup ((sortI (st.inside ++ [b])).map V.int)) np3
      exact ⟨d, p3, ⟨st.aisle, st.done, sortI (st.inside ++ [b]), k1⟩, none, none, rfl, (z1.trans z2).trans z3, Same.t ((z1.trans z2).trans z3) hd, tup_new, by rw [← hk1]; rfl⟩
    | cout b =>
      cases ed
      subst er
      refine ⟨_, rfl, rfl, _, rfl, itF (sne (by decide +kernel)) ⟨_, rfl, rfl, _, rfl, itF (sne (by decide +kernel)) ⟨_, rfl, rfl, _, rfl, itD rfl ?_⟩⟩⟩
      refine ⟨_, rfl, i, rfl, ⟨_, hi⟩, fun D1 nD1 => ?_⟩
      refine lc_tup (K := K) (a := i) (xs := st.inside.map V.int) (fun j H' => Same H H' ∧ H' D1 = some (.lst (((st.inside.take j).filter fun z => decide (z ≠ b)).map V.int))) ⟨same_new nD1, ?_⟩ (fun j H' _ h => Same.t h.1 hi) ?_ ?_
      · rw [List.take_zero, upd_same]
        rfl
      · rintro j y H' hj ⟨s1, eD⟩
        obtain ⟨z, hzj, rfl⟩ := int_item hj
        have ef := filter_snoc (p := fun z => decide (z ≠ b)) hzj
        rw [ef]
        refine ⟨rfl, _, rfl, _, rfl, c, _, 1, .int b, rfl, rfl, Same.t s1 hcT, rfl, rfl, _, rfl, ?_⟩
        by_cases e2 : z = b
        · rw [decide_eq_false (fun h => h e2), if_neg Bool.false_ne_true, List.append_nil]
          exact iteNS (by rw [e2]) ⟨s1, eD⟩
        · rw [decide_eq_true e2, if_pos rfl]
          refine itnF (ine e2) ⟨_, rfl, _, eD, ?_, ?_, ?_⟩
          · rw [List.length_map]
            refine small1000 (Nat.le_trans (List.length_filter_le _ _) ?_)
            rw [List.length_take]
            omega
          · intro b' o' h
            rw [upd_ne (ne_of_none h nD1)]
            exact s1 b' o' h
          · rw [upd_same, List.map_append]
            rfl
      · rintro H1 ⟨s1, eD⟩
        rw [List.length_map, List.take_length] at eD
        refine ⟨D1, _, rfl, .inl ⟨SqL.of eD, fun p3 np3 => ?_⟩⟩
        have z3 := same_new (o := .tup ((st.inside.filter fun z => decide (z ≠ b)).map V.int)) np3
        exact ⟨d, p3, ⟨st.aisle, st.done, st.inside.filter (fun z => decide (z ≠ b)), k1⟩, none, none, rfl, s1.trans z3, Same.t (s1.trans z3) hd, tup_new, by rw [← hk1]; rfl⟩
    | wish n =>
      cases ed
      subst er
      obtain ⟨x, hx, _⟩ := wish_at_k ht.1 ht.2
      have ek : keepAt S n = x.keep := by
        unfold keepAt
        rw [hx]
      refine ⟨_, rfl, rfl, _, rfl, itF (sne (by decide +kernel)) ⟨_, rfl, rfl, _, rfl, itF (sne (by decide +kernel)) ⟨_, rfl, rfl, _, rfl, itF (sne (by decide +kernel)) ⟨_, rfl, rfl, _, rfl, itD rfl ?_⟩⟩⟩⟩
      refine ⟨_, rfl, p, dx, _, rfl, o.o, fsS_m2, p, S, rfl, ob, fun r2 zs nr2 dzs => ?_⟩
      have s1 := same_new (o := .lst zs) nr2
      obtain ⟨a, t, ha, hT, _⟩ := wish_get (dps_mono s1 dzs) hx
      refine ⟨_, rfl, c, _, 1, .int n, rfl, rfl, Same.t s1 hcT, rfl, r2, zs, n, .ref a, rfl, rfl, lst_new, at_of (j := n.toNat) (by have := ht.1; omega) ha, a, _, rfl, hT, rfl, _, _, rfl, _, _, rfl, _, _, rfl, _, _, rfl, _, _, rfl, _, _, rfl, rfl, ?_⟩
      refine ⟨_, rfl, d, _, rfl, .inl (Same.t s1 hd), _, rfl, c, _, 1, .int n, rfl, rfl, Same.t s1 hcT, rfl, small (by simp; omega), fun p1 np1 => ?_⟩
      have z1 := same_new (o := .lst (st.done.map V.int ++ [.int n])) np1
      refine ⟨p1, st.done ++ [n], rfl, by rw [List.map_append]; exact lst_new, by simp; omega, fun ns p2 hp hs np2 => ?_⟩
      rw [sortI_of hp hs]
      have z2 := same_new (o := .lst ((sortI (st.done ++ [n])).map V.int)) np2
      refine ⟨p2, _, rfl, .inl ⟨lst_new, fun p3 np3 => ?_⟩⟩
      have z3 := same_new (o := .tup ((sortI (st.done ++ [n])).map V.int)) np3
      refine ⟨_, rfl, _, rfl, _, _, rfl, ?_⟩
      have sall := ((s1.trans z1).trans z2).trans z3
      refine ⟨p3, i, ⟨st.aisle, sortI (st.done ++ [n]), st.inside, max k1 x.keep⟩, some (.ref t), some (.int x.keep), by rw [maxI]; rfl, sall, tup_new, Same.t sall hi, by rw [← hk1, ← ek]; rfl⟩
theorem run_len {S : Sto} : ∀ {ts : List Stp} {s : Sta}, (runS S s ts).done.length ≤ s.done.length + ts.length ∧ (runS S s ts).inside.length ≤ s.inside.length + ts.length
  | [], s => ⟨Nat.le_refl _, Nat.le_refl _⟩
  | t :: r, s => by
    have h := run_len (S := S) (ts := r) (s := behindS S s t)
    have e : (behindS S s t).done.length ≤ s.done.length + 1 ∧ (behindS S s t).inside.length ≤ s.inside.length + 1 := by
      cases t with
      | wait => exact ⟨Nat.le_succ _, Nat.le_succ _⟩
      | shift b => exact ⟨Nat.le_succ _, Nat.le_succ _⟩
      | cin c =>
        refine ⟨Nat.le_succ _, ?_⟩
        show (sortI (s.inside ++ [c])).length ≤ _
        rw [(sortI_perm _).length_eq, List.length_append]
        exact Nat.le_refl _
      | cout c => exact ⟨Nat.le_succ _, Nat.le_trans (List.length_filter_le _ _) (Nat.le_succ _)⟩
      | wish n =>
        refine ⟨?_, Nat.le_succ _⟩
        show (sortI (s.done ++ [n])).length ≤ _
        rw [(sortI_perm _).length_eq, List.length_append]
        exact Nat.le_refl _
    show (runS S (behindS S s t) r).done.length ≤ _ ∧ (runS S (behindS S s t) r).inside.length ≤ _
    rw [List.length_cons]
    omega
end

section
variable {P : Program} {w : World} {K : PySem.W.Frag} {mg : Str → Option Value} {base : Heap}
def spPlayed0 (K : PySem.W.Frag) (C : Addr) : Sp := fun vs H Q _ => ∃ (p l : Addr) (xs : List V) (S : Sto) (ts : List Stp), vs = [.ref p, .ref l] ∧ Ob K C H p S ∧ StoOk S ∧ SqL K H l xs ∧ DpAll K H xs (dsteps ts) ∧ (∀ t ∈ ts, StpOk S.wishes.length t) ∧ OpenPlan S (sta0 S) ts ∧ ts.length ≤ 50 ∧
  ∀ q zs H', Same H H' → H q = none → H' q = some (.lst zs) → DpAll K H' zs (dstates (playS S (sta0 S) ts)) → Q (.ref q) H'
/-! played: 0 store, 1 plan, 2 state, 3 states, 4 at, 5 step, 6 bar, 7 rule, 8 number -/
abbrev s_played : Stmt := topS 9
abbrev N_played : List Str := ["store", "plan", "state", "states", "at", "step", "bar", "rule", "number"]
theorem sc_played : FnScope N_played ["store", "plan"] (defScope s_played) := ⟨rfl, rfl, rfl, by decide +kernel, rfl, by decide +kernel, by decide +kernel⟩
theorem ok_played {f f1 f2 f3 f4 C : Addr} {fd fd1 fd2 fd3 fd4 : FuncData} (D : Dfs K mg "played" s_played ["store", "plan"] f fd) (T : Tx K mg) (C_refuse_no_steps : Cal P w K mg base 3 "refuse_no_steps" ["store", "plan"] (spRefuse1 K C) f1 fd1)
    (C_begin : Cal P w K mg base 1 "begin" ["store"] (spBegin K C) f2 fd2) (C__bar : Cal P w K mg base 5 "_bar" ["store", "state", "step"] (spBar K C) f3 fd3) (C_behind : Cal P w K mg base 2 "behind" ["store", "state", "step"] (spBehind K C) f4 fd4) :
    Cal P w K mg base 6 "played" ["store", "plan"] (spPlayed0 K C) f fd := by
  refine D.cal (D.F.ok sc_played (fun vs H Q E h => ?_) (fun cdv A outer s H vs Q E hr h => ?_))
  · obtain ⟨p, l, xs, S, ts, rfl, _⟩ := h
    rfl
  · obtain ⟨p, l, xs, S, ts, rfl, ob, ok, hl, dl, hts, op, hlen, q⟩ := h
    refine ⟨_, (pss_cons (ps_expr (pe_call C_refuse_no_steps.G (hr.mono (by decide)) (by rfl) C_refuse_no_steps.g C_refuse_no_steps.kp C_refuse_no_steps.b .nil pass0 (pa_cons (pv 0) (pa_cons (pv 1) pa_nil))))
      (pss_cons (ps_set (i := 2) sc_played.nd rfl (Or.inl rfl) (pe_call C_begin.G (hr.mono (by decide)) (by rfl) C_begin.g C_begin.kp C_begin.b .nil pass0 (pa_cons (pv 0) pa_nil)))
      (pss_cons (ps_set (i := 3) sc_played.nd rfl (Or.inl rfl) (pe_lst (pa_cons (pv 2) pa_nil)))
      (pss_cons (ps_for PassesOwn.never rfl (pi_enum (by rfl) T.n_enumerate (pa_cons (pv 1) pa_nil)) (pg_tup (by rfl) (pgs_cons (pg_name (i := 4) sc_played.nd rfl (Or.inl rfl)) (pgs_cons (pg_name (i := 5) sc_played.nd rfl (Or.inl rfl)) pgs_nil))) (pss_cons (ps_set (i := 6) sc_played.nd rfl (Or.inl rfl) (pe_call C__bar.G (hr.mono (by decide)) (by rfl) C__bar.g C__bar.kp C__bar.b .nil pass0 (pa_cons (pv 0) (pa_cons (pv 2) (pa_cons (pv 5) pa_nil)))))
      (pss_cons (ps_if (pt_cmpR op_notN (pv 6) pe_non (nomark _)) (pss_cons (ps_asg (pv 6) (pg_tup (by rfl) (pgs_cons (pg_name (i := 7) sc_played.nd rfl (Or.inl rfl)) (pgs_cons (pg_name (i := 8) sc_played.nd rfl (Or.inl rfl)) pgs_nil))))
      (pss_one ps_never)) pss_nil)
      (pss_cons (ps_set (i := 2) sc_played.nd rfl (Or.inl rfl) (pe_call C_behind.G (hr.mono (by decide)) (by rfl) C_behind.g C_behind.kp C_behind.b .nil pass0 (pa_cons (pv 0) (pa_cons (pv 2) (pa_cons (pv 5) pa_nil)))))
      (pss_one (ps_expr (pe_bm PySem.F.plainAttrs_list PySem.F.slot_list_append PySem.F.type_list_append mt_append (pv 3) (pa_cons (pv 2) pa_nil))))))))
      (pss_one (ps_ret (pv 3))))))), ?_⟩
    refine ⟨_, rfl, _, rfl, p, l, xs, S, ts, rfl, ob, ok, hl, dl, hts, fun H1 s1 => ?_⟩
    refine ⟨_, rfl, p, S, rfl, ob.mono s1, fun v H2 s2 d2 => ?_⟩
    have s12 := s1.trans s2
    refine ⟨_, rfl, small (by simp), fun r nr => ?_⟩
    have lx : xs.length = ts.length := (dps_len dl).trans (List.length_map ..)
    have A0 : Acq K H2 H2 (upd H2 r (.lst [v])) r [v] (dstates (playS S (sta0 S) (ts.take 0))) := by
      rw [List.take_zero]
      exact ⟨Same.refl _, same_new nr, nr, upd_same, .cons d2 .nil⟩
    refine ⟨_, rfl, l, xs, rfl, Same.l (s12.trans A0.R) hl, for_enum (K := K) (a := l) (xs := xs) (fun i σ H' => ∃ (B : Hp) (zs : List V) (u : V) (v4 v5 v6 : Option V), σ = [some (.ref p), some (.ref l), some u, some (.ref r), v4, v5, v6, none, none] ∧ Acq K H2 B H' r zs (dstates (playS S (sta0 S) (ts.take i))) ∧ Dp K B u (runS S (sta0 S) (ts.take i)).d)
      ⟨H2, [v], v, none, none, none, rfl, A0, by rw [List.take_zero]; exact d2⟩ (fun i σ H' _ ⟨B, zs, u, v4, v5, v6, _, A, _⟩ => Same.l (s12.trans (A.s.trans A.R)) hl) ?_ ?_⟩
    · rintro i y σ H3 pt hy ⟨B, zs, u, v4, v5, v6, rfl, A, du⟩ npt
      obtain ⟨d, hd, dy⟩ := dps_of_get dl hy
      obtain ⟨t, ht, rfl⟩ := step_item hd
      have tok := hts t (List.mem_of_getElem? ht)
      have A3 := A.grow (o := .tup [.int (i : Nat), y]) npt
      have s3 := s12.trans (A3.s.trans A3.R)
      have du3 := dp_mono (same_new (o := .tup [.int (i : Nat), y]) (A.R.free npt)) du
      refine ⟨pt, _, rfl, tup_new, rfl, _, _, rfl, _, _, rfl, rfl, ?_⟩
      have hz : DoneOk S (runS S (sta0 S) (ts.take i)) := DoneOk.run (show Rising 0 _ [] from trivial) (fun t h => hts t (List.mem_of_mem_take h)) (op.take i)
      refine ⟨_, rfl, _, rfl, _, rfl, p, u, y, S, runS S (sta0 S) (ts.take i), t, rfl, ob.mono s3, dp_mono A3.R du3, dp_mono s3 dy, ok, hz, tok, fun b H4 s4 d4 => ?_⟩
      rw [op.at ht] at d4
      rw [dp_none d4]
      refine ⟨_, rfl, rfl, _, rfl, iteNS rfl ?_⟩
      have A4 := A3.keep s4
      have s34 := s3.trans s4
      obtain ⟨l1, l2⟩ := run_len (S := S) (ts := ts.take i) (s := sta0 S)
      have l3 : (ts.take i).length ≤ 50 := by
        rw [List.length_take]
        omega
      have e1 : (sta0 S).done.length = 0 := rfl
      have e2 : (sta0 S).inside.length = 0 := rfl
      refine ⟨_, rfl, _, rfl, _, rfl, p, u, y, S, runS S (sta0 S) (ts.take i), t, rfl, ob.mono s34, dp_mono (A3.R.trans s4) du3, dp_mono s34 dy, tok, by omega, by omega, fun u2 H5 s5 d5 => ?_⟩
      have A5 := A4.pure s5
      have e5 := A5.el
      have du5 := dp_del e5 d5 (noL_sta _)
      have er : runS S (sta0 S) (ts.take (i + 1)) = behindS S (runS S (sta0 S) (ts.take i)) t := by
        rw [take_snoc ht, runS_snoc]
      have ep : dstates (playS S (sta0 S) (ts.take (i + 1))) = dstates (playS S (sta0 S) (ts.take i)) ++ [(runS S (sta0 S) (ts.take (i + 1))).d] := by
        rw [take_snoc ht, playS_snoc]
        exact List.map_append ..
      rw [← er] at du5
      have A6 := A5.app du5
      refine ⟨_, rfl, .inl ⟨rfl, _, SqL.of e5⟩, _, rfl, r, zs, _, rfl, rfl, e5, ?_, del1 H5 r, zs ++ [u2], u2, _, _, _, rfl, ?_, du5⟩
      · have e := dps_len A5.dx
        unfold dstates at e
        rw [List.length_map, playS_len] at e
        exact small1000 (by omega)
      · rw [ep]
        exact A6
    · rintro σ H3 ⟨B, zs, u, v4, v5, v6, rfl, A, du⟩
      rw [lx, List.take_length] at A
      obtain ⟨s3, _, dz⟩ := A.all
      exact ⟨_, rfl, q r zs H3 (s12.trans s3) (s12.free nr) A.el dz⟩
end

/-- the wish z stands at the shelf k, and is of this kind -/
def isK (S : Sto) (k : Int) (kd : Str) (z : Int) : Bool := match S.wishes[z.toNat]? with
  | some x => decide (x.shelf = k ∧ x.kind = kd)
  | none => false
theorem isK_eq {S : Sto} {k z : Int} {kd : Str} {x : Wish} (hx : S.wishes[z.toNat]? = some x) : isK S k kd z = decide (x.shelf = k ∧ x.kind = kd) := by
  unfold isK
  rw [hx]
theorem delta_eq {S : Sto} {k z : Int} {x : Wish} (hx : S.wishes[z.toNat]? = some x) : delta S k z = if x.shelf = k then (if x.kind = "fetch" then -1 else 1) else 0 := by
  unfold delta
  rw [hx]
theorem nfb : ¬ (("bring" : Str) = "fetch") := by decide +kernel
theorem nbf : ¬ (("fetch" : Str) = "bring") := by decide +kernel
theorem goods_law {S : Sto} {done : List Int} {k : Int} (hz : ∀ z ∈ done, 0 ≤ z ∧ z < S.wishes.length) (ok : StoOk S) :
    goods S done k = hasAt S k - ((done.filter (isK S k "fetch")).length : Int) + ((done.filter (isK S k "bring")).length : Int) := by
  unfold goods
  induction done with
  | nil => simp
  | cons z r ih =>
    have ih' := ih fun y hy => hz y (List.mem_cons_of_mem _ hy)
    obtain ⟨z0, z1⟩ := hz z List.mem_cons_self
    obtain ⟨x, hx, hm⟩ := wish_at_k z0 z1
    rw [List.map_cons, List.sum_cons, delta_eq hx]
    by_cases e1 : x.shelf = k
    · rw [if_pos e1]
      rcases (ok.ws x hm).kind with e2 | e2
      · have p1 : isK S k "fetch" z = true := by
          rw [isK_eq hx]
          exact decide_eq_true ⟨e1, e2⟩
        have p2 : ¬ isK S k "bring" z = true := by
          rw [isK_eq hx, e2]
          exact fun h => nbf (of_decide_eq_true h).2
        rw [if_pos e2, List.filter_cons_of_pos p1, List.filter_cons_of_neg p2, List.length_cons]
        omega
      · have p1 : ¬ isK S k "fetch" z = true := by
          rw [isK_eq hx, e2]
          exact fun h => nfb (of_decide_eq_true h).2
        have p2 : isK S k "bring" z = true := by
          rw [isK_eq hx]
          exact decide_eq_true ⟨e1, e2⟩
        rw [e2, if_neg nfb, List.filter_cons_of_neg p1, List.filter_cons_of_pos p2, List.length_cons]
        omega
    · have p : ∀ kd, ¬ isK S k kd z = true := fun kd => by
        rw [isK_eq hx]
        exact fun h => e1 (of_decide_eq_true h).1
      rw [if_neg e1, List.filter_cons_of_neg (p _), List.filter_cons_of_neg (p _)]
      omega

/-! ## a step that is not barred keeps a state one of the store's form -/
theorem barShift_none {S : Sto} {s : Sta} {b : Int} (h : barShift S s b = none) : 0 ≤ (if b = 1 then s.aisle else s.aisle - 1) ∧ (if b = 1 then s.aisle else s.aisle - 1) < S.shelves.length ∧
    (∃ x, S.shelves[(if b = 1 then s.aisle else s.aisle - 1).toNat]? = some x ∧ ¬ x.sticks = 1) ∧ s.inside = [] ∧ s.kept ≤ 0 := by
  unfold barShift at h
  dsimp only at h
  generalize (if b = 1 then s.aisle else s.aisle - 1) = sh at h ⊢
  by_cases e : 0 ≤ sh ∧ sh < S.shelves.length
  · rw [if_pos e] at h
    obtain ⟨x, hx, _⟩ := shelf_at_k e.1 e.2
    rw [hx] at h
    dsimp only at h
    by_cases e2 : x.sticks = 1
    · rw [if_pos e2] at h
      cases h
    · rw [if_neg e2] at h
      refine ⟨e.1, e.2, ⟨x, hx, e2⟩, ?_⟩
      cases e3 : s.inside with
      | cons c r =>
        rw [e3] at h
        cases h
      | nil =>
        rw [e3] at h
        dsimp only at h
        by_cases e4 : s.kept > 0
        · rw [if_pos e4] at h
          cases h
        · exact ⟨rfl, by omega⟩
  · rw [if_neg e] at h
    cases h
theorem barLoad_none {S : Sto} {done : List Int} {kind : Str} {k : Int} (h : barLoad S done kind k = none) : (kind = "fetch" → ¬ goods S done k = 0) ∧ (kind = "bring" → ¬ goods S done k = roomAt S k) := by
  unfold barLoad at h
  constructor
  · intro e z
    rw [if_pos ⟨e, z⟩] at h
    cases h
  · intro e z
    rw [if_neg (fun y => nfb (e.symm.trans y.1)), if_pos ⟨e, z⟩] at h
    cases h
theorem sum_perm {l m : List Int} (h : l.Perm m) : l.sum = m.sum := by
  induction h with
  | nil => rfl
  | cons x _ ih => rw [List.sum_cons, List.sum_cons, ih]
  | swap x y l =>
    rw [List.sum_cons, List.sum_cons, List.sum_cons, List.sum_cons]
    omega
  | trans _ _ a b => exact a.trans b
theorem goods_perm {S : Sto} {l m : List Int} {k : Int} (h : l.Perm m) : goods S l k = goods S m k := by
  unfold goods
  rw [sum_perm (h.map _)]
theorem goods_snoc {S : Sto} {l : List Int} {n k : Int} : goods S (l ++ [n]) k = goods S l k + delta S k n := by
  unfold goods
  rw [List.map_append, List.sum_append]
  simp only [List.map_cons, List.map_nil, List.sum_cons, List.sum_nil]
  omega
theorem goods_step {S : Sto} {l : List Int} {n k : Int} : goods S (sortI (l ++ [n])) k = goods S l k + delta S k n := by
  rw [goods_perm (sortI_perm _), goods_snoc]
theorem StaOk.step {S : Sto} {s : Sta} {t : Stp} (ok : StoOk S) (h : StaOk S s) (ht : StpOk S.wishes.length t) (hb : bar S s t = none) : StaOk S (behindS S s t) := by
  have hk : 0 ≤ max (s.kept - 1) 0 ∧ max (s.kept - 1) 0 ≤ 3 := by
    have := h.k0
    have := h.k3
    omega
  have ha0 := h.a0
  have ha1 := h.a1
  cases t with
  | wait => exact ⟨h.a0, h.a1, h.done, h.inside, hk.1, hk.2, h.has⟩
  | shift b =>
    obtain ⟨c1, c2, _, _, _⟩ := barShift_none hb
    refine ⟨?_, ?_, h.done, h.inside, hk.1, hk.2, h.has⟩
    · show 0 ≤ s.aisle + b
      rcases ht with rfl | rfl
      · rw [if_neg (by decide)] at c1
        omega
      · omega
    · show s.aisle + b ≤ _
      rcases ht with rfl | rfl
      · omega
      · rw [if_pos rfl] at c2
        omega
  | cin c =>
    have e : c ∉ s.inside := fun z => by
      have hb' : (if c ∈ s.inside then some (("is" : Str), c) else none) = none := hb
      rw [if_pos z] at hb'
      cases hb'
    refine ⟨h.a0, h.a1, h.done, ?_, hk.1, hk.2, h.has⟩
    show InsideOk (sortI (s.inside ++ [c]))
    rcases h.inside with i | i | i | i <;> rw [i] at e ⊢ <;> rcases ht with rfl | rfl
    · exact .inr (.inl rfl)
    · exact .inr (.inr (.inl rfl))
    · exact absurd (by simp) e
    · exact .inr (.inr (.inr rfl))
    · exact .inr (.inr (.inr rfl))
    · exact absurd (by simp) e
    · exact absurd (by simp) e
    · exact absurd (by simp) e
  | cout c =>
    refine ⟨h.a0, h.a1, h.done, ?_, hk.1, hk.2, h.has⟩
    show InsideOk (s.inside.filter fun z => decide (z ≠ c))
    rcases h.inside with i | i | i | i <;> rw [i] <;> rcases ht with rfl | rfl
    · exact .inl rfl
    · exact .inl rfl
    · exact .inl rfl
    · exact .inr (.inl rfl)
    · exact .inr (.inr (.inl rfl))
    · exact .inl rfl
    · exact .inr (.inr (.inl rfl))
    · exact .inr (.inl rfl)
  | wish n =>
    obtain ⟨x, hx, hm⟩ := wish_at_k ht.1 ht.2
    have okx := ok.ws x hm
    obtain ⟨e1, e2, e3, e4, e5⟩ := barWish_none hx hb
    obtain ⟨f1, f2⟩ := barLoad_none e5
    have ek : keepAt S n = x.keep := by
      unfold keepAt
      rw [hx]
    have k0 := okx.k0
    have k3 := okx.k3
    refine ⟨h.a0, h.a1, ?_, h.inside, ?_, ?_, fun k h0 h1 => ?_⟩
    · show Rising 0 _ (sortI (s.done ++ [n]))
      rw [sort_ins h.done]
      exact h.done.ins e1 ht.1 ht.2
    · show 0 ≤ max (max (s.kept - 1) 0) (keepAt S n)
      omega
    · show max (max (s.kept - 1) 0) (keepAt S n) ≤ 3
      omega
    · show 0 ≤ goods S (sortI (s.done ++ [n])) k ∧ goods S (sortI (s.done ++ [n])) k ≤ roomAt S k
      obtain ⟨g0, g1⟩ := h.has k h0 h1
      rw [goods_step, delta_eq hx]
      by_cases e : x.shelf = k
      · rw [if_pos e]
        rw [e] at f1 f2
        by_cases ef : x.kind = "fetch"
        · rw [if_pos ef]
          have := f1 ef
          omega
        · rw [if_neg ef]
          have := f2 (okx.kind.resolve_left ef)
          omega
      · rw [if_neg e]
        omega
theorem sta0_ok {S : Sto} (ok : StoOk S) : StaOk S (sta0 S) := by
  refine ⟨ok.a0, ok.a1, trivial, .inl rfl, Int.le_refl _, by show (0 : Int) ≤ 3; decide, fun k h0 h1 => ?_⟩
  obtain ⟨sh, hsh, hm, eh, er⟩ := shelf_at_k h0 h1
  have oks := ok.sh sh hm
  show 0 ≤ goods S [] k ∧ goods S [] k ≤ _
  have e : goods S [] k = hasAt S k := by
    unfold goods
    rw [List.map_nil, List.sum_nil, Int.add_zero]
  rw [e, eh, er]
  exact ⟨oks.h0, oks.h1⟩

theorem eqv_nilT (l : List Int) : PyData.eqv (.tuple (dints l)) (.tuple []) = l.isEmpty := by
  cases l with
  | nil => rfl
  | cons i r => rfl
theorem eqv_nilL (l : List Int) : PyData.eqv (.list (dints l)) (.list []) = l.isEmpty := by
  cases l with
  | nil => rfl
  | cons i r => rfl
theorem lay_nilT : Lay 1 (.tuple []) := Lays.tup lays_nil
theorem lay_nilL : Lay 1 (.list []) := Lays.lst lays_nil
theorem n_rl : ¬ (("right" : Str) = "left") := by decide +kernel
theorem n_al : ¬ (("any" : Str) = "left") := by decide +kernel
theorem n_ar : ¬ (("any" : Str) = "right") := by decide +kernel
theorem key_ne {a b : Str} (h : ¬ a = b) : ¬ ((Sum.inr a : L2.Key) = Sum.inr b) := fun z => h (Sum.inr.inj z)
theorem get3 {x y z : V} (j : L2.Key) : valV (mergeK [] [(Sum.inr ("left" : Str), x), (Sum.inr ("right" : Str), y), (Sum.inr ("any" : Str), z)]) j =
    if j = Sum.inr ("any" : Str) then some z else if j = Sum.inr ("right" : Str) then some y else if j = Sum.inr ("left" : Str) then some x else none := by
  show valV (putK (putK (putK [] (Sum.inr ("left" : Str)) x) (Sum.inr ("right" : Str)) y) (Sum.inr ("any" : Str)) z) j = _
  rw [valV_put, valV_put, valV_put, valV_nil]

/-! ## the law's own book-keeping: a dict with three lists -/
theorem dget {H : Hp} {a : Addr} {kvs : List (L2.Key × V)} {x : Str} {v : V} (h : H a = some (.dK kvs)) (e : valV kvs (Sum.inr x) = some v) : DGet H a (.str x) (some v) := by
  rw [← e]
  exact DGet.k (k := Sum.inr x) h
theorem dput {H : Hp} {a : Addr} {kvs : List (L2.Key × V)} {x : Str} {v : V} (h : H a = some (.dK kvs)) (hl : kvs.length ≤ 20) : DPut H a (.str x) v (upd H a (.dK (putK kvs (Sum.inr x) v))) := DPut.k (k := Sum.inr x) h (small1000 (by omega))
theorem put_same {kvs : List (L2.Key × V)} {x : Str} {v : V} : valV (putK kvs (Sum.inr x) v) (Sum.inr x) = some v := by
  rw [valV_put, if_pos rfl]
theorem put_other {kvs : List (L2.Key × V)} {x y : Str} {v : V} (h : ¬ y = x) : valV (putK kvs (Sum.inr x) v) (Sum.inr y) = valV kvs (Sum.inr y) := by
  rw [valV_put, if_neg (key_ne h)]
theorem put_len {kvs : List (L2.Key × V)} {k : L2.Key} {v u : V} (h : valV kvs k = some u) : (putK kvs k v).length = kvs.length := by
  unfold putK
  rw [if_pos (by rw [valV_any, h]; rfl), List.length_map]
structure LsA where
  ds : Addr
  li : Addr
  ld : Addr
  lg : Addr
structure Ls where
  a : Int
  ins : List Int
  done : List Int
  goods : List Int
  now : Int
  opn : Int
structure LsAt (H : Hp) (A : LsA) (L : Ls) : Prop where
  d : ∃ kvs, H A.ds = some (.dK kvs) ∧ kvs.length ≤ 20 ∧ valV kvs (Sum.inr "aisle") = some (.int L.a) ∧ valV kvs (Sum.inr "in") = some (.ref A.li) ∧ valV kvs (Sum.inr "done") = some (.ref A.ld) ∧ valV kvs (Sum.inr "goods") = some (.ref A.lg) ∧
    valV kvs (Sum.inr "now") = some (.int L.now) ∧ valV kvs (Sum.inr "open") = some (.int L.opn)
  i : H A.li = some (.lst (L.ins.map V.int))
  dn : H A.ld = some (.lst (L.done.map V.int))
  g : H A.lg = some (.lst (L.goods.map V.int))
  n1 : A.li ≠ A.ld
  n2 : A.li ≠ A.lg
  n3 : A.ld ≠ A.lg
structure LsA.Out (A : LsA) (B : Hp) : Prop where
  ds : B A.ds = none
  li : B A.li = none
  ld : B A.ld = none
  lg : B A.lg = none
def LsA.Fr (A : LsA) (H H' : Hp) : Prop := ∀ b o, H b = some o → b ≠ A.ds → b ≠ A.li → b ≠ A.ld → b ≠ A.lg → H' b = some o
theorem LsA.Fr.refl (A : LsA) (H : Hp) : A.Fr H H := fun _ _ h _ _ _ _ => h
theorem LsA.Fr.trans {A : LsA} {H H1 H2 : Hp} (a : A.Fr H H1) (b : A.Fr H1 H2) : A.Fr H H2 := fun c o h h1 h2 h3 h4 => b c o (a c o h h1 h2 h3 h4) h1 h2 h3 h4
theorem LsA.Fr.of {A : LsA} {H H' : Hp} (s : Same H H') : A.Fr H H' := fun c o h _ _ _ _ => s c o h
theorem LsA.Fr.same {A : LsA} {B H H' : Hp} (f : A.Fr H H') (s : Same B H) (o : A.Out B) : Same B H' := fun b u h =>
  f b u (s b u h) (ne_of_none h o.ds) (ne_of_none h o.li) (ne_of_none h o.ld) (ne_of_none h o.lg)
section
variable {H H' : Hp} {A : LsA} {L : Ls} {p : Addr} {o : HO}
theorem LsAt.ne (h : LsAt H A L) : A.ds ≠ A.li ∧ A.ds ≠ A.ld ∧ A.ds ≠ A.lg := by
  obtain ⟨kvs, e, _⟩ := h.d
  refine ⟨fun z => ?_, fun z => ?_, fun z => ?_⟩
  · rw [z, h.i] at e
    cases e
  · rw [z, h.dn] at e
    cases e
  · rw [z, h.g] at e
    cases e
theorem LsAt.mono (s : Same H H') (h : LsAt H A L) : LsAt H' A L := by
  obtain ⟨kvs, e, r⟩ := h.d
  exact ⟨⟨kvs, s _ _ e, r⟩, s _ _ h.i, s _ _ h.dn, s _ _ h.g, h.n1, h.n2, h.n3⟩
theorem LsAt.put {kvs : List (L2.Key × V)} {a n op : Int} (h : LsAt H A L) (hl : kvs.length ≤ 20) (e1 : valV kvs (Sum.inr "aisle") = some (.int a)) (e2 : valV kvs (Sum.inr "in") = some (.ref A.li)) (e3 : valV kvs (Sum.inr "done") = some (.ref A.ld)) (e4 : valV kvs (Sum.inr "goods") = some (.ref A.lg))
    (e5 : valV kvs (Sum.inr "now") = some (.int n)) (e6 : valV kvs (Sum.inr "open") = some (.int op)) : LsAt (upd H A.ds (.dK kvs)) A { L with a := a, now := n, opn := op } ∧ A.Fr H (upd H A.ds (.dK kvs)) := by
  obtain ⟨m1, m2, m3⟩ := h.ne
  exact ⟨⟨⟨kvs, upd_same, hl, e1, e2, e3, e4, e5, e6⟩, by rw [upd_ne (Ne.symm m1)]; exact h.i, by rw [upd_ne (Ne.symm m2)]; exact h.dn, by rw [upd_ne (Ne.symm m3)]; exact h.g, h.n1, h.n2, h.n3⟩, fun b u e h1 _ _ _ => by rw [upd_ne h1]; exact e⟩
theorem LsAt.putI (h : LsAt H A L) (l : List Int) : LsAt (upd H A.li (.lst (l.map V.int))) A { L with ins := l } ∧ A.Fr H (upd H A.li (.lst (l.map V.int))) := by
  obtain ⟨m1, m2, m3⟩ := h.ne
  obtain ⟨kvs, e, r⟩ := h.d
  exact ⟨⟨⟨kvs, by rw [upd_ne m1]; exact e, r⟩, upd_same, by rw [upd_ne (Ne.symm h.n1)]; exact h.dn, by rw [upd_ne (Ne.symm h.n2)]; exact h.g, h.n1, h.n2, h.n3⟩, fun b u e _ h1 _ _ => by rw [upd_ne h1]; exact e⟩
theorem LsAt.putD (h : LsAt H A L) (l : List Int) : LsAt (upd H A.ld (.lst (l.map V.int))) A { L with done := l } ∧ A.Fr H (upd H A.ld (.lst (l.map V.int))) := by
  obtain ⟨m1, m2, m3⟩ := h.ne
  obtain ⟨kvs, e, r⟩ := h.d
  exact ⟨⟨⟨kvs, by rw [upd_ne m2]; exact e, r⟩, by rw [upd_ne h.n1]; exact h.i, upd_same, by rw [upd_ne (Ne.symm h.n3)]; exact h.g, h.n1, h.n2, h.n3⟩, fun b u e _ _ h1 _ => by rw [upd_ne h1]; exact e⟩
theorem LsAt.putG (h : LsAt H A L) (l : List Int) : LsAt (upd H A.lg (.lst (l.map V.int))) A { L with goods := l } ∧ A.Fr H (upd H A.lg (.lst (l.map V.int))) := by
  obtain ⟨m1, m2, m3⟩ := h.ne
  obtain ⟨kvs, e, r⟩ := h.d
  exact ⟨⟨⟨kvs, by rw [upd_ne m3]; exact e, r⟩, by rw [upd_ne h.n2]; exact h.i, by rw [upd_ne h.n3]; exact h.dn, upd_same, h.n1, h.n2, h.n3⟩, fun b u e _ _ _ h1 => by rw [upd_ne h1]; exact e⟩
end
theorem ka_in : ¬ (("aisle" : Str) = "now") := by decide +kernel
theorem kb_in : ¬ (("in" : Str) = "now") := by decide +kernel
theorem kc_in : ¬ (("done" : Str) = "now") := by decide +kernel
theorem kd_in : ¬ (("goods" : Str) = "now") := by decide +kernel
theorem ke_in : ¬ (("open" : Str) = "now") := by decide +kernel
theorem ka_io : ¬ (("aisle" : Str) = "open") := by decide +kernel
theorem kb_io : ¬ (("in" : Str) = "open") := by decide +kernel
theorem kc_io : ¬ (("done" : Str) = "open") := by decide +kernel
theorem kd_io : ¬ (("goods" : Str) = "open") := by decide +kernel
theorem ke_io : ¬ (("now" : Str) = "open") := by decide +kernel
theorem kb_ia : ¬ (("in" : Str) = "aisle") := by decide +kernel
theorem kc_ia : ¬ (("done" : Str) = "aisle") := by decide +kernel
theorem kd_ia : ¬ (("goods" : Str) = "aisle") := by decide +kernel
theorem ke_ia : ¬ (("now" : Str) = "aisle") := by decide +kernel
theorem kf_ia : ¬ (("open" : Str) = "aisle") := by decide +kernel
theorem LsAt.putNow {H : Hp} {A : LsA} {L : Ls} (h : LsAt H A L) (n : Int) : ∃ H', DPut H A.ds (.str "now") (.int n) H' ∧ LsAt H' A { L with now := n } ∧ A.Fr H H' := by
  obtain ⟨kvs, e, hl, e1, e2, e3, e4, e5, e6⟩ := h.d
  have q := h.put (kvs := putK kvs (Sum.inr "now") (.int n)) (by rw [put_len e5]; exact hl) ((put_other ka_in).trans e1) ((put_other kb_in).trans e2) ((put_other kc_in).trans e3) ((put_other kd_in).trans e4) put_same ((put_other ke_in).trans e6)
  exact ⟨_, dput e hl, q.1, q.2⟩
theorem LsAt.putOpen {H : Hp} {A : LsA} {L : Ls} (h : LsAt H A L) (n : Int) : ∃ H', DPut H A.ds (.str "open") (.int n) H' ∧ LsAt H' A { L with opn := n } ∧ A.Fr H H' := by
  obtain ⟨kvs, e, hl, e1, e2, e3, e4, e5, e6⟩ := h.d
  have q := h.put (kvs := putK kvs (Sum.inr "open") (.int n)) (by rw [put_len e6]; exact hl) ((put_other ka_io).trans e1) ((put_other kb_io).trans e2) ((put_other kc_io).trans e3) ((put_other kd_io).trans e4) ((put_other ke_io).trans e5) put_same
  exact ⟨_, dput e hl, q.1, q.2⟩
theorem LsAt.putAisle {H : Hp} {A : LsA} {L : Ls} (h : LsAt H A L) (n : Int) : ∃ H', DPut H A.ds (.str "aisle") (.int n) H' ∧ LsAt H' A { L with a := n } ∧ A.Fr H H' := by
  obtain ⟨kvs, e, hl, e1, e2, e3, e4, e5, e6⟩ := h.d
  have q := h.put (kvs := putK kvs (Sum.inr "aisle") (.int n)) (by rw [put_len e1]; exact hl) put_same ((put_other kb_ia).trans e2) ((put_other kc_ia).trans e3) ((put_other kd_ia).trans e4) ((put_other ke_ia).trans e5) ((put_other kf_ia).trans e6)
  exact ⟨_, dput e hl, q.1, q.2⟩
section
variable {H : Hp} {A : LsA} {L : Ls}
theorem LsAt.gA (h : LsAt H A L) : DGet H A.ds (.str "aisle") (some (.int L.a)) := by
  obtain ⟨kvs, e, hl, e1, e2, e3, e4, e5, e6⟩ := h.d
  exact dget e e1
theorem LsAt.gI (h : LsAt H A L) : DGet H A.ds (.str "in") (some (.ref A.li)) := by
  obtain ⟨kvs, e, hl, e1, e2, e3, e4, e5, e6⟩ := h.d
  exact dget e e2
theorem LsAt.gD (h : LsAt H A L) : DGet H A.ds (.str "done") (some (.ref A.ld)) := by
  obtain ⟨kvs, e, hl, e1, e2, e3, e4, e5, e6⟩ := h.d
  exact dget e e3
theorem LsAt.gG (h : LsAt H A L) : DGet H A.ds (.str "goods") (some (.ref A.lg)) := by
  obtain ⟨kvs, e, hl, e1, e2, e3, e4, e5, e6⟩ := h.d
  exact dget e e4
theorem LsAt.gN (h : LsAt H A L) : DGet H A.ds (.str "now") (some (.int L.now)) := by
  obtain ⟨kvs, e, hl, e1, e2, e3, e4, e5, e6⟩ := h.d
  exact dget e e5
theorem LsAt.gO (h : LsAt H A L) : DGet H A.ds (.str "open") (some (.int L.opn)) := by
  obtain ⟨kvs, e, hl, e1, e2, e3, e4, e5, e6⟩ := h.d
  exact dget e e6
end
def dlt (x : Wish) : Int := if x.kind = "fetch" then -1 else 1
def Ls.wish (L : Ls) (n : Int) (x : Wish) (g : Int) : Ls := ⟨L.a, L.ins, L.done ++ [n], L.goods.set x.shelf.toNat (g + dlt x), L.now, max L.opn (L.now + x.keep)⟩
section
variable {P : Program} {w : World} {K : PySem.W.Frag} {mg : Str → Option Value} {base : Heap}
def spWishRight (K : PySem.W.Frag) : Sp := fun vs H Q _ => ∃ (v : V) (A : LsA) (B : Hp) (S : Sto) (n : Int) (L : Ls) (x : Wish) (g : Int), vs = [v, .ref A.ds, .int n] ∧ Same B H ∧ Dp K B v S.d ∧ A.Out B ∧ LsAt H A L ∧ StoOk S ∧ S.wishes[n.toNat]? = some x ∧ 0 ≤ n ∧
  n ∉ L.done ∧ (∀ z ∈ x.after, z ∈ L.done) ∧ x.crew ∈ L.ins ∧ beside L.a x.shelf x.side = true ∧ L.goods[x.shelf.toNat]? = some g ∧ 0 ≤ g + dlt x ∧ g + dlt x ≤ roomAt S x.shelf ∧ L.done.length ≤ 50 ∧
  ∀ H', A.Fr H H' → LsAt H' A (L.wish n x g) → Q (.bl true) H'
/-! _law_is_wish_right: 0 _law_store_here, 1 _law_s, 2 _law_number, 3 _law_kind, 4 _law_shelf, 5 _law_side, 6 _law_crew, 7 _law_keep, 8 _law_after, 9 _law_one -/
abbrev s__law_is_wish_right : Stmt := topS 38
abbrev N__law_is_wish_right : List Str := ["_law_store_here", "_law_s", "_law_number", "_law_kind", "_law_shelf", "_law_side", "_law_crew", "_law_keep", "_law_after", "_law_one"]
theorem sc__law_is_wish_right : FnScope N__law_is_wish_right ["_law_store_here", "_law_s", "_law_number"] (defScope s__law_is_wish_right) := ⟨rfl, rfl, rfl, by decide +kernel, rfl, by decide +kernel, by decide +kernel⟩
theorem ok__law_is_wish_right {f : Addr} {fd : FuncData} (D : Dfs K mg "_law_is_wish_right" s__law_is_wish_right ["_law_store_here", "_law_s", "_law_number"] f fd) (T : Tx K mg) : Cal P w K mg base 1 "_law_is_wish_right" ["_law_store_here", "_law_s", "_law_number"] (spWishRight K) f fd := by
  refine D.cal (D.F.ok sc__law_is_wish_right (fun vs H Q E h => ?_) (fun cdv Ar outer s H vs Q E hr h => ?_))
  · obtain ⟨v, A, B, S, n, L, x, g, rfl, _⟩ := h
    rfl
  · obtain ⟨v, A, B, S, n, L, x, g, rfl, sB, hv, out, hL, ok, hx, n0, hn, haf, hcr, hbe, hg, g0, g1, hl, q⟩ := h
    have okx := ok.ws x (List.mem_of_getElem? hx)
    obtain ⟨a, l, m, xs, ys, rfl, so⟩ := sto_at hv
    have soH := so.mono sB
    obtain ⟨b, t, hb, hbT, ht⟩ := wish_get soH.dy hx
    obtain ⟨_, _, _, _, ht0⟩ := wish_get so.dy hx
    refine ⟨_, (C8.pss_cut (ps_asg (pe_ix (kix_list (K := K)) (pe_ix (kix_tup (K := K)) (pv 0) pe_int (fun _ _ => rfl)) (pv 2) (fun _ _ => rfl)) (pg_tup (by rfl) (pgs_cons (pg_name (i := 3) sc__law_is_wish_right.nd rfl (Or.inl rfl)) (pgs_cons (pg_name (i := 4) sc__law_is_wish_right.nd rfl (Or.inl rfl)) (pgs_cons (pg_name (i := 5) sc__law_is_wish_right.nd rfl (Or.inl rfl)) (pgs_cons (pg_name (i := 6) sc__law_is_wish_right.nd rfl (Or.inl rfl)) (pgs_cons (pg_name (i := 7) sc__law_is_wish_right.nd rfl (Or.inl rfl)) (pgs_cons (pg_name (i := 8) sc__law_is_wish_right.nd rfl (Or.inl rfl)) pgs_nil))))))))
      (C8.pss_cut (ps_if (PW.pt (pw_or (pt_cmpR (kin_seq (K := K)) (pv 2) (pe_dget (hu_of hr) (pv 1) pe_str (fun _ _ => rfl)) (by rfl)) (pw_or (pt_cmpR (kneD (K := K) hr.units) (pe_lc (own := [("_law_one", 9)]) (g := gName 9) rfl sc__law_is_wish_right.nd (pi_tup (pv 8)) (blkOk_by (own := [("_law_one", 9)]) (N := N__law_is_wish_right) (sc := defScope s__law_is_wish_right) (by decide +kernel)) (fun _ _ _ _ _ => (pg_name (i := 9) sc__law_is_wish_right.nd rfl (Or.inl rfl))) (fun _ _ _ _ _ => (pts_one (pt_cmpR (knotIn_seq (K := K)) (pv 9) (pe_dget (hu_of hr) (pv 1) pe_str (fun _ _ => rfl)) (by rfl)))) (fun _ _ _ _ _ => (pv 9))) (pe_lst pa_nil) (nomark _)) (pw_or1 (pt_cmpR (knotIn_seq (K := K)) (pv 6) (pe_dget (hu_of hr) (pv 1) pe_str (fun _ _ => rfl)) (by rfl)))))) (pss_one (ps_ret pe_bl)) pss_nil)
      (C8.pss_cut (ps_if (pt_cmpR (knotIn_seq (K := K)) (pe_op op_sub (pe_dget (hu_of hr) (pv 1) pe_str (fun _ _ => rfl)) (pv 4)) (pe_dget (hu_of hr) (pe_disp (pps_cons pe_str (pe_lst (pa_cons pe_int pa_nil)) (pps_cons pe_str (pe_lst (pa_cons pe_int pa_nil)) (pps_cons pe_str (pe_lst (pa_cons pe_int (pa_cons pe_int pa_nil))) pps_nil))) (by rfl) (by rfl) (fun z => by cases z) (by decide)) (pv 5) (fun _ _ => rfl)) (by rfl)) (pss_one (ps_ret pe_bl)) pss_nil)
      (C8.pss_cut (ps_expr (pe_bm PySem.F.plainAttrs_list PySem.F.slot_list_append PySem.F.type_list_append mt_append (pe_dget (hu_of hr) (pv 1) pe_str (fun _ _ => rfl)) (pa_cons (pv 2) pa_nil)))
      (C8.pss_cut (ps_asg (pe_op op_add (pe_ix (kix_list (K := K)) (pe_dget (hu_of hr) (pv 1) pe_str (fun _ _ => rfl)) (pv 4) (fun _ _ => rfl)) (pe_ix (kix_list (K := K)) (pe_lst (pa_cons pe_int (pa_cons (pe_un un_neg pe_int) pa_nil))) (pe_callTy call_int1 (by rfl) T.n_int (by decide +kernel) (pa_cons (pe_cmpR op_eq (pv 3) pe_str (nomark _)) pa_nil)) (fun _ _ => rfl))) (pg_sub (pe_dget (hu_of hr) (pv 1) pe_str (fun _ _ => rfl)) (pv 4) set_list))
      (C8.pss_cut (ps_dput (hu_of hr) (pv 1) pe_str (pe_callB (call_max2 rfl) (by rfl) T.n_max (by decide +kernel) (pa_cons (pe_dget (hu_of hr) (pv 1) pe_str (fun _ _ => rfl)) (pa_cons (pe_op op_add (pe_dget (hu_of hr) (pv 1) pe_str (fun _ _ => rfl)) (pv 7)) pa_nil))) rfl)
      (pss_one (ps_ret (pe_chain op_le op_le pe_int (pe_ix (kix_list (K := K)) (pe_dget (hu_of hr) (pv 1) pe_str (fun _ _ => rfl)) (pv 4) (fun _ _ => rfl)) (pe_ix (kix_tup (K := K)) (pe_ix (kix_list (K := K)) (pe_ix (kix_tup (K := K)) (pv 0) pe_int (fun _ _ => rfl)) (pv 4) (fun _ _ => rfl)) pe_int (fun _ _ => rfl))))))))))), ?_⟩
    refine ⟨fun σ H' => H = H' ∧ σ = [some (.ref a), some (.ref A.ds), some (.int n), some (.str x.kind), some (.int x.shelf), some (.str x.side), some (.int x.crew), some (.int x.keep), some (.ref t), none], ?_, ?_⟩
    · exact ⟨_, rfl, a, _, 2, .ref m, rfl, rfl, soH.t, rfl, _, rfl, m, ys, n, .ref b, rfl, rfl, soH.m, at_of (j := n.toNat) (by omega) hb, b, _, rfl, hbT, rfl, _, _, rfl, _, _, rfl, _, _, rfl, _, _, rfl, _, _, rfl, _, _, rfl, rfl, rfl, rfl⟩
    rintro σ _ ⟨rfl, rfl⟩
    -- the first test
    refine ⟨fun σ H' => Same H H' ∧ σ = [some (.ref a), some (.ref A.ds), some (.int n), some (.str x.kind), some (.int x.shelf), some (.str x.side), some (.int x.crew), some (.int x.keep), some (.ref t), none], ?_, ?_⟩
    · refine ⟨_, rfl, _, rfl, A.ds, _, rfl, hL.gD, A.ld, _, rfl, .inl (SqL.of hL.dn), rfl, flat_ints _, _, rfl, in_n hn ?_⟩
      refine ⟨_, rfl, t, rfl, ⟨_, ht⟩, fun D1 nD1 => ?_⟩
      refine lc_tup (K := K) (a := t) (xs := x.after.map V.int) (fun j H' => Same H H' ∧ H' D1 = some (.lst [])) ⟨same_new nD1, upd_same⟩ (fun j H' _ h => Same.t h.1 ht) ?_ ?_
      · rintro j y H' hj ⟨s1, eD⟩
        obtain ⟨z, hzj, rfl⟩ := int_item hj
        have hL1 := hL.mono s1
        refine ⟨rfl, _, rfl, _, rfl, A.ds, _, rfl, hL1.gD, A.ld, _, rfl, .inl (SqL.of hL1.dn), rfl, flat_ints _, _, rfl, ni_n (haf z (List.mem_of_getElem? hzj)) ⟨s1, eD⟩⟩
      · rintro H1 ⟨s1, eD⟩
        refine ⟨small (by simp), fun p0 np0 => ?_⟩
        have s2 := same_new (o := .lst []) np0
        refine ⟨.list [], .list [], .lst (SqL.of (s2 _ _ eD)) .nil, .lst lst_new .nil, lay_nilL.shaped, lay_nilL.shaped, _, rfl, itnB rfl ?_⟩
        have hL2 := hL.mono (s1.trans s2)
        exact ⟨_, rfl, _, rfl, A.ds, _, rfl, hL2.gI, A.li, _, rfl, .inl (SqL.of hL2.i), rfl, flat_ints _, _, rfl, ni_n hcr ⟨s1.trans s2, rfl⟩⟩
    rintro σ H1 ⟨s1, rfl⟩
    have hL1 := hL.mono s1
    -- beside
    refine ⟨fun σ H' => Same H H' ∧ σ = [some (.ref a), some (.ref A.ds), some (.int n), some (.str x.kind), some (.int x.shelf), some (.str x.side), some (.int x.crew), some (.int x.keep), some (.ref t), none], ?_, ?_⟩
    · refine ⟨_, rfl, A.ds, _, rfl, hL1.gA, _, rfl, _, _, rfl, rfl, ?_⟩
      refine fun pd npd => ?_
      refine ⟨small (by simp), fun p1 np1 => ⟨small (by simp), fun p2 np2 => ⟨small (by simp), fun p3 np3 => ?_⟩⟩⟩
      have d1 : pd ≠ p1 := ne_of_none upd_same np1
      have d2 : pd ≠ p2 := ne_of_none (by rw [upd_ne d1]; exact upd_same) np2
      have d3 : pd ≠ p3 := ne_of_none (by rw [upd_ne d2, upd_ne d1]; exact upd_same) np3
      have d12 : p1 ≠ p2 := ne_of_none upd_same np2
      have d13 : p1 ≠ p3 := ne_of_none (by rw [upd_ne d12]; exact upd_same) np3
      have d23 : p2 ≠ p3 := ne_of_none upd_same np3
      refine ⟨by rw [upd_ne d3, upd_ne d2, upd_ne d1]; exact upd_same, [(Sum.inr ("left" : Str), .ref p1), (Sum.inr ("right" : Str), .ref p2), (Sum.inr ("any" : Str), .ref p3)], rfl, by simp, _, rfl, ?_⟩
      have s3 : Same H1 (upd (upd (upd (upd (upd H1 pd (.dK [])) p1 (.lst [.int 0])) p2 (.lst [.int 1])) p3 (.lst [.int 0, .int 1])) pd (.dK (mergeK [] [(Sum.inr ("left" : Str), .ref p1), (Sum.inr ("right" : Str), .ref p2), (Sum.inr ("any" : Str), .ref p3)]))) :=
        Same.put ((((same_new npd).trans (same_new np1)).trans (same_new np2)).trans (same_new np3)) npd
      have gd : (upd (upd (upd (upd (upd H1 pd (.dK [])) p1 (.lst [.int 0])) p2 (.lst [.int 1])) p3 (.lst [.int 0, .int 1])) pd (.dK (mergeK [] [(Sum.inr ("left" : Str), .ref p1), (Sum.inr ("right" : Str), .ref p2), (Sum.inr ("any" : Str), .ref p3)]))) pd = some (.dK (mergeK [] [(Sum.inr ("left" : Str), .ref p1), (Sum.inr ("right" : Str), .ref p2), (Sum.inr ("any" : Str), .ref p3)])) := upd_same
      have hb3 : ∃ (pl : Addr) (zs : List Int), valV (mergeK [] [(Sum.inr ("left" : Str), V.ref p1), (Sum.inr ("right" : Str), V.ref p2), (Sum.inr ("any" : Str), V.ref p3)]) (Sum.inr x.side) = some (.ref pl) ∧
          (upd (upd (upd (upd (upd H1 pd (.dK [])) p1 (.lst [.int 0])) p2 (.lst [.int 1])) p3 (.lst [.int 0, .int 1])) pd (.dK (mergeK [] [(Sum.inr ("left" : Str), .ref p1), (Sum.inr ("right" : Str), .ref p2), (Sum.inr ("any" : Str), .ref p3)]))) pl = some (.lst (zs.map V.int)) ∧ L.a - x.shelf ∈ zs := by
        rw [get3]
        unfold beside at hbe
        rcases okx.side with e | e | e
        · rw [e, if_pos rfl] at hbe
          have hbe' := of_decide_eq_true hbe
          rw [e, if_neg (key_ne (fun z => n_al z.symm)), if_neg (key_ne (fun z => n_rl z.symm)), if_pos rfl]
          exact ⟨p1, [0], rfl, by rw [upd_ne (Ne.symm d1), upd_ne d13, upd_ne d12]; exact upd_same, by rw [List.mem_singleton]; omega⟩
        · rw [e, if_neg n_rl, if_pos rfl] at hbe
          have hbe' := of_decide_eq_true hbe
          rw [e, if_neg (key_ne (fun z => n_ar z.symm)), if_pos rfl]
          exact ⟨p2, [1], rfl, by rw [upd_ne (Ne.symm d2), upd_ne d23]; exact upd_same, by rw [List.mem_singleton]; omega⟩
        · rw [e, if_neg n_al, if_neg n_ar] at hbe
          have hbe' := of_decide_eq_true hbe
          rw [e, if_pos rfl]
          exact ⟨p3, [0, 1], rfl, by rw [upd_ne (Ne.symm d3)]; exact upd_same, by rw [List.mem_cons, List.mem_singleton]; omega⟩
      obtain ⟨pl, zs, hval, hpl, hmem⟩ := hb3
      exact ⟨pd, .ref pl, rfl, by rw [← hval]; exact DGet.k (k := Sum.inr x.side) gd, pl, _, rfl, .inl (SqL.of hpl), rfl, flat_ints _, _, rfl, ni_n hmem ⟨s1.trans s3, rfl⟩⟩
    rintro σ H2 ⟨s2, rfl⟩
    have hL2 := hL.mono s2
    -- done.append(number)
    refine ⟨fun σ H' => A.Fr H H' ∧ LsAt H' A { L with done := L.done ++ [n] } ∧ σ = [some (.ref a), some (.ref A.ds), some (.int n), some (.str x.kind), some (.int x.shelf), some (.str x.side), some (.int x.crew), some (.int x.keep), some (.ref t), none], ?_, ?_⟩
    · have q3 := hL2.putD (L.done ++ [n])
      refine ⟨_, rfl, A.ds, _, rfl, hL2.gD, .inl ⟨rfl, _, SqL.of hL2.dn⟩, _, rfl, A.ld, _, _, rfl, rfl, hL2.dn, small1000 (by rw [List.length_map]; omega), ?_, ?_, rfl⟩
      · rw [List.map_append] at q3
        exact (LsA.Fr.of s2).trans q3.2
      · rw [List.map_append] at q3
        exact q3.1
    rintro σ H3 ⟨f3, hL3, rfl⟩
    -- goods[shelf] = ..
    refine ⟨fun σ H' => A.Fr H H' ∧ LsAt H' A { L with done := L.done ++ [n], goods := L.goods.set x.shelf.toNat (g + dlt x) } ∧ σ = [some (.ref a), some (.ref A.ds), some (.int n), some (.str x.kind), some (.int x.shelf), some (.str x.side), some (.int x.crew), some (.int x.keep), some (.ref t), none], ?_, ?_⟩
    · have s0 := okx.s0
      have hgm : (L.goods.map V.int)[x.shelf.toNat]? = some (.int g) := by
        rw [List.getElem?_map, hg]
        rfl
      refine ⟨_, rfl, A.ds, _, rfl, hL3.gG, _, rfl, A.lg, _, x.shelf, .int g, rfl, rfl, SqL.of hL3.g, at_of (j := x.shelf.toNat) (by omega) hgm, 1, rfl, small (by simp), fun p4 np4 => ⟨_, rfl, rfl, .inr ⟨_, rfl, ?_⟩⟩⟩
      have s4 := same_new (o := .lst [V.int 1, V.int (-1)]) np4
      have hL4 := hL3.mono s4
      have hat : atI [V.int 1, V.int (-1)] (if decide (V.str x.kind = V.str "fetch") = true then 1 else 0) = some (.int (dlt x)) := by
        unfold dlt
        by_cases e : x.kind = "fetch"
        · rw [decide_eq_true (by rw [e]), if_pos rfl, if_pos e]
          rfl
        · rw [decide_eq_false (sne e), if_neg Bool.false_ne_true, if_neg e]
          rfl
      have hlt : x.shelf.toNat < L.goods.length := (List.getElem?_eq_some_iff.mp hg).1
      refine ⟨p4, _, _, _, rfl, rfl, lst_new, hat, _, _, rfl, rfl, ?_⟩
      have q5 := hL4.putG (L.goods.set x.shelf.toNat (g + dlt x))
      have ems : (L.goods.map V.int).set x.shelf.toNat (.int (g + dlt x)) = (L.goods.set x.shelf.toNat (g + dlt x)).map V.int := by rw [List.map_set]
      refine ⟨_, rfl, A.ds, _, rfl, hL4.gG, _, rfl, A.lg, _, x.shelf, x.shelf.toNat, rfl, rfl, hL4.g, ?_, ?_⟩
      · unfold ixN
        rw [if_pos s0, List.length_map, if_pos (show x.shelf < (L.goods.length : Int) by omega)]
      · rw [ems]
        exact ⟨(f3.trans (LsA.Fr.of s4)).trans q5.2, q5.1, rfl⟩
    rintro σ H5 ⟨f5, hL5, rfl⟩
    -- open = max(open, now + keep)
    refine ⟨fun σ H' => A.Fr H H' ∧ LsAt H' A (L.wish n x g) ∧ σ = [some (.ref a), some (.ref A.ds), some (.int n), some (.str x.kind), some (.int x.shelf), some (.str x.side), some (.int x.crew), some (.int x.keep), some (.ref t), none], ?_, ?_⟩
    · obtain ⟨H6, dp, hL6, f6⟩ := hL5.putOpen (max L.opn (L.now + x.keep))
      refine ⟨_, rfl, A.ds, _, rfl, hL5.gO, _, rfl, A.ds, _, rfl, hL5.gN, _, rfl, _, _, rfl, rfl, _, _, rfl, ?_⟩
      rw [maxI]
      exact ⟨_, rfl, A.ds, H6, rfl, dp, f5.trans f6, hL6, rfl⟩
    rintro σ H6 ⟨f6, hL6, rfl⟩
    have hlt : x.shelf.toNat < L.goods.length := (List.getElem?_eq_some_iff.mp hg).1
    have so6 := so.mono (f6.same sB out)
    obtain ⟨sh, hsh, _, _, er⟩ := shelf_at_k okx.s0 okx.s1
    obtain ⟨c, hc, hcT⟩ := shelf_get so6.dx hsh
    have hg6 : ((L.goods.set x.shelf.toNat (g + dlt x)).map V.int)[x.shelf.toNat]? = some (.int (g + dlt x)) := by
      rw [List.getElem?_map, List.getElem?_set_self hlt]
      rfl
    refine ⟨_, rfl, A.ds, _, rfl, hL6.gG, _, rfl, A.lg, _, x.shelf, .int (g + dlt x), rfl, rfl, SqL.of hL6.g, at_of (j := x.shelf.toNat) (by have := okx.s0; omega) hg6, _, _, rfl, rfl, _, rfl, itD g0 ?_⟩
    refine ⟨_, rfl, a, _, 0, .ref l, rfl, rfl, so6.t, rfl, _, rfl, l, xs, x.shelf, .ref c, rfl, rfl, so6.l, at_of (j := x.shelf.toNat) (by have := okx.s0; omega) hc, c, _, 0, .int sh.room, rfl, rfl, hcT, rfl, _, _, rfl, rfl, ?_⟩
    rw [er] at g1
    show Q (.bl (decide (g + dlt x ≤ sh.room))) H6
    rw [decide_eq_true g1]
    exact q H6 f6 hL6
end

/-! ### the book-keeping and the state -/
structure Lk (S : Sto) (s : Sta) (L : Ls) : Prop where
  a : L.a = s.aisle
  ins : sortI L.ins = s.inside
  nd : L.ins.Nodup
  done : sortI L.done = s.done
  goods : L.goods = (List.range S.shelves.length).map fun (k : Nat) => goods S s.done (k : Int)
  kept : max 0 (L.opn - L.now) = s.kept
theorem sort_filter {l : List Int} {p : Int → Bool} : sortI (l.filter p) = (sortI l).filter p :=
  (sortI_of ((sortI_perm l).filter p) ((sortI_sorted l).filter p)).symm
theorem erase_filter {c : Int} : ∀ {l : List Int} {j : Nat}, l.Nodup → l[j]? = some c → l.eraseIdx j = l.filter fun z => decide (z ≠ c)
  | [], j, _, h => by simp at h
  | y :: r, 0, hn, h => by
    have e : y = c := Option.some.inj h
    obtain ⟨h1, h2⟩ := List.nodup_cons.mp hn
    subst e
    rw [List.eraseIdx_cons_zero, List.filter_cons_of_neg (by simp)]
    refine (List.filter_eq_self.mpr fun z hz => ?_).symm
    have nz : ¬ z = y := fun e => h1 (by rw [← e]; exact hz)
    simp [nz]
  | y :: r, j + 1, hn, h => by
    obtain ⟨h1, h2⟩ := List.nodup_cons.mp hn
    have h' : r[j]? = some c := h
    have ne : y ≠ c := fun e => h1 (by rw [e]; exact List.mem_of_getElem? h')
    rw [List.eraseIdx_cons_succ, List.filter_cons_of_pos (by simp [ne]), erase_filter h2 h']
theorem first_at {c : Int} : ∀ {l : List Int}, c ∈ l → ∃ j : Nat, l[j]? = some c ∧ ∀ m : Nat, m < j → l[m]? ≠ some c
  | [], h => absurd h (by simp)
  | y :: r, h => by
    by_cases e : y = c
    · exact ⟨0, by rw [e]; rfl, fun m hm => absurd hm (Nat.not_lt_zero _)⟩
    · have h' : c ∈ r := (List.mem_cons.mp h).resolve_left (fun z => e z.symm)
      obtain ⟨j, h1, h2⟩ := first_at h'
      refine ⟨j + 1, h1, fun m hm => ?_⟩
      cases m with
      | zero => exact fun z => e (Option.some.inj z)
      | succ m => exact h2 m (Nat.lt_of_succ_lt_succ hm)
section
variable {P : Program} {w : World} {K : PySem.W.Frag} {mg : Str → Option Value} {base : Heap}
def spStepRight (K : PySem.W.Frag) : Sp := fun vs H Q _ => ∃ (v u : V) (A : LsA) (B : Hp) (S : Sto) (st : Sta) (t : Stp) (L : Ls), vs = [v, .ref A.ds, u] ∧ Same B H ∧ Dp K B v S.d ∧ Dp K B u t.d ∧ A.Out B ∧ LsAt H A L ∧ StoOk S ∧ StaOk S st ∧ Lk S st L ∧ StpOk S.wishes.length t ∧ bar S st t = none ∧
  ∀ H' L', A.Fr H H' → LsAt H' A L' → Lk S (behindS S st t) L' → Q (.bl true) H'
/-! _law_is_step_right: 0 _law_store_here, 1 _law_s, 2 _law_step, 3 _law_shelf, 4 _law_good -/
abbrev s__law_is_step_right : Stmt := topS 39
abbrev N__law_is_step_right : List Str := ["_law_store_here", "_law_s", "_law_step", "_law_shelf", "_law_good"]
theorem sc__law_is_step_right : FnScope N__law_is_step_right ["_law_store_here", "_law_s", "_law_step"] (defScope s__law_is_step_right) := ⟨rfl, rfl, rfl, by decide +kernel, rfl, by decide +kernel, by decide +kernel⟩
theorem ok__law_is_step_right {f f1 : Addr} {fd fd1 : FuncData} (D : Dfs K mg "_law_is_step_right" s__law_is_step_right ["_law_store_here", "_law_s", "_law_step"] f fd) (T : Tx K mg) (C__law_is_wish_right : Cal P w K mg base 1 "_law_is_wish_right" ["_law_store_here", "_law_s", "_law_number"] (spWishRight K) f1 fd1) :
    Cal P w K mg base 2 "_law_is_step_right" ["_law_store_here", "_law_s", "_law_step"] (spStepRight K) f fd := by
  refine D.cal (D.F.ok sc__law_is_step_right (fun vs H Q E h => ?_) (fun cdv Ar outer s H vs Q E hr h => ?_))
  · obtain ⟨v, u, A, B, S, st, t, L, rfl, _⟩ := h
    rfl
  · obtain ⟨v, u, A, B, S, st, t, L, rfl, sB, hv, hu, out, hL, ok, sk, lk, ht, hb, q⟩ := h
    obtain ⟨a, l, m, xs, ys, rfl, so⟩ := sto_at hv
    have sk' := StaOk.step ok sk ht hb
    have hld : L.done.length ≤ 5 := by
      have e1 := (sortI_perm L.done).length_eq
      have e2 := sk.done.len
      have e3 := ok.w5
      rw [lk.done] at e1
      omega
    have hli : L.ins.length ≤ 2 := by
      have e1 := (sortI_perm L.ins).length_eq
      rw [lk.ins] at e1
      rcases sk.inside with i | i | i | i <;> rw [i] at e1 <;> simp at e1 <;> omega
    refine ⟨_, (C8.pss_cut (ps_dput (hu_of hr) (pv 1) pe_str (pe_op op_add (pe_dget (hu_of hr) (pv 1) pe_str (fun _ _ => rfl)) pe_int) rfl)
      (pss_cons (ps_if (pt_cmpR op_eq (pe_ix (kix_tup (K := K)) (pv 2) pe_int (fun _ _ => rfl)) pe_str (nomark _)) (pss_cons (ps_set (i := 3) sc__law_is_step_right.nd rfl (Or.inl rfl) (pe_op op_sub (pe_dget (hu_of hr) (pv 1) pe_str (fun _ _ => rfl)) (pe_callTy call_int1 (by rfl) T.n_int (by decide +kernel) (pa_cons (pe_cmpR op_lt (pe_ix (kix_tup (K := K)) (pv 2) pe_int (fun _ _ => rfl)) pe_int (nomark _)) pa_nil))))
      (pss_cons (ps_dput (hu_of hr) (pv 1) pe_str (pe_op op_add (pe_dget (hu_of hr) (pv 1) pe_str (fun _ _ => rfl)) (pe_ix (kix_tup (K := K)) (pv 2) pe_int (fun _ _ => rfl))) rfl)
      (C8.pss_cut (ps_set (i := 4) sc__law_is_step_right.nd rfl (Or.inl rfl) (pe_and (pe_cmpR (keqD (K := K) hr.units) (pe_dget (hu_of hr) (pv 1) pe_str (fun _ _ => rfl)) (pe_lst pa_nil) (nomark _)) (pe_and (pe_cmpR op_gt (pe_dget (hu_of hr) (pv 1) pe_str (fun _ _ => rfl)) (pe_dget (hu_of hr) (pv 1) pe_str (fun _ _ => rfl)) (nomark _)) (pe_one (pe_chain op_le op_lt pe_int (pv 3) (pe_callB (klen (K := K)) (by rfl) T.n_len (by decide +kernel) (pa_cons (pe_ix (kix_tup (K := K)) (pv 0) pe_int (fun _ _ => rfl)) pa_nil)))))))
      (pss_one (ps_ret (pe_and (pv 4) (pe_one (pe_cmpR op_eq (pe_ix (kix_tup (K := K)) (pe_ix (kix_list (K := K)) (pe_ix (kix_tup (K := K)) (pv 0) pe_int (fun _ _ => rfl)) (pv 3) (fun _ _ => rfl)) pe_int (fun _ _ => rfl)) pe_int (nomark _))))))))) pss_nil)
      (pss_cons (ps_if (pt_cmpR op_eq (pe_ix (kix_tup (K := K)) (pv 2) pe_int (fun _ _ => rfl)) pe_str (nomark _)) (pss_cons (ps_expr (pe_bm PySem.F.plainAttrs_list PySem.F.slot_list_append PySem.F.type_list_append mt_append (pe_dget (hu_of hr) (pv 1) pe_str (fun _ _ => rfl)) (pa_cons (pe_ix (kix_tup (K := K)) (pv 2) pe_int (fun _ _ => rfl)) pa_nil)))
      (pss_one (ps_ret (pe_cmpR op_eq (pe_bm PySem.F.plainAttrs_list PySem.F.slot_list_count PySem.F.type_list_count (klcount (K := K)) (pe_dget (hu_of hr) (pv 1) pe_str (fun _ _ => rfl)) (pa_cons (pe_ix (kix_tup (K := K)) (pv 2) pe_int (fun _ _ => rfl)) pa_nil)) pe_int (nomark _))))) pss_nil)
      (pss_cons (ps_if (pt_cmpR op_eq (pe_ix (kix_tup (K := K)) (pv 2) pe_int (fun _ _ => rfl)) pe_str (nomark _)) (pss_cons (ps_if (pt_cmpR (knotIn_seq (K := K)) (pe_ix (kix_tup (K := K)) (pv 2) pe_int (fun _ _ => rfl)) (pe_dget (hu_of hr) (pv 1) pe_str (fun _ _ => rfl)) (by rfl)) (pss_one (ps_ret pe_bl)) pss_nil)
      (pss_one (ps_expr (pe_bm PySem.F.plainAttrs_list PySem.F.slot_list_remove PySem.F.type_list_remove mt_remove (pe_dget (hu_of hr) (pv 1) pe_str (fun _ _ => rfl)) (pa_cons (pe_ix (kix_tup (K := K)) (pv 2) pe_int (fun _ _ => rfl)) pa_nil))))) pss_nil)
      (pss_cons (ps_if (pt_cmpR op_eq (pe_ix (kix_tup (K := K)) (pv 2) pe_int (fun _ _ => rfl)) pe_str (nomark _)) (pss_one (ps_ret (pe_call C__law_is_wish_right.G (hr.mono (by decide)) (by rfl) C__law_is_wish_right.g C__law_is_wish_right.kp C__law_is_wish_right.b .nil pass0 (pa_cons (pv 0) (pa_cons (pv 1) (pa_cons (pe_ix (kix_tup (K := K)) (pv 2) pe_int (fun _ _ => rfl)) pa_nil)))))) pss_nil)
      (pss_one (ps_ret pe_bl))))))), ?_⟩
    refine ⟨fun σ H' => A.Fr H H' ∧ LsAt H' A { L with now := L.now + 1 } ∧ σ = [some (.ref a), some (.ref A.ds), some u, none, none], ?_, ?_⟩
    · obtain ⟨H1, dp, hL1, f1⟩ := hL.putNow (L.now + 1)
      exact ⟨_, rfl, A.ds, _, rfl, hL.gN, _, _, rfl, rfl, _, rfl, A.ds, H1, rfl, dp, f1, hL1, rfl⟩
    rintro σ H1 ⟨f1, hL1, rfl⟩
    have sB1 := f1.same sB out
    have hu1 := dp_mono sB1 hu
    have so1 := so.mono sB1
    cases t with
    | wait =>
      obtain ⟨c, rfl, hc⟩ := dp_one hu1
      refine ⟨_, rfl, c, _, 0, .str "wait", rfl, rfl, hc, rfl, rfl, _, rfl, itF (sne (by decide +kernel)) ?_⟩
      refine ⟨_, rfl, c, _, 0, .str "wait", rfl, rfl, hc, rfl, rfl, _, rfl, itF (sne (by decide +kernel)) ?_⟩
      refine ⟨_, rfl, c, _, 0, .str "wait", rfl, rfl, hc, rfl, rfl, _, rfl, itF (sne (by decide +kernel)) ?_⟩
      refine ⟨_, rfl, c, _, 0, .str "wait", rfl, rfl, hc, rfl, rfl, _, rfl, itF (sne (by decide +kernel)) ?_⟩
      refine q H1 _ f1 hL1 ⟨lk.a, lk.ins, lk.nd, lk.done, lk.goods, ?_⟩
      have := lk.kept
      show max 0 (L.opn - (L.now + 1)) = max (st.kept - 1) 0
      omega
    | shift b =>
      obtain ⟨c, rfl, hc⟩ := dp_two hu1
      obtain ⟨c1, c2, ⟨x, hx, hst⟩, c4, c5⟩ := barShift_none hb
      refine ⟨_, rfl, c, _, 0, .str "shift", rfl, rfl, hc, rfl, rfl, _, rfl, itD rfl ?_⟩
      have eins : L.ins = [] := by
        have e1 := (sortI_perm L.ins).length_eq
        rw [lk.ins, c4] at e1
        exact List.eq_nil_of_length_eq_zero e1.symm
      have esh : L.a - (if decide (b < 0) = true then 1 else 0) = if b = 1 then st.aisle else st.aisle - 1 := by
        rw [lk.a]
        rcases ht with e | e
        · rw [e, if_pos (decide_eq_true (by decide)), if_neg (by decide)]
        · rw [e, if_neg (fun h => absurd (of_decide_eq_true h) (by decide)), if_pos rfl, Int.sub_zero]
      rw [← esh] at c1 c2 hx
      -- shelf = aisle - int(step[1] < 0)
      refine ⟨_, rfl, A.ds, _, rfl, hL1.gA, _, rfl, c, _, 1, .int b, rfl, rfl, hc, rfl, _, _, rfl, rfl, .inr ⟨_, rfl, _, _, rfl, rfl, ?_⟩⟩
      -- aisle = aisle + step[1]
      obtain ⟨H2, dp, hL2, f2⟩ := hL1.putAisle (L.a + b)
      refine ⟨_, rfl, A.ds, _, rfl, hL1.gA, _, rfl, c, _, 1, .int b, rfl, rfl, hc, rfl, _, _, rfl, rfl, _, rfl, A.ds, H2, rfl, dp, ?_⟩
      have f12 := f1.trans f2
      have sB2 := f12.same sB out
      have so2 := so.mono sB2
      have lx := so.lx
      refine ⟨fun σ H' => A.Fr H H' ∧ LsAt H' A { L with a := L.a + b, now := L.now + 1 } ∧ σ = [some (.ref a), some (.ref A.ds), some (.ref c), some (.int (L.a - (if decide (b < 0) = true then 1 else 0))), some (.bl true)], ?_, ?_⟩
      · refine ⟨_, rfl, A.ds, _, rfl, hL2.gI, small (by simp), fun p0 np0 => ?_⟩
        have s3 := same_new (o := .lst []) np0
        have hL3 := hL2.mono s3
        have so3 := so2.mono s3
        refine ⟨.list (dints L.ins), .list [], .lst (SqL.of hL3.i) (ints_dps _), .lst lst_new .nil, (Lays.lst (n := 1) (lays_ints _)).shaped, lay_nilL.shaped, _, rfl, itB (by rw [eqv_nilL, eins]; rfl) ?_⟩
        refine ⟨_, rfl, A.ds, _, rfl, hL3.gN, _, rfl, A.ds, _, rfl, hL3.gO, _, _, rfl, rfl, _, rfl, itD (by have := lk.kept; show L.opn < L.now + 1; omega) ?_⟩
        refine ⟨_, rfl, _, _, rfl, rfl, _, rfl, itD c1 ⟨_, rfl, a, _, 0, .ref l, rfl, rfl, so3.t, rfl, l, xs, rfl, .inl so3.l, _, _, rfl, rfl, ?_⟩⟩
        refine ⟨f12.trans (LsA.Fr.of s3), hL3, ?_⟩
        have e : decide (L.a - (if decide (b < 0) = true then 1 else 0) < (xs.length : Int)) = true := decide_eq_true (by rw [lx]; exact c2)
        show List.set _ 4 (some (V.bl (decide (L.a - (if decide (b < 0) = true then 1 else 0) < (xs.length : Int))))) = _
        rw [e]
        rfl
      rintro σ H3 ⟨f3, hL3, rfl⟩
      have so3 := so.mono (f3.same sB out)
      obtain ⟨g, hg, hgT⟩ := shelf_get so3.dx hx
      refine ⟨_, rfl, true, rfl, iteT ⟨_, rfl, a, _, 0, .ref l, rfl, rfl, so3.t, rfl, _, rfl, l, xs, _, .ref g, rfl, rfl, so3.l, at_of (j := (L.a - (if decide (b < 0) = true then 1 else 0)).toNat) (by omega) hg, g, _, 2, .int x.sticks, rfl, rfl, hgT, rfl, rfl, ?_⟩⟩
      have e0 : x.sticks = 0 := (ok.sh x (List.mem_of_getElem? hx)).st.resolve_right hst
      show Q (.bl (decide (V.int x.sticks = V.int 0))) H3
      rw [e0, decide_eq_true rfl]
      refine q H3 _ f3 hL3 ⟨?_, lk.ins, lk.nd, lk.done, lk.goods, ?_⟩
      · show L.a + b = st.aisle + b
        rw [lk.a]
      · have := lk.kept
        show max 0 (L.opn - (L.now + 1)) = max (st.kept - 1) 0
        omega
    | cin e =>
      obtain ⟨c, rfl, hc⟩ := dp_two hu1
      have hno : e ∉ st.inside := fun z => by
        have hb' : (if e ∈ st.inside then some (("is" : Str), e) else none) = none := hb
        rw [if_pos z] at hb'
        cases hb'
      have hnL : e ∉ L.ins := fun z => hno (by rw [← lk.ins]; exact mem_sortI.mpr z)
      refine ⟨_, rfl, c, _, 0, .str "in", rfl, rfl, hc, rfl, rfl, _, rfl, itF (sne (by decide +kernel)) ?_⟩
      refine ⟨_, rfl, c, _, 0, .str "in", rfl, rfl, hc, rfl, rfl, _, rfl, itD rfl ?_⟩
      have q2 := hL1.putI (L.ins ++ [e])
      rw [List.map_append] at q2
      refine ⟨_, rfl, A.ds, _, rfl, hL1.gI, .inl ⟨rfl, _, SqL.of hL1.i⟩, _, rfl, c, _, 1, .int e, rfl, rfl, hc, rfl, A.li, _, _, rfl, rfl, hL1.i, small1000 (by rw [List.length_map]; show L.ins.length ≤ 1000; omega), ?_⟩
      have f12 := f1.trans q2.2
      have hc2 := Same.t (LsA.Fr.same q2.2 sB1 out) (by
        obtain ⟨c', e', h'⟩ := dp_two hu
        cases e'
        exact h')
      refine ⟨_, rfl, A.ds, _, rfl, q2.1.gI, .inl ⟨rfl, _, SqL.of q2.1.i⟩, _, rfl, c, _, 1, .int e, rfl, rfl, hc2, rfl, A.li, _, _, rfl, rfl, SqL.of q2.1.i, rfl, ?_⟩
      have ecount : (L.ins ++ [e]).count e = 1 := by
        rw [List.count_append, List.count_eq_zero.mpr hnL, List.count_singleton_self]
      show Q (.bl (decide (V.int (((L.ins ++ [e]).count e : Nat) : Int) = V.int 1))) _
      rw [ecount]
      show Q (.bl true) _
      refine q _ _ f12 q2.1 ⟨lk.a, ?_, ?_, lk.done, lk.goods, ?_⟩
      · show sortI (L.ins ++ [e]) = sortI (st.inside ++ [e])
        rw [← lk.ins]
        exact sortI_congr ((sortI_perm L.ins).symm.append_right [e])
      · show (L.ins ++ [e]).Nodup
        exact List.nodup_append.mpr ⟨lk.nd, by simp, fun x hx y hy => by
          rw [List.mem_singleton] at hy
          rw [hy]
          exact fun z => hnL (by rw [← z]; exact hx)⟩
      · have := lk.kept
        show max 0 (L.opn - (L.now + 1)) = max (st.kept - 1) 0
        omega
    | cout e =>
      obtain ⟨c, rfl, hc⟩ := dp_two hu1
      have hin : e ∈ st.inside := by
        have hb' : (if e ∈ st.inside then none else some (("isnt" : Str), e)) = none := hb
        by_cases z : e ∈ st.inside
        · exact z
        · rw [if_neg z] at hb'
          cases hb'
      have hinL : e ∈ L.ins := by
        rw [← lk.ins] at hin
        exact mem_sortI.mp hin
      obtain ⟨j, hj, hj1⟩ := first_at hinL
      refine ⟨_, rfl, c, _, 0, .str "out", rfl, rfl, hc, rfl, rfl, _, rfl, itF (sne (by decide +kernel)) ?_⟩
      refine ⟨_, rfl, c, _, 0, .str "out", rfl, rfl, hc, rfl, rfl, _, rfl, itF (sne (by decide +kernel)) ?_⟩
      refine ⟨_, rfl, c, _, 0, .str "out", rfl, rfl, hc, rfl, rfl, _, rfl, itD rfl ?_⟩
      refine ⟨_, rfl, c, _, 1, .int e, rfl, rfl, hc, rfl, _, rfl, A.ds, _, rfl, hL1.gI, A.li, _, rfl, .inl (SqL.of hL1.i), rfl, flat_ints _, _, rfl, ni_n hinL ?_⟩
      have q2 := hL1.putI (L.ins.eraseIdx j)
      refine ⟨_, rfl, A.ds, _, rfl, hL1.gI, .inl ⟨rfl, _, SqL.of hL1.i⟩, _, rfl, c, _, 1, .int e, rfl, rfl, hc, rfl, A.li, L.ins, e, j, rfl, rfl, hL1.i, hj, hj1, ?_⟩
      have f12 := f1.trans q2.2
      have hc2 := Same.t (LsA.Fr.same q2.2 sB1 out) (by
        obtain ⟨c', e', h'⟩ := dp_two hu
        cases e'
        exact h')
      refine ⟨_, rfl, c, _, 0, .str "out", rfl, rfl, hc2, rfl, rfl, _, rfl, itF (sne (by decide +kernel)) ?_⟩
      have ee := erase_filter lk.nd hj
      refine q _ _ f12 q2.1 ⟨lk.a, ?_, ?_, lk.done, lk.goods, ?_⟩
      · show sortI (L.ins.eraseIdx j) = st.inside.filter fun z => decide (z ≠ e)
        rw [ee, sort_filter, lk.ins]
      · show (L.ins.eraseIdx j).Nodup
        rw [ee]
        exact lk.nd.filter _
      · have := lk.kept
        show max 0 (L.opn - (L.now + 1)) = max (st.kept - 1) 0
        omega
    | wish n =>
      obtain ⟨c, rfl, hc⟩ := dp_two hu1
      obtain ⟨x, hx, hm⟩ := wish_at_k ht.1 ht.2
      have okx := ok.ws x hm
      obtain ⟨e1, e2, e3, e4, e5⟩ := barWish_none hx hb
      have s0 := okx.s0
      have s1 := okx.s1
      have hgr : ∀ k : Nat, k < S.shelves.length → L.goods[k]? = some (goods S st.done (k : Int)) := fun k hk => by
        rw [lk.goods, List.getElem?_map, List.getElem?_range hk]
        rfl
      have hg := hgr x.shelf.toNat (by omega)
      have eto : ((x.shelf.toNat : Nat) : Int) = x.shelf := by omega
      rw [eto] at hg
      have edl : delta S x.shelf n = dlt x := by
        rw [delta_eq hx, if_pos rfl]
        rfl
      have hb2 := sk'.has x.shelf s0 s1
      have eg2 : goods S (behindS S st (.wish n)).done x.shelf = goods S st.done x.shelf + dlt x := by
        rw [← edl]
        exact goods_step
      rw [eg2] at hb2
      refine ⟨_, rfl, c, _, 0, .str "do", rfl, rfl, hc, rfl, rfl, _, rfl, itF (sne (by decide +kernel)) ?_⟩
      refine ⟨_, rfl, c, _, 0, .str "do", rfl, rfl, hc, rfl, rfl, _, rfl, itF (sne (by decide +kernel)) ?_⟩
      refine ⟨_, rfl, c, _, 0, .str "do", rfl, rfl, hc, rfl, rfl, _, rfl, itF (sne (by decide +kernel)) ?_⟩
      refine ⟨_, rfl, c, _, 0, .str "do", rfl, rfl, hc, rfl, rfl, _, rfl, itD rfl ?_⟩
      have md : ∀ z, z ∈ L.done ↔ z ∈ st.done := fun z => by
        rw [← lk.done]
        exact mem_sortI.symm
      refine ⟨_, rfl, _, rfl, _, rfl, c, _, 1, .int n, rfl, rfl, hc, rfl, .ref a, A, B, S, n, _, x, _, rfl, sB1, hv, out, hL1, ok, hx, ht.1, fun z => e1 ((md n).mp z), fun z hz => (md z).mpr (e2 z hz), ?_, ?_, hg, hb2.1, hb2.2, ?_, fun H3 f3 hL3 => ?_⟩
      · show x.crew ∈ L.ins
        rw [← lk.ins] at e3
        exact mem_sortI.mp e3
      · show beside L.a x.shelf x.side = true
        rw [lk.a]
        exact e4
      · show L.done.length ≤ 50
        omega
      · refine q H3 _ (f1.trans f3) hL3 ⟨lk.a, lk.ins, lk.nd, ?_, ?_, ?_⟩
        · show sortI (L.done ++ [n]) = sortI (st.done ++ [n])
          rw [← lk.done]
          exact sortI_congr ((sortI_perm L.done).symm.append_right [n])
        · show L.goods.set x.shelf.toNat (goods S st.done x.shelf + dlt x) = (List.range S.shelves.length).map fun (k : Nat) => goods S (sortI (st.done ++ [n])) (k : Int)
          refine List.ext_getElem? fun k => ?_
          by_cases hk : k < S.shelves.length
          · rw [List.getElem?_map, List.getElem?_range hk]
            by_cases ek : x.shelf.toNat = k
            · have hlt : x.shelf.toNat < L.goods.length := (List.getElem?_eq_some_iff.mp hg).1
              rw [← ek, List.getElem?_set_self hlt]
              show some _ = some (goods S (sortI (st.done ++ [n])) ((x.shelf.toNat : Nat) : Int))
              rw [eto, goods_step, edl]
            · rw [List.getElem?_set_ne ek, hgr k hk]
              show some _ = some (goods S (sortI (st.done ++ [n])) (k : Int))
              have ed0 : delta S (k : Int) n = 0 := by
                rw [delta_eq hx, if_neg (by omega)]
              rw [goods_step, ed0, Int.add_zero]
          · have h1 : (L.goods.set x.shelf.toNat (goods S st.done x.shelf + dlt x)).length = S.shelves.length := by
              rw [List.length_set, lk.goods, List.length_map, List.length_range]
            rw [List.getElem?_eq_none (by omega), List.getElem?_eq_none (by rw [List.length_map, List.length_range]; omega)]
        · have := lk.kept
          have ek : keepAt S n = x.keep := by
            unfold keepAt
            rw [hx]
          have := okx.k0
          show max 0 (max L.opn (L.now + 1 + x.keep) - (L.now + 1)) = max (max (st.kept - 1) 0) (keepAt S n)
          omega
end

/-! ### the memory of the law: the row, the book-keeping, the plan, the states; B: what stands besides -/
def addT (B H : Hp) : Hp := fun b => match B b with
  | some o => some o
  | none => match H b with
    | some (.tup xs) => some (.tup xs)
    | some (.frz o u) => some (.frz o u)
    | _ => none
section
variable {K : PySem.W.Frag} {B H : Hp} {a : Addr}
theorem addT_some {o : HO} (h : B a = some o) : addT B H a = some o := by
  unfold addT
  rw [h]
theorem addT_tup {xs : List V} (h : B a = none) (e : H a = some (.tup xs)) : addT B H a = some (.tup xs) := by
  unfold addT
  rw [h, e]
theorem addT_frz {o : Obj} {u : HO} (h : B a = none) (e : H a = some (.frz o u)) : addT B H a = some (.frz o u) := by
  unfold addT
  rw [h, e]
theorem addT_lst {xs : List V} (h : B a = none) (e : H a = some (.lst xs)) : addT B H a = none := by
  unfold addT
  rw [h, e]
theorem addT_dK {kvs : List (L2.Key × V)} (h : B a = none) (e : H a = some (.dK kvs)) : addT B H a = none := by
  unfold addT
  rw [h, e]
theorem same_addT : Same B (addT B H) := fun _ _ h => addT_some h
theorem addT_same (s : Same B H) : Same (addT B H) H := fun b o h => by
  cases e : B b with
  | some u =>
    rw [addT_some e] at h
    rw [← h]
    exact s b u e
  | none =>
    cases e2 : H b with
    | none =>
      unfold addT at h
      rw [e, e2] at h
      cases h
    | some u =>
      cases u with
      | tup xs =>
        rw [addT_tup e e2] at h
        exact h
      | frz o' u' =>
        rw [addT_frz e e2] at h
        exact h
      | _ =>
        unfold addT at h
        rw [e, e2] at h
        cases h
theorem sqt_addT {xs : List V} (s : Same B H) (h : SqT K H a xs) : SqT K (addT B H) a xs := by
  rcases h with (h | ⟨o, h⟩) | h
  · refine .inl (.inl ?_)
    cases e : B a with
    | some u =>
      have := s a u e
      rw [h] at this
      rw [addT_some e, ← this]
    | none => exact addT_tup e h
  · refine .inl (.inr ⟨o, ?_⟩)
    cases e : B a with
    | some u =>
      have := s a u e
      rw [h] at this
      rw [addT_some e, ← this]
    | none => exact addT_frz e h
  · exact .inr h
end
mutual
theorem dp_addT {K : PySem.W.Frag} {B H : Hp} (s : Same B H) : ∀ {v : V} {d : PyData}, Dp K H v d → noL d = true → Dp K (addT B H) v d
  | _, _, .non, _ => .non
  | _, _, .bl b, _ => .bl b
  | _, _, .int i, _ => .int i
  | _, _, .str x, _ => .str x
  | _, _, .lst _ _, h => absurd h (by unfold noL; decide)
  | _, _, .tup h g, q => .tup (sqt_addT s h) (dps_addT s g (by unfold noL at q; exact q))
theorem dps_addT {K : PySem.W.Frag} {B H : Hp} (s : Same B H) : ∀ {vs : List V} {ds : List PyData}, DpAll K H vs ds → noLs ds = true → DpAll K (addT B H) vs ds
  | _, _, .nil, _ => .nil
  | _, _, .cons h g, q => by
    unfold noLs at q
    obtain ⟨q1, q2⟩ := Bool.and_eq_true_iff.mp q
    exact .cons (dp_addT s h q1) (dps_addT s g q2)
end
theorem noL_stp (t : Stp) : noL t.d = true := by cases t <;> rfl
theorem noL_steps (l : List Stp) : noLs (dsteps l) = true := by
  induction l with
  | nil => rfl
  | cons i l ih =>
    show (noL i.d && noLs (dsteps l)) = true
    rw [ih, noL_stp]
    rfl
structure Mem where
  A : LsA
  pl : Addr
  sl : Addr
structure MemAt (K : PySem.W.Frag) (ρ : RowP) (M : Mem) (B H : Hp) (L : Ls) (xs zs : List V) : Prop where
  R : RowSt K ρ B H
  out : M.A.Out B
  bp : B M.pl = none
  bs : B M.sl = none
  L : LsAt H M.A L
  p : H M.pl = some (.lst xs)
  s : H M.sl = some (.lst zs)
  r1 : ρ.r ≠ M.A.li
  r2 : ρ.r ≠ M.A.ld
  r3 : ρ.r ≠ M.A.lg
  r4 : ρ.r ≠ M.pl
  r5 : ρ.r ≠ M.sl
  p1 : M.pl ≠ M.A.li
  p2 : M.pl ≠ M.A.ld
  p3 : M.pl ≠ M.A.lg
  s1 : M.sl ≠ M.A.li
  s2 : M.sl ≠ M.A.ld
  s3 : M.sl ≠ M.A.lg
  ps : M.pl ≠ M.sl
section
variable {K : PySem.W.Frag} {ρ : RowP} {M : Mem} {B H H' : Hp} {L L' : Ls} {xs zs : List V}
theorem MemAt.dsne (m : MemAt K ρ M B H L xs zs) : M.A.ds ≠ ρ.r ∧ M.A.ds ≠ M.pl ∧ M.A.ds ≠ M.sl := by
  obtain ⟨kvs, e, _⟩ := m.L.d
  obtain ⟨n1, n2, er, _⟩ := m.R.row
  refine ⟨fun z => ?_, fun z => ?_, fun z => ?_⟩
  · rw [z, er] at e
    cases e
  · rw [z, m.p] at e
    cases e
  · rw [z, m.s] at e
    cases e
theorem MemAt.call (m : MemAt K ρ M B H L xs zs) : RowSt K ρ (del1 H ρ.r) H := (row_all m.R (Same.refl _)).1
theorem MemAt.pure (m : MemAt K ρ M B H L xs zs) (s : Same H H') : MemAt K ρ M B H' L xs zs :=
  ⟨m.R.pure s, m.out, m.bp, m.bs, m.L.mono s, s _ _ m.p, s _ _ m.s, m.r1, m.r2, m.r3, m.r4, m.r5, m.p1, m.p2, m.p3, m.s1, m.s2, m.s3, m.ps⟩
theorem MemAt.drawn (m : MemAt K ρ M B H L xs zs) (R' : RowSt K ρ (del1 H ρ.r) H') : MemAt K ρ M B H' L xs zs := by
  have k : ∀ b o, b ≠ ρ.r → H b = some o → H' b = some o := fun b o n e => R'.same b o (by rw [del1_ne n]; exact e)
  obtain ⟨z1, z2, z3⟩ := m.dsne
  obtain ⟨kvs, e, r⟩ := m.L.d
  refine ⟨R'.less (row_all m.R (Same.refl _)).2 m.R.scr, m.out, m.bp, m.bs, ⟨⟨kvs, k _ _ z1 e, r⟩, k _ _ (Ne.symm m.r1) m.L.i, k _ _ (Ne.symm m.r2) m.L.dn, k _ _ (Ne.symm m.r3) m.L.g, m.L.n1, m.L.n2, m.L.n3⟩, k _ _ (Ne.symm m.r4) m.p, k _ _ (Ne.symm m.r5) m.s, m.r1, m.r2, m.r3, m.r4, m.r5, m.p1, m.p2, m.p3, m.s1, m.s2, m.s3, m.ps⟩
theorem MemAt.tups (m : MemAt K ρ M B H L xs zs) : MemAt K ρ M (addT B H) H L xs zs := by
  obtain ⟨n1, n2, er, g⟩ := m.R.row
  obtain ⟨kvs, e, r⟩ := m.L.d
  exact ⟨⟨addT_same m.R.same, addT_lst m.R.free er, Same.l same_addT m.R.scr, n1, n2, er, g⟩, ⟨addT_dK m.out.ds e, addT_lst m.out.li m.L.i, addT_lst m.out.ld m.L.dn, addT_lst m.out.lg m.L.g⟩, addT_lst m.bp m.p, addT_lst m.bs m.s, m.L, m.p, m.s, m.r1, m.r2, m.r3, m.r4, m.r5, m.p1, m.p2, m.p3, m.s1, m.s2, m.s3, m.ps⟩
theorem MemAt.stepped (m : MemAt K ρ M B H L xs zs) (f : M.A.Fr H H') (hL : LsAt H' M.A L') : MemAt K ρ M B H' L' xs zs := by
  obtain ⟨z1, z2, z3⟩ := m.dsne
  obtain ⟨n1, n2, er, g⟩ := m.R.row
  exact ⟨⟨f.same m.R.same m.out, m.R.free, m.R.scr, n1, n2, f _ _ er (Ne.symm z1) m.r1 m.r2 m.r3, g⟩, m.out, m.bp, m.bs, hL, f _ _ m.p (Ne.symm z2) m.p1 m.p2 m.p3, f _ _ m.s (Ne.symm z3) m.s1 m.s2 m.s3, m.r1, m.r2, m.r3, m.r4, m.r5, m.p1, m.p2, m.p3, m.s1, m.s2, m.s3, m.ps⟩
theorem LsAt.other {A : LsA} {p : Addr} {o : HO} (h : LsAt H A L) (n0 : A.ds ≠ p) (n1 : p ≠ A.li) (n2 : p ≠ A.ld) (n3 : p ≠ A.lg) : LsAt (upd H p o) A L := by
  obtain ⟨kvs, e, r⟩ := h.d
  exact ⟨⟨kvs, by rw [upd_ne n0]; exact e, r⟩, by rw [upd_ne (Ne.symm n1)]; exact h.i, by rw [upd_ne (Ne.symm n2)]; exact h.dn, by rw [upd_ne (Ne.symm n3)]; exact h.g, h.n1, h.n2, h.n3⟩
theorem MemAt.planned (m : MemAt K ρ M B H L xs zs) (us : List V) : MemAt K ρ M B (upd H M.pl (.lst us)) L us zs := by
  obtain ⟨z1, z2, z3⟩ := m.dsne
  exact ⟨m.R.put m.r4 m.bp, m.out, m.bp, m.bs, m.L.other z2 m.p1 m.p2 m.p3, upd_same, by rw [upd_ne (Ne.symm m.ps)]; exact m.s, m.r1, m.r2, m.r3, m.r4, m.r5, m.p1, m.p2, m.p3, m.s1, m.s2, m.s3, m.ps⟩
theorem MemAt.stated (m : MemAt K ρ M B H L xs zs) (us : List V) : MemAt K ρ M B (upd H M.sl (.lst us)) L xs us := by
  obtain ⟨z1, z2, z3⟩ := m.dsne
  exact ⟨m.R.put m.r5 m.bs, m.out, m.bp, m.bs, m.L.other z3 m.s1 m.s2 m.s3, by rw [upd_ne m.ps]; exact m.p, upd_same, m.r1, m.r2, m.r3, m.r4, m.r5, m.p1, m.p2, m.p3, m.s1, m.s2, m.s3, m.ps⟩
end
theorem dps_snoc_inv {K : PySem.W.Frag} {H : Hp} {d : PyData} : ∀ {ds : List PyData} {vs : List V}, DpAll K H vs (ds ++ [d]) → ∃ us v, vs = us ++ [v] ∧ DpAll K H us ds ∧ Dp K H v d
  | [], vs, h => by
    obtain ⟨x, r, rfl, hx, hr⟩ := dps_cons h
    obtain rfl := dps_nil hr
    exact ⟨[], x, rfl, .nil, hx⟩
  | e :: ds, vs, h => by
    obtain ⟨x, r, rfl, hx, hr⟩ := dps_cons h
    obtain ⟨us, v, rfl, h1, h2⟩ := dps_snoc_inv hr
    exact ⟨x :: us, v, rfl, .cons hx h1, h2⟩
theorem playS_last {S : Sto} : ∀ {s : Sta} {ts : List Stp}, ∃ l, playS S s ts = l ++ [runS S s ts]
  | s, [] => ⟨[], rfl⟩
  | s, t :: r => by
    obtain ⟨l, e⟩ := playS_last (S := S) (s := behindS S s t) (ts := r)
    refine ⟨s :: l, ?_⟩
    show s :: playS S (behindS S s t) r = s :: l ++ [runS S (behindS S s t) r]
    rw [e]
    rfl
theorem states_last {K : PySem.W.Frag} {H : Hp} {S : Sto} {s : Sta} {ts : List Stp} {zs : List V} (h : DpAll K H zs (dstates (playS S s ts))) : ∃ v, atI zs (-1) = some v ∧ Dp K H v (runS S s ts).d := by
  obtain ⟨l, e⟩ := playS_last (S := S) (s := s) (ts := ts)
  have e2 : dstates (playS S s ts) = dstates l ++ [(runS S s ts).d] := by
    rw [e]
    exact List.map_append ..
  rw [e2] at h
  obtain ⟨us, v, rfl, _, hv⟩ := dps_snoc_inv h
  exact ⟨v, atI_last _ _, hv⟩
def Stp.word : Stp → Str
  | .wait => "wait"
  | .shift _ => "shift"
  | .cin _ => "in"
  | .cout _ => "out"
  | .wish _ => "do"
theorem step_word {K : PySem.W.Frag} {H : Hp} {v : V} {t : Stp} (h : Dp K H v t.d) : ∃ a r, v = .ref a ∧ SqT K H a (.str t.word :: r) := by
  cases t with
  | wait =>
    obtain ⟨a, e, h⟩ := dp_one h
    exact ⟨a, _, e, h⟩
  | _ =>
    obtain ⟨a, e, h⟩ := dp_two h
    exact ⟨a, _, e, h⟩
theorem get6 {a b c d e f : V} (j : L2.Key) : valV (mergeK [] [(Sum.inr ("aisle" : Str), a), (Sum.inr ("in" : Str), b), (Sum.inr ("done" : Str), c), (Sum.inr ("goods" : Str), d), (Sum.inr ("now" : Str), e), (Sum.inr ("open" : Str), f)]) j =
    if j = Sum.inr ("open" : Str) then some f else if j = Sum.inr ("now" : Str) then some e else if j = Sum.inr ("goods" : Str) then some d else if j = Sum.inr ("done" : Str) then some c else if j = Sum.inr ("in" : Str) then some b else if j = Sum.inr ("aisle" : Str) then some a else none := by
  show valV (putK (putK (putK (putK (putK (putK [] (Sum.inr ("aisle" : Str)) a) (Sum.inr ("in" : Str)) b) (Sum.inr ("done" : Str)) c) (Sum.inr ("goods" : Str)) d) (Sum.inr ("now" : Str)) e) (Sum.inr ("open" : Str)) f) j = _
  rw [valV_put, valV_put, valV_put, valV_put, valV_put, valV_put, valV_nil]
theorem k_id : ¬ (("in" : Str) = "done") := by decide +kernel
theorem k_ig : ¬ (("in" : Str) = "goods") := by decide +kernel
theorem k_dg : ¬ (("done" : Str) = "goods") := by decide +kernel
theorem putK_le {kvs : List (L2.Key × V)} {k : L2.Key} {v : V} : (putK kvs k v).length ≤ kvs.length + 1 := by
  unfold putK
  split
  · rw [List.length_map]
    exact Nat.le_succ _
  · rw [List.length_append]
    exact Nat.le_refl _
theorem ls_start {H : Hp} {A : LsA} {a : Int} {gs : List Int} (hd : H A.ds = some (.dK (mergeK [] [(Sum.inr ("aisle" : Str), .int a), (Sum.inr ("in" : Str), .ref A.li), (Sum.inr ("done" : Str), .ref A.ld), (Sum.inr ("goods" : Str), .ref A.lg), (Sum.inr ("now" : Str), .int 0), (Sum.inr ("open" : Str), .int 0)])))
    (hi : H A.li = some (.lst [])) (hdn : H A.ld = some (.lst [])) (hg : H A.lg = some (.lst (gs.map V.int))) (n1 : A.li ≠ A.ld) (n2 : A.li ≠ A.lg) (n3 : A.ld ≠ A.lg) : LsAt H A ⟨a, [], [], gs, 0, 0⟩ := by
  refine ⟨⟨_, hd, ?_, ?_, ?_, ?_, ?_, ?_, ?_⟩, hi, hdn, hg, n1, n2, n3⟩
  · show (putK (putK (putK (putK (putK (putK ([] : List (L2.Key × V)) (Sum.inr ("aisle" : Str)) _) (Sum.inr ("in" : Str)) _) (Sum.inr ("done" : Str)) _) (Sum.inr ("goods" : Str)) _) (Sum.inr ("now" : Str)) _) (Sum.inr ("open" : Str)) _).length ≤ 20
    refine Nat.le_trans putK_le (Nat.le_trans (Nat.succ_le_succ putK_le) (Nat.le_trans (Nat.succ_le_succ (Nat.succ_le_succ putK_le)) (Nat.le_trans (Nat.succ_le_succ (Nat.succ_le_succ (Nat.succ_le_succ putK_le))) (Nat.le_trans (Nat.succ_le_succ (Nat.succ_le_succ (Nat.succ_le_succ (Nat.succ_le_succ putK_le)))) (Nat.le_trans (Nat.succ_le_succ (Nat.succ_le_succ (Nat.succ_le_succ (Nat.succ_le_succ (Nat.succ_le_succ putK_le))))) (by decide))))))
  · rw [get6, if_neg (key_ne ka_io), if_neg (key_ne ka_in), if_neg (key_ne (fun z => kd_ia z.symm)), if_neg (key_ne (fun z => kc_ia z.symm)), if_neg (key_ne (fun z => kb_ia z.symm)), if_pos rfl]
  · rw [get6, if_neg (key_ne kb_io), if_neg (key_ne kb_in), if_neg (key_ne k_ig), if_neg (key_ne k_id), if_pos rfl]
  · rw [get6, if_neg (key_ne kc_io), if_neg (key_ne kc_in), if_neg (key_ne k_dg), if_pos rfl]
  · rw [get6, if_neg (key_ne kd_io), if_neg (key_ne kd_in), if_pos rfl]
  · rw [get6, if_neg (key_ne ke_io), if_pos rfl]
  · rw [get6, if_pos rfl]
def isMove : Stp → Bool
  | .shift _ => true
  | .wish _ => true
  | _ => false
theorem move_word (t : Stp) : inV (.str t.word) [.str "do", .str "shift"] = isMove t := by
  have e := inV_strs (x := t.word) (l := ["do", "shift"])
  have e' : inV (.str t.word) [.str "do", .str "shift"] = true ↔ t.word = "do" ∨ t.word = "shift" := by
    rw [List.mem_cons, List.mem_singleton] at e
    exact e
  have nw : ∀ {x : Str}, ¬ x = "do" → ¬ x = "shift" → ¬ (x = "do" ∨ x = "shift") := fun a b c => c.elim a b
  cases t with
  | wait => exact Bool.eq_false_iff.mpr (fun z => nw (by decide +kernel) (by decide +kernel) (e'.mp z))
  | shift b => exact e'.mpr (.inr rfl)
  | cin c => exact Bool.eq_false_iff.mpr (fun z => nw (show ¬ (("in" : Str) = "do") by decide +kernel) (show ¬ (("in" : Str) = "shift") by decide +kernel) (e'.mp z))
  | cout c => exact Bool.eq_false_iff.mpr (fun z => nw (show ¬ (("out" : Str) = "do") by decide +kernel) (show ¬ (("out" : Str) = "shift") by decide +kernel) (e'.mp z))
  | wish n => exact e'.mpr (.inl rfl)
theorem eqv_nilS (l : List Stp) : PyData.eqv (.list (dsteps l)) (.list []) = l.isEmpty := by
  cases l with
  | nil => rfl
  | cons i r => rfl
theorem wait_open {S : Sto} {s : Sta} : Stp.wait ∈ openSteps S s := by
  unfold openSteps
  exact List.mem_filter.mpr ⟨mem_allSteps trivial, rfl⟩
theorem open_bar {S : Sto} {s : Sta} {t : Stp} (h : t ∈ openSteps S s) : bar S s t = none ∧ StpOk S.wishes.length t := by
  obtain ⟨h1, h2⟩ := List.mem_filter.mp h
  exact ⟨Option.isNone_iff_eq_none.mp h2, allSteps_ok h1⟩
theorem open_len {S : Sto} {s : Sta} : (openSteps S s).length ≤ S.wishes.length + 7 := by
  unfold openSteps
  refine Nat.le_trans (List.length_filter_le _ _) ?_
  rw [allSteps_len]
  exact Nat.le_refl _

def spLaw (K : PySem.W.Frag) : Sp := fun vs H Q _ => ∃ (a : Addr) (ns : List Int), vs = [.ref a] ∧ SqL K H a (ns.map V.int) ∧ ns.length ≤ 63 ∧ ∀ H', Q (.bl true) H'
/-- where the loop stands -/
structure LawSt (K : PySem.W.Frag) (ρ : RowP) (M : Mem) (B3 B H : Hp) (S : Sto) (L : Ls) (xs zs : List V) (ts : List Stp) : Prop where
  b : Same B3 B
  m : MemAt K ρ M B H L xs zs
  dx : DpAll K B xs (dsteps ts)
  dz : DpAll K B zs (dstates (playS S (sta0 S) ts))
  ok : ∀ t ∈ ts, StpOk S.wishes.length t
  op : OpenPlan S (sta0 S) ts
  st : StaOk S (runS S (sta0 S) ts)
  lk : Lk S (runS S (sta0 S) ts) L
theorem LawSt.pure {K : PySem.W.Frag} {ρ : RowP} {M : Mem} {B3 B H H' : Hp} {S : Sto} {L : Ls} {xs zs : List V} {ts : List Stp} (h : LawSt K ρ M B3 B H S L xs zs ts) (s : Same H H') : LawSt K ρ M B3 B H' S L xs zs ts :=
  ⟨h.b, h.m.pure s, h.dx, h.dz, h.ok, h.op, h.st, h.lk⟩
theorem LawSt.drawn {K : PySem.W.Frag} {ρ : RowP} {M : Mem} {B3 B H H' : Hp} {S : Sto} {L : Ls} {xs zs : List V} {ts : List Stp} (h : LawSt K ρ M B3 B H S L xs zs ts) (R : RowSt K ρ (del1 H ρ.r) H') : LawSt K ρ M B3 B H' S L xs zs ts :=
  ⟨h.b, h.m.drawn R, h.dx, h.dz, h.ok, h.op, h.st, h.lk⟩
theorem LawSt.tups {K : PySem.W.Frag} {ρ : RowP} {M : Mem} {B3 B H : Hp} {S : Sto} {L : Ls} {xs zs : List V} {ts : List Stp} (h : LawSt K ρ M B3 B H S L xs zs ts) : LawSt K ρ M B3 (addT B H) H S L xs zs ts :=
  ⟨h.b.trans same_addT, h.m.tups, dps_mono same_addT h.dx, dps_mono same_addT h.dz, h.ok, h.op, h.st, h.lk⟩
section
variable {P : Program} {w : World} {K : PySem.W.Frag} {mg : Str → Option Value} {base : Heap}
/-! law: 0 _law_script, 1 _law_row, 2 _law_store_here, 3 _law_told, 4 _law_state, 5 _law_s, 6 _law_plan, 7 _law_states, 8 _law_k, 9 _law_some, 10 _law_more, 11 _law_step, 12 _law_shelf -/
abbrev s_law : Stmt := topS 40
abbrev N_law : List Str := ["_law_script", "_law_row", "_law_store_here", "_law_told", "_law_state", "_law_s", "_law_plan", "_law_states", "_law_k", "_law_some", "_law_more", "_law_step", "_law_shelf"]
theorem sc_law : FnScope N_law ["_law_script"] (defScope s_law) := ⟨rfl, rfl, rfl, by decide +kernel, rfl, by decide +kernel, by decide +kernel⟩
theorem ok_law {f f1 f2 f3 f4 f5 f6 f7 C : Addr} {fd fd1 fd2 fd3 fd4 fd5 fd6 fd7 : FuncData} (D : Dfs K mg "law" s_law ["_law_script"] f fd) (T : Tx K mg)
    (C__law_taken : Cal P w K mg base 1 "_law_taken" ["_law_row", "_law_many"] (spTaken K) f7 fd7)
    (C__law_store : Cal P w K mg base 3 "_law_store" ["_law_row"] (spStore K) f1 fd1) (C__law_made : Cal P w K mg base 6 "_law_made" ["_law_store_here"] (spMade K C) f2 fd2)
    (C_begin : Cal P w K mg base 1 "begin" ["store"] (spBegin K C) f3 fd3) (C_steps_at : Cal P w K mg base 6 "steps_at" ["store", "state"] (spStepsAt K C) f4 fd4)
    (C__law_is_step_right : Cal P w K mg base 2 "_law_is_step_right" ["_law_store_here", "_law_s", "_law_step"] (spStepRight K) f5 fd5) (C_played : Cal P w K mg base 6 "played" ["store", "plan"] (spPlayed0 K C) f6 fd6) :
    FnOk P w K mg base CX0 8 f fd ["_law_script"] (spLaw K) := by
  refine D.F.ok sc_law (fun vs H Q E h => ?_) (fun cdv A outer s H vs Q E hr h => ?_)
  · obtain ⟨a, ns, rfl, _⟩ := h
    rfl
  · obtain ⟨a, ns, rfl, hS, _, q⟩ := h
    refine ⟨_, (pss_cons (ps_set (i := 1) sc_law.nd rfl (Or.inl rfl) (pe_lst (pa_cons (pv 0) (pa_cons pe_int (pa_cons pe_int pa_nil)))))
      (pss_cons (ps_set (i := 2) sc_law.nd rfl (Or.inl rfl) (pe_call C__law_store.G (hr.mono (by decide)) (by rfl) C__law_store.g C__law_store.kp C__law_store.b .nil pass0 (pa_cons (pv 1) pa_nil)))
      (C8.pss_cut (ps_set (i := 3) sc_law.nd rfl (Or.inl rfl) (pe_call C__law_made.G (hr.mono (by decide)) (by rfl) C__law_made.g C__law_made.kp C__law_made.b .nil pass0 (pa_cons (pv 2) pa_nil)))
      (pss_cons (ps_set (i := 4) sc_law.nd rfl (Or.inl rfl) (pe_call C_begin.G (hr.mono (by decide)) (by rfl) C_begin.g C_begin.kp C_begin.b .nil pass0 (pa_cons (pv 3) pa_nil)))
      (C8.pss_cut (ps_set (i := 5) sc_law.nd rfl (Or.inl rfl) (pe_disp (pps_cons pe_str (pe_ix (kix_tup (K := K)) (pv 2) pe_int (fun _ _ => rfl)) (pps_cons pe_str (pe_lst pa_nil) (pps_cons pe_str (pe_lst pa_nil) (pps_cons pe_str (pe_lc (own := [("_law_shelf", 12)]) (g := gName 12) rfl sc_law.nd (pi_list (by exact (pe_ix (kix_tup (K := K)) (pv 2) pe_int (fun _ _ => rfl)))) (blkOk_by (own := [("_law_shelf", 12)]) (N := N_law) (sc := defScope s_law) (by decide +kernel)) (fun _ _ _ _ _ => (pg_name (i := 12) sc_law.nd rfl (Or.inl rfl))) (fun _ _ _ _ _ => pts_nil) (fun _ _ _ _ _ => by exact (pe_ix (kix_tup (K := K)) (pv 12) pe_int (fun _ _ => rfl)))) (pps_cons pe_str pe_int (pps_cons pe_str pe_int pps_nil)))))) (by rfl) (by rfl) (fun z => by cases z) (by decide)))
      (pss_cons (ps_set (i := 6) sc_law.nd rfl (Or.inl rfl) (pe_lst pa_nil))
      (C8.pss_cut (ps_set (i := 7) sc_law.nd rfl (Or.inl rfl) (pe_lst (pa_cons (pv 4) pa_nil)))
      (pss_cons (ps_for PassesOwn.never rfl (pi_range1 (by rfl) T.n_range (pa_cons (pe_call C__law_taken.G (hr.mono (by decide)) (by rfl) C__law_taken.g C__law_taken.kp C__law_taken.b .nil pass0 (pa_cons (pv 1) (pa_cons pe_int pa_nil))) pa_nil)) (pg_name (i := 8) sc_law.nd rfl (Or.inl rfl)) (C8.pss_cut (ps_set (i := 9) sc_law.nd rfl (Or.inl rfl) (pe_call C_steps_at.G (hr.mono (by decide)) (by rfl) C_steps_at.g C_steps_at.kp C_steps_at.b .nil pass0 (pa_cons (pv 3) (pa_cons (pe_ix (kix_list (K := K)) (pv 7) (pe_un un_neg pe_int) (fun _ _ => rfl)) pa_nil))))
      (C8.pss_cut (ps_setLc (i := 10) (own := [("_law_step", 11)]) (g := gName 11) rfl sc_law.nd rfl rfl (sw_true rfl rfl rfl (by decide +kernel)) (pi_list (pv 9)) (blkOk_by (own := [("_law_step", 11)]) (N := N_law) (sc := defScope s_law) (by decide +kernel)) (fun _ _ _ _ _ => (pg_name (i := 11) sc_law.nd rfl (Or.inl rfl))) (fun _ _ _ _ _ => (pts_one (pt_cmpR (kin_seq (K := K)) (pe_ix (kix_tup (K := K)) (pv 11) pe_int (fun _ _ => rfl)) (pe_tup (pa_cons pe_str (pa_cons pe_str pa_nil))) (by rfl)))) (fun _ _ _ _ _ => (pv 11)))
      (C8.pss_cut (ps_if (PW.pt (pw_and (pt_cmpR (kneD (K := K) hr.units) (pv 10) (pe_lst pa_nil) (nomark _)) (pw_and1 (pt_cmpR op_gt (pe_call C__law_taken.G (hr.mono (by decide)) (by rfl) C__law_taken.g C__law_taken.kp C__law_taken.b .nil pass0 (pa_cons (pv 1) (pa_cons pe_int pa_nil))) pe_int (nomark _))))) (pss_one (ps_set (i := 9) sc_law.nd rfl (Or.inl rfl) (pv 10))) pss_nil)
      (C8.pss_cut (ps_set (i := 11) sc_law.nd rfl (Or.inl rfl) (pe_ix (kix_list (K := K)) (pv 9) (pe_call C__law_taken.G (hr.mono (by decide)) (by rfl) C__law_taken.g C__law_taken.kp C__law_taken.b .nil pass0 (pa_cons (pv 1) (pa_cons (pe_callB (klen (K := K)) (by rfl) T.n_len (by decide +kernel) (pa_cons (pv 9) pa_nil)) pa_nil))) (fun _ _ => rfl)))
      (C8.pss_cut (ps_if (pt_not (pt_val (pe_call C__law_is_step_right.G (hr.mono (by decide)) (by rfl) C__law_is_step_right.g C__law_is_step_right.kp C__law_is_step_right.b .nil pass0 (pa_cons (pv 2) (pa_cons (pv 5) (pa_cons (pv 11) pa_nil)))))) (pss_one (ps_ret pe_bl)) pss_nil)
      (C8.pss_cut (ps_expr (pe_bm PySem.F.plainAttrs_list PySem.F.slot_list_append PySem.F.type_list_append mt_append (pv 6) (pa_cons (pv 11) pa_nil)))
      (C8.pss_cut (ps_expr (pe_bm PySem.F.plainAttrs_list PySem.F.slot_list_append PySem.F.type_list_append mt_append (pv 7) (pa_cons (pe_tup (pa_cons (pe_dget (hu_of hr) (pv 5) pe_str (fun _ _ => rfl)) (pa_cons (pe_callTy (ktuple_of (K := K)) (by rfl) T.n_tuple (by decide +kernel) (pa_cons (pe_callB (ksorted (K := K)) (by rfl) T.n_sorted (by decide +kernel) (pa_cons (pe_dget (hu_of hr) (pv 5) pe_str (fun _ _ => rfl)) pa_nil)) pa_nil)) (pa_cons (pe_callTy (ktuple_of (K := K)) (by rfl) T.n_tuple (by decide +kernel) (pa_cons (pe_callB (ksorted (K := K)) (by rfl) T.n_sorted (by decide +kernel) (pa_cons (pe_dget (hu_of hr) (pv 5) pe_str (fun _ _ => rfl)) pa_nil)) pa_nil)) (pa_cons (pe_callB (call_max2 rfl) (by rfl) T.n_max (by decide +kernel) (pa_cons pe_int (pa_cons (pe_op op_sub (pe_dget (hu_of hr) (pv 5) pe_str (fun _ _ => rfl)) (pe_dget (hu_of hr) (pv 5) pe_str (fun _ _ => rfl))) pa_nil))) pa_nil))))) pa_nil)))
      (pss_one (ps_if (pt_cmpR (kneD (K := K) hr.units) (pe_ix (kix_list (K := K)) (pe_call C_played.G (hr.mono (by decide)) (by rfl) C_played.g C_played.kp C_played.b .nil pass0 (pa_cons (pv 3) (pa_cons (pv 6) pa_nil))) (pe_un un_neg pe_int) (fun _ _ => rfl)) (pe_ix (kix_list (K := K)) (pv 7) (pe_un un_neg pe_int) (fun _ _ => rfl)) (nomark _)) (pss_one (ps_ret pe_bl)) pss_nil))))))))))
      (pss_one (ps_ret (pe_cmpR (keqD (K := K) hr.units) (pe_call C_played.G (hr.mono (by decide)) (by rfl) C_played.g C_played.kp C_played.b .nil pass0 (pa_cons (pv 3) (pa_cons (pv 6) pa_nil))) (pv 7) (nomark _)))))))))))), ?_⟩
    -- row, store, told
    refine ⟨_, rfl, small (by simp), fun r nr => ?_⟩
    have R0 : RowSt K ⟨r, a, ns⟩ H (upd H r (.lst [.ref a, .int 0, .int 0])) := ⟨same_new nr, nr, hS, 0, 0, upd_same, by decide⟩
    generalize hρ : (⟨r, a, ns⟩ : RowP) = ρ at R0
    have er : r = ρ.r := by rw [← hρ]
    refine ⟨_, rfl, ρ, H, by rw [← er]; rfl, R0, fun v B2 H2 S s2 R2 dv ok => ?_⟩
    refine ⟨fun σ H' => ∃ (p : Addr) (B' : Hp), σ = [some (.ref a), some (.ref ρ.r), some v, some (.ref p), none, none, none, none, none, none, none, none, none] ∧ RowSt K ρ B' H' ∧ Dp K B' v S.d ∧ Ob K C B' p S, ?_, ?_⟩
    · refine ⟨_, rfl, v, S, rfl, dp_mono R2.same dv, ok, fun p H3 s3 np ob => ?_⟩
      obtain ⟨R3, s23⟩ := row_all R2 s3
      obtain ⟨n1, n2, e3, _⟩ := R3.row
      exact ⟨p, del1 H3 ρ.r, by rw [← er]; rfl, R3, dp_mono s23 dv, ob_del e3 ob⟩
    rintro σ H3 ⟨p, B3, rfl, R3, dv3, ob3⟩
    obtain ⟨a0, l, m, xs, ys, rfl, so⟩ := sto_at dv3
    -- state = begin(told)
    refine ⟨_, rfl, p, S, rfl, ob3.mono R3.same, fun u0 H4 s4 du0 => ?_⟩
    have R4 := R3.pure s4
    have so4 := so.mono R4.same
    -- s = {..}
    refine ⟨fun σ H' => ∃ (A : LsA), Same H4 H' ∧ LsAt H' A ⟨S.aisle, [], [], S.shelves.map Shelf.has, 0, 0⟩ ∧ H4 A.ds = none ∧ H4 A.li = none ∧ H4 A.ld = none ∧ H4 A.lg = none ∧
      σ = [some (.ref a), some (.ref ρ.r), some (.ref a0), some (.ref p), some u0, some (.ref A.ds), none, none, none, none, none, none, none], ?_, ?_⟩
    · refine fun ds nds => ?_
      have t0 := same_new (o := .dK []) nds
      have so5 := so4.mono t0
      refine ⟨_, rfl, a0, _, 1, .int S.aisle, rfl, rfl, so5.t, rfl, small (by simp), fun li nli => ⟨small (by simp), fun ld nld => ?_⟩⟩
      have t1 := same_new (o := .lst []) nli
      have t2 := same_new (o := .lst []) nld
      have so6 := so5.mono (t1.trans t2)
      have eds : (upd (upd (upd H4 ds (.dK [])) li (.lst [])) ld (.lst [])) ds = some (.dK []) := (t1.trans t2) _ _ upd_same
      have eli : (upd (upd (upd H4 ds (.dK [])) li (.lst [])) ld (.lst [])) li = some (.lst []) := t2 _ _ upd_same
      have eld : (upd (upd (upd H4 ds (.dK [])) li (.lst [])) ld (.lst [])) ld = some (.lst []) := upd_same
      have nn : li ≠ ld := ne_of_none upd_same nld
      have nld4 : H4 ld = none := (t0.trans t1).free nld
      have t02 := (t0.trans t1).trans t2
      have nli4 := t0.free nli
      generalize upd (upd (upd H4 ds (.dK [])) li (.lst [])) ld (.lst []) = H6 at so6 eds eli eld t02
      refine ⟨_, rfl, a0, _, 0, .ref l, rfl, rfl, so6.t, rfl, l, rfl, ⟨xs, so6.l⟩, fun lg nlg => ?_⟩
      refine lc_list (K := K) (a := l) (xs := xs) (fun i H' => Same H6 H' ∧ H' lg = some (.lst (((S.shelves.take i).map Shelf.has).map V.int))) ⟨same_new nlg, by rw [List.take_zero]; exact upd_same⟩ (fun i H' _ h => Same.l h.1 so6.l) ?_ ?_
      · rintro i y H' hy ⟨s7, e7⟩
        have so7 := so6.mono s7
        obtain ⟨d, hd, dy⟩ := dps_of_get so7.dx hy
        obtain ⟨sh, hsh, rfl⟩ : ∃ sh, S.shelves[i]? = some sh ∧ d = sh.d := by
          unfold dshelves at hd
          rw [List.getElem?_map] at hd
          cases e : S.shelves[i]? with
          | none =>
            rw [e] at hd
            cases hd
          | some z =>
            rw [e] at hd
            exact ⟨z, rfl, (Option.some.inj hd).symm⟩
        obtain ⟨c, rfl, hc⟩ := shelf_at dy
        refine ⟨rfl, _, rfl, c, _, 1, .int sh.has, rfl, rfl, hc, rfl, _, e7, ?_, ?_, ?_⟩
        · rw [List.length_map, List.length_map, List.length_take]
          have := ok.n5
          exact small1000 (by omega)
        · intro b o h
          rw [upd_ne (ne_of_none h nlg)]
          exact s7 b o h
        · rw [upd_same, take_snoc hsh, List.map_append, List.map_append]
          rfl
      · rintro H7 ⟨s7, e7⟩
        have lx := so.lx
        rw [lx, List.take_length] at e7
        have n1 : ds ≠ li := ne_of_none upd_same nli
        have m1 : li ≠ lg := ne_of_none eli nlg
        have m2 : ld ≠ lg := ne_of_none eld nlg
        have m3 : ds ≠ lg := ne_of_none eds nlg
        have m4 : ds ≠ ld := fun z => by
          rw [z, eld] at eds
          cases eds
        refine ⟨s7 _ _ eds, [(Sum.inr ("aisle" : Str), .int S.aisle), (Sum.inr ("in" : Str), .ref li), (Sum.inr ("done" : Str), .ref ld), (Sum.inr ("goods" : Str), .ref lg), (Sum.inr ("now" : Str), .int 0), (Sum.inr ("open" : Str), .int 0)], rfl, by simp, ⟨ds, li, ld, lg⟩, ?_, ?_, nds, nli4, nld4, t02.free nlg, rfl⟩
        · exact Same.put (t02.trans s7) nds
        · refine ls_start upd_same ?_ ?_ ?_ nn m1 m2
          · rw [upd_ne (Ne.symm n1)]
            exact s7 _ _ eli
          · rw [upd_ne (Ne.symm m4)]
            exact s7 _ _ eld
          · rw [upd_ne (Ne.symm m3)]
            exact e7
    rintro σ H5 ⟨A, s5, hL5, nds, nli, nld, nlg, rfl⟩
    -- plan = [], states = [state]
    refine ⟨small (by simp), fun pl npl => ?_⟩
    refine ⟨fun σ H' => ∃ (M : Mem) (B : Hp) (xs zs : List V) (L : Ls), LawSt K ρ M B3 B H' S L xs zs [] ∧ σ = [some (.ref a), some (.ref ρ.r), some (.ref a0), some (.ref p), some u0, some (.ref M.A.ds), some (.ref M.pl), some (.ref M.sl), none, none, none, none, none], ?_, ?_⟩
    · refine ⟨_, rfl, small (by simp), fun sl nsl => ?_⟩
      have t1 := same_new (o := .lst []) npl
      have t2 := same_new (o := .lst [u0]) nsl
      have R5 := R4.pure s5
      have R7 := R5.pure (t1.trans t2)
      have hL7 := hL5.mono (t1.trans t2)
      obtain ⟨kvs, ed, _⟩ := hL5.d
      have npl4 := s5.free npl
      have nsl4 := s5.free (t1.free nsl)
      have f4 : ∀ b, H4 b = none → B3 b = none := fun b h => R4.same.free h
      have m0 : MemAt K ρ ⟨A, pl, sl⟩ B3 (upd (upd H5 pl (.lst [])) sl (.lst [u0])) ⟨S.aisle, [], [], S.shelves.map Shelf.has, 0, 0⟩ [] [u0] :=
        ⟨R7, ⟨f4 _ nds, f4 _ nli, f4 _ nld, f4 _ nlg⟩, f4 _ npl4, f4 _ nsl4, hL7, t2 _ _ upd_same, upd_same, R4.nr nli, R4.nr nld, R4.nr nlg, R4.nr npl4, R4.nr nsl4, (ne_of_none hL5.i npl).symm, (ne_of_none hL5.dn npl).symm, (ne_of_none hL5.g npl).symm, (ne_of_none (t1 _ _ hL5.i) nsl).symm, (ne_of_none (t1 _ _ hL5.dn) nsl).symm, (ne_of_none (t1 _ _ hL5.g) nsl).symm, ne_of_none upd_same nsl⟩
      have lk0 : Lk S (sta0 S) ⟨S.aisle, [], [], S.shelves.map Shelf.has, 0, 0⟩ := by
        refine ⟨rfl, rfl, List.Pairwise.nil, rfl, ?_, rfl⟩
        show S.shelves.map Shelf.has = (List.range S.shelves.length).map fun (k : Nat) => goods S [] (k : Int)
        refine List.ext_getElem? fun k => ?_
        by_cases hk : k < S.shelves.length
        · rw [List.getElem?_map, List.getElem?_map, List.getElem?_range hk]
          obtain ⟨sh, hsh, _, eh, _⟩ := shelf_at_k (S := S) (k := (k : Int)) (by omega) (by omega)
          have ek : ((k : Int)).toNat = k := by omega
          rw [ek] at hsh
          rw [hsh]
          show some sh.has = some (goods S [] (k : Int))
          unfold goods
          rw [eh, List.map_nil, List.sum_nil, Int.add_zero]
        · rw [List.getElem?_eq_none (by rw [List.length_map]; omega), List.getElem?_eq_none (by rw [List.length_map, List.length_range]; omega)]
      refine ⟨⟨A, pl, sl⟩, addT B3 _, [], [u0], _, ⟨same_addT, m0.tups, .nil, .cons (dp_addT m0.R.same (dp_mono (s5.trans (t1.trans t2)) du0) (noL_sta _)) .nil, fun t h => absurd h (by simp), trivial, sta0_ok ok, lk0⟩, rfl⟩
    rintro σ H6 ⟨M, B6, xs6, zs6, L6, Z6, rfl⟩
    -- for k in range(taken(row, 41))
    refine ⟨_, rfl, ρ, 41, _, rfl, by decide, Z6.m.call, fun many H7 many0 many1 R7 => ⟨many, rfl, by omega, by omega, ?_⟩⟩
    have Z7 := Z6.drawn R7
    refine for_range (lo := 0) (n := many.toNat) (fun i σ H' => ∃ (B : Hp) (xs zs : List V) (L : Ls) (ts : List Stp) (v8 v9 v10 v11 : Option V), LawSt K ρ M B3 B H' S L xs zs ts ∧ ts.length = i ∧ σ = [some (.ref a), some (.ref ρ.r), some (.ref a0), some (.ref p), some u0, some (.ref M.A.ds), some (.ref M.pl), some (.ref M.sl), v8, v9, v10, v11, none])
      ⟨B6, xs6, zs6, L6, [], none, none, none, none, Z7, rfl, rfl⟩ ?_ ?_
    rotate_left
    · rintro σ H8 ⟨B8, xs8, zs8, L8, ts, v8, v9, v10, v11, Z8, hlen, rfl⟩
      have B8H := Z8.m.R.same
      refine ⟨_, rfl, _, rfl, p, M.pl, xs8, S, ts, rfl, ob3.mono (Z8.b.trans B8H), ok, SqL.of Z8.m.p, dps_mono B8H Z8.dx, Z8.ok, Z8.op, by omega, fun q9 zs9 H9 s9 nq9 e9 d9 => ?_⟩
      have lay := (states_lays (playS S (sta0 S) ts)).lst
      refine ⟨_, rfl, _, _, .lst (SqL.of e9) d9, .lst (SqL.of (s9 _ _ Z8.m.s)) (dps_mono (B8H.trans s9) Z8.dz), lay.shaped, lay.shaped, ?_⟩
      rw [lay.refl]
      exact q _
    rintro i σ H8 hi ⟨B8, xs8, zs8, L8, ts, v8, v9, v10, v11, Z8, hlen, rfl⟩
    have w5 := ok.w5
    generalize hst : runS S (sta0 S) ts = st at *
    have sk8 : StaOk S st := by
      have := Z8.st
      rw [hst] at this
      exact this
    have dok := sk8.done
    -- some = steps_at(told, states[-1])
    refine ⟨fun σ H' => ∃ (q9 : Addr) (ws : List V), Same H8 H' ∧ ρ.r ≠ q9 ∧ H' q9 = some (.lst ws) ∧ DpAll K H' ws (dsteps (openSteps S st)) ∧ σ = [some (.ref a), some (.ref ρ.r), some (.ref a0), some (.ref p), some u0, some (.ref M.A.ds), some (.ref M.pl), some (.ref M.sl), some (.int (0 + (i : Int))), some (.ref q9), v10, v11, none], ?_, ?_⟩
    · obtain ⟨u, hu, du⟩ := states_last (dps_mono Z8.m.R.same Z8.dz)
      rw [hst] at du
      refine ⟨_, rfl, _, rfl, _, rfl, M.sl, zs8, -1, u, rfl, rfl, SqL.of Z8.m.s, hu, p, u, S, st, rfl, ob3.mono (Z8.b.trans Z8.m.R.same), du, ok, dok, fun q9 ws H9 s9 nq9 e9 d9 => ?_⟩
      exact ⟨q9, ws, s9, Z8.m.R.nr nq9, e9, d9, rfl⟩
    rintro σ H9 ⟨q9, ws, s9, n9, e9, d9, rfl⟩
    have Z9 := Z8.pure s9
    -- more
    refine ⟨fun σ H' => ∃ (q10 : Addr) (us : List V), Same H9 H' ∧ ρ.r ≠ q10 ∧ H' q10 = some (.lst us) ∧ DpAll K H' us (dsteps ((openSteps S st).filter isMove)) ∧ σ = [some (.ref a), some (.ref ρ.r), some (.ref a0), some (.ref p), some u0, some (.ref M.A.ds), some (.ref M.pl), some (.ref M.sl), some (.int (0 + (i : Int))), some (.ref q9), some (.ref q10), v11, none], ?_, ?_⟩
    · refine ⟨_, rfl, q9, rfl, ⟨ws, SqL.of e9⟩, fun D1 nD1 => ?_⟩
      refine lc_list (K := K) (a := q9) (xs := ws) (fun j H' => ∃ B us, Acq K H9 B H' D1 us (dsteps (((openSteps S st).take j).filter isMove))) ⟨H9, [], ?_⟩ (fun j H' _ ⟨B, us, A⟩ => SqL.of ((A.s.trans A.R) _ _ e9)) ?_ ?_
      · rw [List.take_zero]
        exact Acq.start (Same.refl _) (Same.refl _) nD1
      · rintro j y H' hy ⟨B, us, Aq⟩
        have sA := Aq.s.trans Aq.R
        obtain ⟨d, hd, dy⟩ := dps_of_get d9 hy
        obtain ⟨t, ht, rfl⟩ := step_item hd
        obtain ⟨c, r0, rfl, hc⟩ := step_word dy
        refine ⟨rfl, _, rfl, c, _, 0, .str t.word, rfl, rfl, Same.t sA hc, at_of (j := 0) rfl rfl, small (by simp), fun pt npt => ?_⟩
        have Aq2 := Aq.grow (o := .tup [.str "do", .str "shift"]) npt
        refine ⟨pt, _, rfl, .inr tup_new, rfl, rfl, _, rfl, ?_⟩
        have ef := filter_snoc (p := isMove) ht
        rw [if_neg Bool.false_ne_true, move_word]
        cases hm : isMove t with
        | true =>
          rw [hm, if_pos rfl] at ef
          refine iteT ⟨_, rfl, us, Aq2.el, ?_, ?_⟩
          · have e := dps_len Aq2.dx
            have e2 : (dsteps (((openSteps S st).take j).filter isMove)).length ≤ 12 := by
              unfold dsteps
              rw [List.length_map]
              refine Nat.le_trans (List.length_filter_le _ _) ?_
              rw [List.length_take]
              have := open_len (S := S) (s := st)
              omega
            exact small1000 (by omega)
          · have hs : Same H9 (upd B pt (.tup [.str "do", .str "shift"])) := Aq2.s
            have A5 := Aq2.app (d := t.d) (dp_mono hs dy)
            refine ⟨upd B pt (.tup [.str "do", .str "shift"]), us ++ [.ref c], ?_⟩
            rw [ef]
            have e : dsteps (((openSteps S st).take j).filter isMove ++ [t]) = dsteps (((openSteps S st).take j).filter isMove) ++ [t.d] := List.map_append ..
            rw [e]
            exact A5
        | false =>
          rw [hm, if_neg Bool.false_ne_true, List.append_nil] at ef
          refine iteF ⟨upd B pt (.tup [.str "do", .str "shift"]), us, ?_⟩
          rw [ef]
          exact Aq2
      · rintro H' ⟨B, us, Aq⟩
        obtain ⟨sA, _, dA⟩ := Aq.all
        have lw : ws.length = (openSteps S st).length := (dps_len d9).trans (List.length_map ..)
        rw [lw, List.take_length] at dA
        exact ⟨D1, us, sA, Z9.m.R.nr nD1, Aq.el, dA, rfl⟩
    rintro σ H10 ⟨q10, us, s10, n10, e10, d10, rfl⟩
    have Z10 := Z8.pure (s9.trans s10)
    -- if more != [] and taken(row, 3) > 0: some = more
    refine ⟨fun σ H' => ∃ (qs : Addr) (ls : List V) (sel : List Stp), LawSt K ρ M B3 B8 H' S L8 xs8 zs8 ts ∧ H' qs = some (.lst ls) ∧ qs ≠ ρ.r ∧ DpAll K H' ls (dsteps sel) ∧ sel ≠ [] ∧ (∀ t ∈ sel, t ∈ openSteps S st) ∧ sel.length ≤ 20 ∧ σ = [some (.ref a), some (.ref ρ.r), some (.ref a0), some (.ref p), some u0, some (.ref M.A.ds), some (.ref M.pl), some (.ref M.sl), some (.int (0 + (i : Int))), some (.ref qs), some (.ref q10), v11, none], ?_, ?_⟩
    · have keep : ∀ (H' H2 : Hp) (b : Addr) (o : HO), ρ.r ≠ b → RowSt K ρ (del1 H' ρ.r) H2 → H' b = some o → H2 b = some o := fun H' H2 b o n R' e => R'.same b o (by rw [del1_ne (Ne.symm n)]; exact e)
      have l9 : (openSteps S st).length ≤ 20 := by
        have := open_len (S := S) (s := st)
        omega
      have ne9 : openSteps S st ≠ [] := fun z => by
        have := wait_open (S := S) (s := st)
        rw [z] at this
        simp at this
      refine ⟨_, rfl, small (by simp), fun p0 np0 => ?_⟩
      have t0 := same_new (o := .lst []) np0
      have Z11 := Z10.pure t0
      have e9' := t0 _ _ (s10 _ _ e9)
      have e10' := t0 _ _ e10
      have d9' := dps_mono (s10.trans t0) d9
      have d10' := dps_mono t0 d10
      refine ⟨.list (dsteps ((openSteps S st).filter isMove)), .list [], .lst (SqL.of e10') d10', .lst lst_new .nil, (steps_lays _).lst.shaped, lay_nilL.shaped, _, rfl, ?_⟩
      rw [eqv_nilS]
      cases hm : (openSteps S st).filter isMove with
      | nil => exact iteF (iteF ⟨q9, ws, openSteps S st, Z11, e9', Ne.symm n9, d9', ne9, fun t h => h, l9, rfl⟩)
      | cons t0' r0 =>
        refine iteT ⟨_, rfl, ρ, 3, _, rfl, by decide, Z11.m.call, fun m H12 m0 m1 R12 => ⟨_, _, rfl, rfl, _, rfl, ?_⟩⟩
        have Z12 := Z11.drawn R12
        obtain ⟨n1, n2, er11, _⟩ := Z11.m.R.row
        by_cases hp : 0 < m
        · refine itD hp ⟨_, rfl, q10, us, (openSteps S st).filter isMove, Z12, keep _ _ _ _ n10 R12 e10', Ne.symm n10, dps_mono R12.same (dps_del er11 d10' (noL_steps _)), ?_, fun t h => (List.mem_filter.mp h).1, Nat.le_trans (List.length_filter_le _ _) l9, rfl⟩
          rw [hm]
          exact List.cons_ne_nil _ _
        · exact itF hp ⟨q9, ws, openSteps S st, Z12, keep _ _ _ _ n9 R12 e9', Ne.symm n9, dps_mono R12.same (dps_del er11 d9' (noL_steps _)), ne9, fun t h => h, l9, rfl⟩
    rintro σ H12 ⟨qs, ls, sel, Z12, es, nqs, ds, nsel, msel, lsel, rfl⟩
    -- step = some[taken(row, len(some))]
    refine ⟨fun σ H' => ∃ (t : Stp) (v : V), LawSt K ρ M B3 B8 H' S L8 xs8 zs8 ts ∧ Dp K H' v t.d ∧ t ∈ openSteps S st ∧ σ = [some (.ref a), some (.ref ρ.r), some (.ref a0), some (.ref p), some u0, some (.ref M.A.ds), some (.ref M.pl), some (.ref M.sl), some (.int (0 + (i : Int))), some (.ref qs), some (.ref q10), some v, none], ?_, ?_⟩
    · have ll : ls.length = sel.length := (dps_len ds).trans (List.length_map ..)
      have lpos : 0 < ls.length := by
        rw [ll]
        exact List.length_pos_iff.mpr nsel
      refine ⟨_, rfl, _, rfl, _, rfl, qs, ls, rfl, .inl (SqL.of es), ρ, (ls.length : Int), _, rfl, by omega, Z12.m.call, fun m H13 m0 m1 R13 => ?_⟩
      obtain ⟨n1, n2, er12, _⟩ := Z12.m.R.row
      have es' : H13 qs = some (.lst ls) := R13.same _ _ (by rw [del1_ne nqs]; exact es)
      have ds' := dps_mono R13.same (dps_del er12 ds (noL_steps _))
      obtain ⟨v, hat, hv, _⟩ := atI_mem m0 m1
      obtain ⟨d, hd, dv⟩ := dps_of_get ds' hv
      obtain ⟨t, ht, rfl⟩ := step_item hd
      exact ⟨qs, ls, m, v, rfl, rfl, SqL.of es', hat, t, v, Z12.drawn R13, dv, msel t (List.mem_of_getElem? ht), rfl⟩
    rintro σ H13 ⟨t, v, Z13, dv, ht, rfl⟩
    obtain ⟨hb, tok⟩ := open_bar ht
    have Z13' := Z13.tups
    have dvB : Dp K (addT B8 H13) v t.d := dp_addT Z13.m.R.same dv (noL_stp t)
    have lk13 : Lk S st L8 := by
      have := Z13.lk
      rw [hst] at this
      exact this
    -- if not is_step_right: return False
    refine ⟨fun σ H' => ∃ L', MemAt K ρ M (addT B8 H13) H' L' xs8 zs8 ∧ Lk S (behindS S st t) L' ∧ σ = [some (.ref a), some (.ref ρ.r), some (.ref a0), some (.ref p), some u0, some (.ref M.A.ds), some (.ref M.pl), some (.ref M.sl), some (.int (0 + (i : Int))), some (.ref qs), some (.ref q10), some v, none], ?_, ?_⟩
    · refine ⟨_, rfl, _, rfl, _, rfl, .ref a0, v, M.A, addT B8 H13, S, st, t, L8, rfl, Z13'.m.R.same, dp_mono Z13'.b dv3, dvB, Z13'.m.out, Z13'.m.L, ok, sk8, lk13, tok, hb, fun H14 L' f14 hL14 lk14 => ⟨_, rfl, itnB rfl ?_⟩⟩
      exact ⟨L', Z13'.m.stepped f14 hL14, lk14, rfl⟩
    rintro σ H14 ⟨L9, m14, lk14, rfl⟩
    have bB := Z13'.b
    have dxB := Z13'.dx
    have dzB := Z13'.dz
    generalize addT B8 H13 = B14 at m14 bB dxB dzB dvB
    have lxs : xs8.length = i := by
      have e := dps_len dxB
      unfold dsteps at e
      rw [List.length_map] at e
      omega
    have lzs : zs8.length = i + 1 := by
      have e := dps_len dzB
      unfold dstates at e
      rw [List.length_map, playS_len] at e
      omega
    have ik : i ≤ 41 := by omega
    -- plan.append(step)
    refine ⟨fun σ H' => MemAt K ρ M B14 H' L9 (xs8 ++ [v]) zs8 ∧ σ = [some (.ref a), some (.ref ρ.r), some (.ref a0), some (.ref p), some u0, some (.ref M.A.ds), some (.ref M.pl), some (.ref M.sl), some (.int (0 + (i : Int))), some (.ref qs), some (.ref q10), some v, none], ?_, ?_⟩
    · exact ⟨_, rfl, .inl ⟨rfl, _, SqL.of m14.p⟩, _, rfl, M.pl, xs8, v, rfl, rfl, m14.p, small1000 (by omega), m14.planned _, rfl⟩
    rintro σ H15 ⟨m15, rfl⟩
    -- states.append(..)
    refine ⟨fun σ H' => ∃ (B : Hp) (y : V), Same B14 B ∧ Dp K B y (behindS S st t).d ∧ MemAt K ρ M B H' L9 (xs8 ++ [v]) (zs8 ++ [y]) ∧ σ = [some (.ref a), some (.ref ρ.r), some (.ref a0), some (.ref p), some u0, some (.ref M.A.ds), some (.ref M.pl), some (.ref M.sl), some (.int (0 + (i : Int))), some (.ref qs), some (.ref q10), some v, none], ?_, ?_⟩
    · have sk14 := StaOk.step ok sk8 tok hb
      have hld : L9.done.length ≤ 5 := by
        have e1 := (sortI_perm L9.done).length_eq
        have e2 := sk14.done.len
        rw [lk14.done] at e1
        omega
      have hli : L9.ins.length ≤ 2 := by
        have e1 := (sortI_perm L9.ins).length_eq
        rw [lk14.ins] at e1
        rcases sk14.inside with i | i | i | i <;> rw [i] at e1 <;> simp at e1 <;> omega
      have hL := m15.L
      refine ⟨_, rfl, .inl ⟨rfl, _, SqL.of m15.s⟩, _, rfl, M.A.ds, _, rfl, hL.gA, _, rfl, M.A.ds, _, rfl, hL.gD, M.A.ld, L9.done, rfl, SqL.of hL.dn, by omega, fun ns p1 hp hs np1 => ?_⟩
      rw [sortI_of hp hs, lk14.done]
      have z1 := same_new (o := .lst ((behindS S st t).done.map V.int)) np1
      refine ⟨p1, _, rfl, .inl ⟨lst_new, fun p2 np2 => ?_⟩⟩
      have z2 := same_new (o := .tup ((behindS S st t).done.map V.int)) np2
      have hL2 := hL.mono (z1.trans z2)
      refine ⟨_, rfl, M.A.ds, _, rfl, hL2.gI, M.A.li, L9.ins, rfl, SqL.of hL2.i, by omega, fun ns3 p3 hp3 hs3 np3 => ?_⟩
      rw [sortI_of hp3 hs3, lk14.ins]
      have z3 := same_new (o := .lst ((behindS S st t).inside.map V.int)) np3
      refine ⟨p3, _, rfl, .inl ⟨lst_new, fun p4 np4 => ?_⟩⟩
      have z4 := same_new (o := .tup ((behindS S st t).inside.map V.int)) np4
      have hL4 := hL2.mono (z3.trans z4)
      refine ⟨_, rfl, M.A.ds, _, rfl, hL4.gO, _, rfl, M.A.ds, _, rfl, hL4.gN, _, _, rfl, rfl, _, _, rfl, small (by simp), fun p5 np5 => ?_⟩
      rw [maxI, lk14.kept, lk14.a]
      have z5 := same_new (o := .tup [.int (behindS S st t).aisle, .ref p2, .ref p4, .int (behindS S st t).kept]) np5
      have m5 := m15.pure (((z1.trans z2).trans (z3.trans z4)).trans z5)
      have m6 := m5.tups
      refine ⟨M.sl, zs8, _, rfl, rfl, m5.s, small1000 (by omega), addT B14 _, .ref p5, same_addT, dp_addT m5.R.same ?_ (noL_sta _), m6.stated _, rfl⟩
      exact at_sta tup_new (Same.t ((z3.trans z4).trans z5) tup_new) (Same.t z5 tup_new)
    rintro σ H16 ⟨B16, y, b16, dy16, m16, rfl⟩
    have er : runS S (sta0 S) (ts ++ [t]) = behindS S st t := by
      rw [runS_snoc, hst]
    have dx16 : DpAll K B16 (xs8 ++ [v]) (dsteps (ts ++ [t])) := by
      have e : dsteps (ts ++ [t]) = dsteps ts ++ [t.d] := List.map_append ..
      rw [e]
      exact dps_app (dps_mono b16 dxB) (.cons (dp_mono b16 dvB) .nil)
    have dz16 : DpAll K B16 (zs8 ++ [y]) (dstates (playS S (sta0 S) (ts ++ [t]))) := by
      have e : dstates (playS S (sta0 S) (ts ++ [t])) = dstates (playS S (sta0 S) ts) ++ [(runS S (sta0 S) (ts ++ [t])).d] := by
        rw [playS_snoc]
        exact List.map_append ..
      rw [e, er]
      exact dps_app (dps_mono b16 dzB) (.cons dy16 .nil)
    have ok16 : ∀ u ∈ ts ++ [t], StpOk S.wishes.length u := fun u h => by
      rcases List.mem_append.mp h with h | h
      · exact Z8.ok u h
      · rw [List.mem_singleton] at h
        rw [h]
        exact tok
    have op16 : OpenPlan S (sta0 S) (ts ++ [t]) := Z8.op.snoc (by rw [hst]; exact hb)
    have Z16 : LawSt K ρ M B3 B16 H16 S L9 (xs8 ++ [v]) (zs8 ++ [y]) (ts ++ [t]) :=
      ⟨bB.trans b16, m16, dx16, dz16, ok16, op16, by rw [er]; exact StaOk.step ok sk8 tok hb, by rw [er]; exact lk14⟩
    have lt : (ts ++ [t]).length = i + 1 := by
      rw [List.length_append, hlen]
      rfl
    -- if played(told, plan)[-1] != states[-1]
    refine ⟨_, rfl, _, rfl, p, M.pl, xs8 ++ [v], S, ts ++ [t], rfl, ob3.mono ((bB.trans b16).trans m16.R.same), ok, SqL.of m16.p, dps_mono m16.R.same dx16, ok16, op16, by omega, fun q17 zs17 H17 s17 nq17 e17 d17 => ?_⟩
    obtain ⟨u1, hu1, du1⟩ := states_last d17
    obtain ⟨u2, hu2, du2⟩ := states_last (dps_mono (m16.R.same.trans s17) dz16)
    refine ⟨_, rfl, q17, zs17, -1, u1, rfl, rfl, SqL.of e17, hu1, _, rfl, _, rfl, M.sl, _, -1, u2, rfl, rfl, SqL.of (s17 _ _ m16.s), hu2, _, _, du1, du2, (Sta.lay _).shaped, (Sta.lay _).shaped, _, rfl, itnB (Sta.lay _).refl ?_⟩
    exact ⟨B16, _, _, L9, ts ++ [t], _, _, _, _, Z16.pure s17, lt, rfl⟩
end

theorem wr_tup {K : PySem.W.Frag} {a : Addr} {d : Option Addr} {its : Array Value} {n : Nat} {sl : Array (Option Value)} {xs : List V} (h : K.lookup a = some ⟨.type "tuple", d, .seq its n, sl⟩) (hz : its.size ≤ 1000) (r : Vals xs its.toList) (H : Hp) : SqT K H a xs :=
  .inr ⟨_, its, n, h, rfl, rfl, small hz, r⟩
theorem all_mk {l : PySem.W.OpenLaw} {w : World} {K : PySem.W.Frag} {h : Heap} {mg : Str → Option Value} {fa : Addr} (X : K.In h) (G : h.Ns mainGlobals mg) (hfa : mg "law" = some (.ref fa))
    {C : Addr}
    {f_begin : Addr} {od_begin an_begin : Option Addr} {sl_begin : Array (Option Value)} {oc_begin kV_begin dc_begin pm_begin cd_begin ct_begin : Value}
    {f_steps_at : Addr} {od_steps_at an_steps_at : Option Addr} {sl_steps_at : Array (Option Value)} {oc_steps_at kV_steps_at dc_steps_at pm_steps_at cd_steps_at ct_steps_at : Value}
    {f_played : Addr} {od_played an_played : Option Addr} {sl_played : Array (Option Value)} {oc_played kV_played dc_played pm_played cd_played ct_played : Value}
    {f_behind : Addr} {od_behind an_behind : Option Addr} {sl_behind : Array (Option Value)} {oc_behind kV_behind dc_behind pm_behind cd_behind ct_behind : Value}
    {f_refuse_no_steps : Addr} {od_refuse_no_steps an_refuse_no_steps : Option Addr} {sl_refuse_no_steps : Array (Option Value)} {oc_refuse_no_steps kV_refuse_no_steps dc_refuse_no_steps pm_refuse_no_steps cd_refuse_no_steps ct_refuse_no_steps : Value}
    {f__all_steps : Addr} {od__all_steps an__all_steps : Option Addr} {sl__all_steps : Array (Option Value)} {oc__all_steps kV__all_steps dc__all_steps pm__all_steps cd__all_steps ct__all_steps : Value}
    {f__bar : Addr} {od__bar an__bar : Option Addr} {sl__bar : Array (Option Value)} {oc__bar kV__bar dc__bar pm__bar cd__bar ct__bar : Value}
    {f__bar_of_shift : Addr} {od__bar_of_shift an__bar_of_shift : Option Addr} {sl__bar_of_shift : Array (Option Value)} {oc__bar_of_shift kV__bar_of_shift dc__bar_of_shift pm__bar_of_shift cd__bar_of_shift ct__bar_of_shift : Value}
    {f__bar_of_going_in : Addr} {od__bar_of_going_in an__bar_of_going_in : Option Addr} {sl__bar_of_going_in : Array (Option Value)} {oc__bar_of_going_in kV__bar_of_going_in dc__bar_of_going_in pm__bar_of_going_in cd__bar_of_going_in ct__bar_of_going_in : Value}
    {f__bar_of_going_out : Addr} {od__bar_of_going_out an__bar_of_going_out : Option Addr} {sl__bar_of_going_out : Array (Option Value)} {oc__bar_of_going_out kV__bar_of_going_out dc__bar_of_going_out pm__bar_of_going_out cd__bar_of_going_out ct__bar_of_going_out : Value}
    {f__bar_of_wish : Addr} {od__bar_of_wish an__bar_of_wish : Option Addr} {sl__bar_of_wish : Array (Option Value)} {oc__bar_of_wish kV__bar_of_wish dc__bar_of_wish pm__bar_of_wish cd__bar_of_wish ct__bar_of_wish : Value}
    {f__bar_of_load : Addr} {od__bar_of_load an__bar_of_load : Option Addr} {sl__bar_of_load : Array (Option Value)} {oc__bar_of_load kV__bar_of_load dc__bar_of_load pm__bar_of_load cd__bar_of_load ct__bar_of_load : Value}
    {f__is_beside : Addr} {od__is_beside an__is_beside : Option Addr} {sl__is_beside : Array (Option Value)} {oc__is_beside kV__is_beside dc__is_beside pm__is_beside cd__is_beside ct__is_beside : Value}
    {f__has_now : Addr} {od__has_now an__has_now : Option Addr} {sl__has_now : Array (Option Value)} {oc__has_now kV__has_now dc__has_now pm__has_now cd__has_now ct__has_now : Value}
    {f_Store___init__ : Addr} {od_Store___init__ an_Store___init__ : Option Addr} {sl_Store___init__ : Array (Option Value)} {oc_Store___init__ kV_Store___init__ dc_Store___init__ pm_Store___init__ cd_Store___init__ ct_Store___init__ : Value}
    {f_Store_shelves : Addr} {od_Store_shelves an_Store_shelves : Option Addr} {sl_Store_shelves : Array (Option Value)} {oc_Store_shelves kV_Store_shelves dc_Store_shelves pm_Store_shelves cd_Store_shelves ct_Store_shelves : Value}
    {f_Store_wishes : Addr} {od_Store_wishes an_Store_wishes : Option Addr} {sl_Store_wishes : Array (Option Value)} {oc_Store_wishes kV_Store_wishes dc_Store_wishes pm_Store_wishes cd_Store_wishes ct_Store_wishes : Value}
    {f__refuse_no_store : Addr} {od__refuse_no_store an__refuse_no_store : Option Addr} {sl__refuse_no_store : Array (Option Value)} {oc__refuse_no_store kV__refuse_no_store dc__refuse_no_store pm__refuse_no_store cd__refuse_no_store ct__refuse_no_store : Value}
    {f__is_shelf : Addr} {od__is_shelf an__is_shelf : Option Addr} {sl__is_shelf : Array (Option Value)} {oc__is_shelf kV__is_shelf dc__is_shelf pm__is_shelf cd__is_shelf ct__is_shelf : Value}
    {f__is_wish : Addr} {od__is_wish an__is_wish : Option Addr} {sl__is_wish : Array (Option Value)} {oc__is_wish kV__is_wish dc__is_wish pm__is_wish cd__is_wish ct__is_wish : Value}
    {f__is_rising : Addr} {od__is_rising an__is_rising : Option Addr} {sl__is_rising : Array (Option Value)} {oc__is_rising kV__is_rising dc__is_rising pm__is_rising cd__is_rising ct__is_rising : Value}
    {f__law_taken : Addr} {od__law_taken an__law_taken : Option Addr} {sl__law_taken : Array (Option Value)} {oc__law_taken kV__law_taken dc__law_taken pm__law_taken cd__law_taken ct__law_taken : Value}
    {f__law_wish : Addr} {od__law_wish an__law_wish : Option Addr} {sl__law_wish : Array (Option Value)} {oc__law_wish kV__law_wish dc__law_wish pm__law_wish cd__law_wish ct__law_wish : Value}
    {f__law_store : Addr} {od__law_store an__law_store : Option Addr} {sl__law_store : Array (Option Value)} {oc__law_store kV__law_store dc__law_store pm__law_store cd__law_store ct__law_store : Value}
    {f__law_made : Addr} {od__law_made an__law_made : Option Addr} {sl__law_made : Array (Option Value)} {oc__law_made kV__law_made dc__law_made pm__law_made cd__law_made ct__law_made : Value}
    {f__law_is_wish_right : Addr} {od__law_is_wish_right an__law_is_wish_right : Option Addr} {sl__law_is_wish_right : Array (Option Value)} {oc__law_is_wish_right kV__law_is_wish_right dc__law_is_wish_right pm__law_is_wish_right cd__law_is_wish_right ct__law_is_wish_right : Value}
    {f__law_is_step_right : Addr} {od__law_is_step_right an__law_is_step_right : Option Addr} {sl__law_is_step_right : Array (Option Value)} {oc__law_is_step_right kV__law_is_step_right dc__law_is_step_right pm__law_is_step_right cd__law_is_step_right ct__law_is_step_right : Value}
    {f_law : Addr} {od_law an_law : Option Addr} {sl_law : Array (Option Value)} {oc_law kV_law dc_law pm_law cd_law ct_law : Value}
    {t_MOST_SHELVES : Tok}
    {t_MOST_ROOM : Tok}
    {t_MOST_WISHES : Tok}
    {t_MOST_KEEP : Tok}
    {tKINDS0 : Tok}
    {tKINDS1 : Tok}
    {a_KINDS : Addr} {d_KINDS : Option Addr} {n_KINDS : Nat} {sl_KINDS : Array (Option Value)}
    {tSIDES0 : Tok}
    {tSIDES1 : Tok}
    {tSIDES2 : Tok}
    {a_SIDES : Addr} {d_SIDES : Option Addr} {n_SIDES : Nat} {sl_SIDES : Array (Option Value)}
    {a_SS : Addr} {d_SS : Option Addr} {n_SS : Nat} {sl_SS : Array (Option Value)} {b0 b1 b2 b3 b4 b5 b6 : Addr}
    {tS0_0 : Tok}
    {dS0 : Option Addr} {nS0 : Nat} {sS0 : Array (Option Value)}
    {tS1_0 : Tok}
    {tS1_1 : Tok}
    {dS1 : Option Addr} {nS1 : Nat} {sS1 : Array (Option Value)}
    {tS2_0 : Tok}
    {tS2_1 : Tok}
    {dS2 : Option Addr} {nS2 : Nat} {sS2 : Array (Option Value)}
    {tS3_0 : Tok}
    {tS3_1 : Tok}
    {dS3 : Option Addr} {nS3 : Nat} {sS3 : Array (Option Value)}
    {tS4_0 : Tok}
    {tS4_1 : Tok}
    {dS4 : Option Addr} {nS4 : Nat} {sS4 : Array (Option Value)}
    {tS5_0 : Tok}
    {tS5_1 : Tok}
    {dS5 : Option Addr} {nS5 : Nat} {sS5 : Array (Option Value)}
    {tS6_0 : Tok}
    {tS6_1 : Tok}
    {dS6 : Option Addr} {nS6 : Nat} {sS6 : Array (Option Value)}
    (aC : PySem.W.nsIn K mainGlobals "Store" = some (some (.ref C)))
    (a_begin : PySem.W.nsIn K mainGlobals "begin" = some (some (.ref f_begin)))
    (l_begin : K.lookup f_begin = some ⟨oc_begin, od_begin, .func (PySem.W.fnOf "begin" "begin" (defArgs s_begin) (defBody s_begin) (defScope s_begin) .none kV_begin dc_begin pm_begin an_begin cd_begin ct_begin), sl_begin⟩)
    (c_begin : PySem.W.codeIn K cd_begin "begin" = true)
    (k_begin : PySem.W.keepIn K (.ref f_begin) = true)
    (a_steps_at : PySem.W.nsIn K mainGlobals "steps_at" = some (some (.ref f_steps_at)))
    (l_steps_at : K.lookup f_steps_at = some ⟨oc_steps_at, od_steps_at, .func (PySem.W.fnOf "steps_at" "steps_at" (defArgs s_steps_at) (defBody s_steps_at) (defScope s_steps_at) .none kV_steps_at dc_steps_at pm_steps_at an_steps_at cd_steps_at ct_steps_at), sl_steps_at⟩)
    (c_steps_at : PySem.W.codeIn K cd_steps_at "steps_at" = true)
    (k_steps_at : PySem.W.keepIn K (.ref f_steps_at) = true)
    (a_played : PySem.W.nsIn K mainGlobals "played" = some (some (.ref f_played)))
    (l_played : K.lookup f_played = some ⟨oc_played, od_played, .func (PySem.W.fnOf "played" "played" (defArgs s_played) (defBody s_played) (defScope s_played) .none kV_played dc_played pm_played an_played cd_played ct_played), sl_played⟩)
    (c_played : PySem.W.codeIn K cd_played "played" = true)
    (k_played : PySem.W.keepIn K (.ref f_played) = true)
    (a_behind : PySem.W.nsIn K mainGlobals "behind" = some (some (.ref f_behind)))
    (l_behind : K.lookup f_behind = some ⟨oc_behind, od_behind, .func (PySem.W.fnOf "behind" "behind" (defArgs s_behind) (defBody s_behind) (defScope s_behind) .none kV_behind dc_behind pm_behind an_behind cd_behind ct_behind), sl_behind⟩)
    (c_behind : PySem.W.codeIn K cd_behind "behind" = true)
    (k_behind : PySem.W.keepIn K (.ref f_behind) = true)
    (a_refuse_no_steps : PySem.W.nsIn K mainGlobals "refuse_no_steps" = some (some (.ref f_refuse_no_steps)))
    (l_refuse_no_steps : K.lookup f_refuse_no_steps = some ⟨oc_refuse_no_steps, od_refuse_no_steps, .func (PySem.W.fnOf "refuse_no_steps" "refuse_no_steps" (defArgs s_refuse_no_steps) (defBody s_refuse_no_steps) (defScope s_refuse_no_steps) .none kV_refuse_no_steps dc_refuse_no_steps pm_refuse_no_steps an_refuse_no_steps cd_refuse_no_steps ct_refuse_no_steps), sl_refuse_no_steps⟩)
    (c_refuse_no_steps : PySem.W.codeIn K cd_refuse_no_steps "refuse_no_steps" = true)
    (k_refuse_no_steps : PySem.W.keepIn K (.ref f_refuse_no_steps) = true)
    (a__all_steps : PySem.W.nsIn K mainGlobals "_all_steps" = some (some (.ref f__all_steps)))
    (l__all_steps : K.lookup f__all_steps = some ⟨oc__all_steps, od__all_steps, .func (PySem.W.fnOf "_all_steps" "_all_steps" (defArgs s__all_steps) (defBody s__all_steps) (defScope s__all_steps) .none kV__all_steps dc__all_steps pm__all_steps an__all_steps cd__all_steps ct__all_steps), sl__all_steps⟩)
    (c__all_steps : PySem.W.codeIn K cd__all_steps "_all_steps" = true)
    (k__all_steps : PySem.W.keepIn K (.ref f__all_steps) = true)
    (a__bar : PySem.W.nsIn K mainGlobals "_bar" = some (some (.ref f__bar)))
    (l__bar : K.lookup f__bar = some ⟨oc__bar, od__bar, .func (PySem.W.fnOf "_bar" "_bar" (defArgs s__bar) (defBody s__bar) (defScope s__bar) .none kV__bar dc__bar pm__bar an__bar cd__bar ct__bar), sl__bar⟩)
    (c__bar : PySem.W.codeIn K cd__bar "_bar" = true)
    (k__bar : PySem.W.keepIn K (.ref f__bar) = true)
    (a__bar_of_shift : PySem.W.nsIn K mainGlobals "_bar_of_shift" = some (some (.ref f__bar_of_shift)))
    (l__bar_of_shift : K.lookup f__bar_of_shift = some ⟨oc__bar_of_shift, od__bar_of_shift, .func (PySem.W.fnOf "_bar_of_shift" "_bar_of_shift" (defArgs s__bar_of_shift) (defBody s__bar_of_shift) (defScope s__bar_of_shift) .none kV__bar_of_shift dc__bar_of_shift pm__bar_of_shift an__bar_of_shift cd__bar_of_shift ct__bar_of_shift), sl__bar_of_shift⟩)
    (c__bar_of_shift : PySem.W.codeIn K cd__bar_of_shift "_bar_of_shift" = true)
    (k__bar_of_shift : PySem.W.keepIn K (.ref f__bar_of_shift) = true)
    (a__bar_of_going_in : PySem.W.nsIn K mainGlobals "_bar_of_going_in" = some (some (.ref f__bar_of_going_in)))
    (l__bar_of_going_in : K.lookup f__bar_of_going_in = some ⟨oc__bar_of_going_in, od__bar_of_going_in, .func (PySem.W.fnOf "_bar_of_going_in" "_bar_of_going_in" (defArgs s__bar_of_going_in) (defBody s__bar_of_going_in) (defScope s__bar_of_going_in) .none kV__bar_of_going_in dc__bar_of_going_in pm__bar_of_going_in an__bar_of_going_in cd__bar_of_going_in ct__bar_of_going_in), sl__bar_of_going_in⟩)
    (c__bar_of_going_in : PySem.W.codeIn K cd__bar_of_going_in "_bar_of_going_in" = true)
    (k__bar_of_going_in : PySem.W.keepIn K (.ref f__bar_of_going_in) = true)
    (a__bar_of_going_out : PySem.W.nsIn K mainGlobals "_bar_of_going_out" = some (some (.ref f__bar_of_going_out)))
    (l__bar_of_going_out : K.lookup f__bar_of_going_out = some ⟨oc__bar_of_going_out, od__bar_of_going_out, .func (PySem.W.fnOf "_bar_of_going_out" "_bar_of_going_out" (defArgs s__bar_of_going_out) (defBody s__bar_of_going_out) (defScope s__bar_of_going_out) .none kV__bar_of_going_out dc__bar_of_going_out pm__bar_of_going_out an__bar_of_going_out cd__bar_of_going_out ct__bar_of_going_out), sl__bar_of_going_out⟩)
    (c__bar_of_going_out : PySem.W.codeIn K cd__bar_of_going_out "_bar_of_going_out" = true)
    (k__bar_of_going_out : PySem.W.keepIn K (.ref f__bar_of_going_out) = true)
    (a__bar_of_wish : PySem.W.nsIn K mainGlobals "_bar_of_wish" = some (some (.ref f__bar_of_wish)))
    (l__bar_of_wish : K.lookup f__bar_of_wish = some ⟨oc__bar_of_wish, od__bar_of_wish, .func (PySem.W.fnOf "_bar_of_wish" "_bar_of_wish" (defArgs s__bar_of_wish) (defBody s__bar_of_wish) (defScope s__bar_of_wish) .none kV__bar_of_wish dc__bar_of_wish pm__bar_of_wish an__bar_of_wish cd__bar_of_wish ct__bar_of_wish), sl__bar_of_wish⟩)
    (c__bar_of_wish : PySem.W.codeIn K cd__bar_of_wish "_bar_of_wish" = true)
    (k__bar_of_wish : PySem.W.keepIn K (.ref f__bar_of_wish) = true)
    (a__bar_of_load : PySem.W.nsIn K mainGlobals "_bar_of_load" = some (some (.ref f__bar_of_load)))
    (l__bar_of_load : K.lookup f__bar_of_load = some ⟨oc__bar_of_load, od__bar_of_load, .func (PySem.W.fnOf "_bar_of_load" "_bar_of_load" (defArgs s__bar_of_load) (defBody s__bar_of_load) (defScope s__bar_of_load) .none kV__bar_of_load dc__bar_of_load pm__bar_of_load an__bar_of_load cd__bar_of_load ct__bar_of_load), sl__bar_of_load⟩)
    (c__bar_of_load : PySem.W.codeIn K cd__bar_of_load "_bar_of_load" = true)
    (k__bar_of_load : PySem.W.keepIn K (.ref f__bar_of_load) = true)
    (a__is_beside : PySem.W.nsIn K mainGlobals "_is_beside" = some (some (.ref f__is_beside)))
    (l__is_beside : K.lookup f__is_beside = some ⟨oc__is_beside, od__is_beside, .func (PySem.W.fnOf "_is_beside" "_is_beside" (defArgs s__is_beside) (defBody s__is_beside) (defScope s__is_beside) .none kV__is_beside dc__is_beside pm__is_beside an__is_beside cd__is_beside ct__is_beside), sl__is_beside⟩)
    (c__is_beside : PySem.W.codeIn K cd__is_beside "_is_beside" = true)
    (k__is_beside : PySem.W.keepIn K (.ref f__is_beside) = true)
    (a__has_now : PySem.W.nsIn K mainGlobals "_has_now" = some (some (.ref f__has_now)))
    (l__has_now : K.lookup f__has_now = some ⟨oc__has_now, od__has_now, .func (PySem.W.fnOf "_has_now" "_has_now" (defArgs s__has_now) (defBody s__has_now) (defScope s__has_now) .none kV__has_now dc__has_now pm__has_now an__has_now cd__has_now ct__has_now), sl__has_now⟩)
    (c__has_now : PySem.W.codeIn K cd__has_now "_has_now" = true)
    (k__has_now : PySem.W.keepIn K (.ref f__has_now) = true)
    (a_Store___init__ : PySem.W.findIn K (.ref C) "__init__" = some (some (.ref f_Store___init__)))
    (i_Store___init__ : PySem.W.isFn K (.ref f_Store___init__) = true)
    (l_Store___init__ : K.lookup f_Store___init__ = some ⟨oc_Store___init__, od_Store___init__, .func (PySem.W.fnOf "__init__" "Store.__init__" (defArgs s_Store___init__) (defBody s_Store___init__) (defScope s_Store___init__) .none kV_Store___init__ dc_Store___init__ pm_Store___init__ an_Store___init__ cd_Store___init__ ct_Store___init__), sl_Store___init__⟩)
    (c_Store___init__ : PySem.W.codeIn K cd_Store___init__ "Store.__init__" = true)
    (k_Store___init__ : PySem.W.keepIn K (.ref f_Store___init__) = true)
    (a_Store_shelves : PySem.W.findIn K (.ref C) "shelves" = some (some (.ref f_Store_shelves)))
    (i_Store_shelves : PySem.W.isFn K (.ref f_Store_shelves) = true)
    (l_Store_shelves : K.lookup f_Store_shelves = some ⟨oc_Store_shelves, od_Store_shelves, .func (PySem.W.fnOf "shelves" "Store.shelves" (defArgs s_Store_shelves) (defBody s_Store_shelves) (defScope s_Store_shelves) .none kV_Store_shelves dc_Store_shelves pm_Store_shelves an_Store_shelves cd_Store_shelves ct_Store_shelves), sl_Store_shelves⟩)
    (c_Store_shelves : PySem.W.codeIn K cd_Store_shelves "Store.shelves" = true)
    (k_Store_shelves : PySem.W.keepIn K (.ref f_Store_shelves) = true)
    (a_Store_wishes : PySem.W.findIn K (.ref C) "wishes" = some (some (.ref f_Store_wishes)))
    (i_Store_wishes : PySem.W.isFn K (.ref f_Store_wishes) = true)
    (l_Store_wishes : K.lookup f_Store_wishes = some ⟨oc_Store_wishes, od_Store_wishes, .func (PySem.W.fnOf "wishes" "Store.wishes" (defArgs s_Store_wishes) (defBody s_Store_wishes) (defScope s_Store_wishes) .none kV_Store_wishes dc_Store_wishes pm_Store_wishes an_Store_wishes cd_Store_wishes ct_Store_wishes), sl_Store_wishes⟩)
    (c_Store_wishes : PySem.W.codeIn K cd_Store_wishes "Store.wishes" = true)
    (k_Store_wishes : PySem.W.keepIn K (.ref f_Store_wishes) = true)
    (a__refuse_no_store : PySem.W.nsIn K mainGlobals "_refuse_no_store" = some (some (.ref f__refuse_no_store)))
    (l__refuse_no_store : K.lookup f__refuse_no_store = some ⟨oc__refuse_no_store, od__refuse_no_store, .func (PySem.W.fnOf "_refuse_no_store" "_refuse_no_store" (defArgs s__refuse_no_store) (defBody s__refuse_no_store) (defScope s__refuse_no_store) .none kV__refuse_no_store dc__refuse_no_store pm__refuse_no_store an__refuse_no_store cd__refuse_no_store ct__refuse_no_store), sl__refuse_no_store⟩)
    (c__refuse_no_store : PySem.W.codeIn K cd__refuse_no_store "_refuse_no_store" = true)
    (k__refuse_no_store : PySem.W.keepIn K (.ref f__refuse_no_store) = true)
    (a__is_shelf : PySem.W.nsIn K mainGlobals "_is_shelf" = some (some (.ref f__is_shelf)))
    (l__is_shelf : K.lookup f__is_shelf = some ⟨oc__is_shelf, od__is_shelf, .func (PySem.W.fnOf "_is_shelf" "_is_shelf" (defArgs s__is_shelf) (defBody s__is_shelf) (defScope s__is_shelf) .none kV__is_shelf dc__is_shelf pm__is_shelf an__is_shelf cd__is_shelf ct__is_shelf), sl__is_shelf⟩)
    (c__is_shelf : PySem.W.codeIn K cd__is_shelf "_is_shelf" = true)
    (k__is_shelf : PySem.W.keepIn K (.ref f__is_shelf) = true)
    (a__is_wish : PySem.W.nsIn K mainGlobals "_is_wish" = some (some (.ref f__is_wish)))
    (l__is_wish : K.lookup f__is_wish = some ⟨oc__is_wish, od__is_wish, .func (PySem.W.fnOf "_is_wish" "_is_wish" (defArgs s__is_wish) (defBody s__is_wish) (defScope s__is_wish) .none kV__is_wish dc__is_wish pm__is_wish an__is_wish cd__is_wish ct__is_wish), sl__is_wish⟩)
    (c__is_wish : PySem.W.codeIn K cd__is_wish "_is_wish" = true)
    (k__is_wish : PySem.W.keepIn K (.ref f__is_wish) = true)
    (a__is_rising : PySem.W.nsIn K mainGlobals "_is_rising" = some (some (.ref f__is_rising)))
    (l__is_rising : K.lookup f__is_rising = some ⟨oc__is_rising, od__is_rising, .func (PySem.W.fnOf "_is_rising" "_is_rising" (defArgs s__is_rising) (defBody s__is_rising) (defScope s__is_rising) .none kV__is_rising dc__is_rising pm__is_rising an__is_rising cd__is_rising ct__is_rising), sl__is_rising⟩)
    (c__is_rising : PySem.W.codeIn K cd__is_rising "_is_rising" = true)
    (k__is_rising : PySem.W.keepIn K (.ref f__is_rising) = true)
    (a__law_taken : PySem.W.nsIn K mainGlobals "_law_taken" = some (some (.ref f__law_taken)))
    (l__law_taken : K.lookup f__law_taken = some ⟨oc__law_taken, od__law_taken, .func (PySem.W.fnOf "_law_taken" "_law_taken" (defArgs s__law_taken) (defBody s__law_taken) (defScope s__law_taken) .none kV__law_taken dc__law_taken pm__law_taken an__law_taken cd__law_taken ct__law_taken), sl__law_taken⟩)
    (c__law_taken : PySem.W.codeIn K cd__law_taken "_law_taken" = true)
    (k__law_taken : PySem.W.keepIn K (.ref f__law_taken) = true)
    (a__law_wish : PySem.W.nsIn K mainGlobals "_law_wish" = some (some (.ref f__law_wish)))
    (l__law_wish : K.lookup f__law_wish = some ⟨oc__law_wish, od__law_wish, .func (PySem.W.fnOf "_law_wish" "_law_wish" (defArgs s__law_wish) (defBody s__law_wish) (defScope s__law_wish) .none kV__law_wish dc__law_wish pm__law_wish an__law_wish cd__law_wish ct__law_wish), sl__law_wish⟩)
    (c__law_wish : PySem.W.codeIn K cd__law_wish "_law_wish" = true)
    (k__law_wish : PySem.W.keepIn K (.ref f__law_wish) = true)
    (a__law_store : PySem.W.nsIn K mainGlobals "_law_store" = some (some (.ref f__law_store)))
    (l__law_store : K.lookup f__law_store = some ⟨oc__law_store, od__law_store, .func (PySem.W.fnOf "_law_store" "_law_store" (defArgs s__law_store) (defBody s__law_store) (defScope s__law_store) .none kV__law_store dc__law_store pm__law_store an__law_store cd__law_store ct__law_store), sl__law_store⟩)
    (c__law_store : PySem.W.codeIn K cd__law_store "_law_store" = true)
    (k__law_store : PySem.W.keepIn K (.ref f__law_store) = true)
    (a__law_made : PySem.W.nsIn K mainGlobals "_law_made" = some (some (.ref f__law_made)))
    (l__law_made : K.lookup f__law_made = some ⟨oc__law_made, od__law_made, .func (PySem.W.fnOf "_law_made" "_law_made" (defArgs s__law_made) (defBody s__law_made) (defScope s__law_made) .none kV__law_made dc__law_made pm__law_made an__law_made cd__law_made ct__law_made), sl__law_made⟩)
    (c__law_made : PySem.W.codeIn K cd__law_made "_law_made" = true)
    (k__law_made : PySem.W.keepIn K (.ref f__law_made) = true)
    (a__law_is_wish_right : PySem.W.nsIn K mainGlobals "_law_is_wish_right" = some (some (.ref f__law_is_wish_right)))
    (l__law_is_wish_right : K.lookup f__law_is_wish_right = some ⟨oc__law_is_wish_right, od__law_is_wish_right, .func (PySem.W.fnOf "_law_is_wish_right" "_law_is_wish_right" (defArgs s__law_is_wish_right) (defBody s__law_is_wish_right) (defScope s__law_is_wish_right) .none kV__law_is_wish_right dc__law_is_wish_right pm__law_is_wish_right an__law_is_wish_right cd__law_is_wish_right ct__law_is_wish_right), sl__law_is_wish_right⟩)
    (c__law_is_wish_right : PySem.W.codeIn K cd__law_is_wish_right "_law_is_wish_right" = true)
    (k__law_is_wish_right : PySem.W.keepIn K (.ref f__law_is_wish_right) = true)
    (a__law_is_step_right : PySem.W.nsIn K mainGlobals "_law_is_step_right" = some (some (.ref f__law_is_step_right)))
    (l__law_is_step_right : K.lookup f__law_is_step_right = some ⟨oc__law_is_step_right, od__law_is_step_right, .func (PySem.W.fnOf "_law_is_step_right" "_law_is_step_right" (defArgs s__law_is_step_right) (defBody s__law_is_step_right) (defScope s__law_is_step_right) .none kV__law_is_step_right dc__law_is_step_right pm__law_is_step_right an__law_is_step_right cd__law_is_step_right ct__law_is_step_right), sl__law_is_step_right⟩)
    (c__law_is_step_right : PySem.W.codeIn K cd__law_is_step_right "_law_is_step_right" = true)
    (k__law_is_step_right : PySem.W.keepIn K (.ref f__law_is_step_right) = true)
    (a_law : PySem.W.nsIn K mainGlobals "law" = some (some (.ref f_law)))
    (l_law : K.lookup f_law = some ⟨oc_law, od_law, .func (PySem.W.fnOf "law" "law" (defArgs s_law) (defBody s_law) (defScope s_law) .none kV_law dc_law pm_law an_law cd_law ct_law), sl_law⟩)
    (c_law : PySem.W.codeIn K cd_law "law" = true)
    (k_law : PySem.W.keepIn K (.ref f_law) = true)
    (pgC : PySem.W.plainGet K C Str.empty = true)
    (hdC : PySem.W.hasDictIn K C = true)
    (poC : PySem.W.plainOver K C = true)
    (saC : PySem.W.findIn K (.ref C) "__setattr__" = some (some (.builtin "object.__setattr__")))
    (mkC : PySem.W.makesIn K C = true)
    (kcC : PySem.W.keepIn K (.ref C) = true)
    (nS : PySem.W.findIn K (.ref C) "_shelves" = some none)
    (nW : PySem.W.findIn K (.ref C) "_wishes" = some none)
    (nA : PySem.W.findIn K (.ref C) "aisle" = some none)
    (z_len : PySem.W.nsIn K mainGlobals "len" = some none)
    (z_list : PySem.W.nsIn K mainGlobals "list" = some none)
    (z_tuple : PySem.W.nsIn K mainGlobals "tuple" = some none)
    (z_sorted : PySem.W.nsIn K mainGlobals "sorted" = some none)
    (z_sum : PySem.W.nsIn K mainGlobals "sum" = some none)
    (z_min : PySem.W.nsIn K mainGlobals "min" = some none)
    (z_max : PySem.W.nsIn K mainGlobals "max" = some none)
    (z_int : PySem.W.nsIn K mainGlobals "int" = some none)
    (z_range : PySem.W.nsIn K mainGlobals "range" = some none)
    (z_enumerate : PySem.W.nsIn K mainGlobals "enumerate" = some none)
    (z_isinstance : PySem.W.nsIn K mainGlobals "isinstance" = some none)
    (z_ValueError : PySem.W.nsIn K mainGlobals "ValueError" = some none)
    (c_MOST_SHELVES : PySem.W.nsIn K mainGlobals "MOST_SHELVES" = some (some (.int 5 t_MOST_SHELVES)))
    (c_MOST_ROOM : PySem.W.nsIn K mainGlobals "MOST_ROOM" = some (some (.int 9 t_MOST_ROOM)))
    (c_MOST_WISHES : PySem.W.nsIn K mainGlobals "MOST_WISHES" = some (some (.int 5 t_MOST_WISHES)))
    (c_MOST_KEEP : PySem.W.nsIn K mainGlobals "MOST_KEEP" = some (some (.int 3 t_MOST_KEEP)))
    (g_KINDS : PySem.W.nsIn K mainGlobals "KINDS" = some (some (.ref a_KINDS)))
    (l_KINDS : K.lookup a_KINDS = some ⟨.type "tuple", d_KINDS, .seq #[.str "fetch" tKINDS0, .str "bring" tKINDS1] n_KINDS, sl_KINDS⟩)
    (g_SIDES : PySem.W.nsIn K mainGlobals "SIDES" = some (some (.ref a_SIDES)))
    (l_SIDES : K.lookup a_SIDES = some ⟨.type "tuple", d_SIDES, .seq #[.str "left" tSIDES0, .str "right" tSIDES1, .str "any" tSIDES2] n_SIDES, sl_SIDES⟩)
    (g_SS : PySem.W.nsIn K mainGlobals "STEPS_OF_ANY_STORE" = some (some (.ref a_SS)))
    (l_SS : K.lookup a_SS = some ⟨.type "tuple", d_SS, .seq #[.ref b0, .ref b1, .ref b2, .ref b3, .ref b4, .ref b5, .ref b6] n_SS, sl_SS⟩)
    (l_S0 : K.lookup b0 = some ⟨.type "tuple", dS0, .seq #[.str "wait" tS0_0] nS0, sS0⟩)
    (l_S1 : K.lookup b1 = some ⟨.type "tuple", dS1, .seq #[.str "shift" tS1_0, .int (-1) tS1_1] nS1, sS1⟩)
    (l_S2 : K.lookup b2 = some ⟨.type "tuple", dS2, .seq #[.str "shift" tS2_0, .int (1) tS2_1] nS2, sS2⟩)
    (l_S3 : K.lookup b3 = some ⟨.type "tuple", dS3, .seq #[.str "in" tS3_0, .int (0) tS3_1] nS3, sS3⟩)
    (l_S4 : K.lookup b4 = some ⟨.type "tuple", dS4, .seq #[.str "in" tS4_0, .int (1) tS4_1] nS4, sS4⟩)
    (l_S5 : K.lookup b5 = some ⟨.type "tuple", dS5, .seq #[.str "out" tS5_0, .int (0) tS5_1] nS5, sS5⟩)
    (l_S6 : K.lookup b6 = some ⟨.type "tuple", dS6, .seq #[.str "out" tS6_0, .int (1) tS6_1] nS6, sS6⟩)
    : ∃ fd : FuncData, (∀ (s : Shared) (v : Value), BindsTo s fd ⟨[v], []⟩ [("_law_script", v)]) ∧ ∀ base : Heap, K.In base → base.Ns mainGlobals mg → FnOk l.prog w K mg base CX0 8 fa fd ["_law_script"] (spLaw K) := by
  have e := hfa.symm.trans (PySem.W.mg_of X G a_law)
  cases e
  have F_begin := fun_mk (st := s_begin) l_begin c_begin k_begin
  have b_begin := F_begin.binds (ps := ["store"]) fun _ _ _ _ _ _ us hl => match us, hl with | [_], _ => rfl
  have D_begin : Dfs K mg "begin" s_begin ["store"] _ _ := ⟨F_begin, PySem.W.mg_of X G a_begin, b_begin⟩
  have F_steps_at := fun_mk (st := s_steps_at) l_steps_at c_steps_at k_steps_at
  have b_steps_at := F_steps_at.binds (ps := ["store", "state"]) fun _ _ _ _ _ _ us hl => match us, hl with | [_, _], _ => rfl
  have D_steps_at : Dfs K mg "steps_at" s_steps_at ["store", "state"] _ _ := ⟨F_steps_at, PySem.W.mg_of X G a_steps_at, b_steps_at⟩
  have F_played := fun_mk (st := s_played) l_played c_played k_played
  have b_played := F_played.binds (ps := ["store", "plan"]) fun _ _ _ _ _ _ us hl => match us, hl with | [_, _], _ => rfl
  have D_played : Dfs K mg "played" s_played ["store", "plan"] _ _ := ⟨F_played, PySem.W.mg_of X G a_played, b_played⟩
  have F_behind := fun_mk (st := s_behind) l_behind c_behind k_behind
  have b_behind := F_behind.binds (ps := ["store", "state", "step"]) fun _ _ _ _ _ _ us hl => match us, hl with | [_, _, _], _ => rfl
  have D_behind : Dfs K mg "behind" s_behind ["store", "state", "step"] _ _ := ⟨F_behind, PySem.W.mg_of X G a_behind, b_behind⟩
  have F_refuse_no_steps := fun_mk (st := s_refuse_no_steps) l_refuse_no_steps c_refuse_no_steps k_refuse_no_steps
  have b_refuse_no_steps := F_refuse_no_steps.binds (ps := ["store", "plan"]) fun _ _ _ _ _ _ us hl => match us, hl with | [_, _], _ => rfl
  have D_refuse_no_steps : Dfs K mg "refuse_no_steps" s_refuse_no_steps ["store", "plan"] _ _ := ⟨F_refuse_no_steps, PySem.W.mg_of X G a_refuse_no_steps, b_refuse_no_steps⟩
  have F__all_steps := fun_mk (st := s__all_steps) l__all_steps c__all_steps k__all_steps
  have b__all_steps := F__all_steps.binds (ps := ["store"]) fun _ _ _ _ _ _ us hl => match us, hl with | [_], _ => rfl
  have D__all_steps : Dfs K mg "_all_steps" s__all_steps ["store"] _ _ := ⟨F__all_steps, PySem.W.mg_of X G a__all_steps, b__all_steps⟩
  have F__bar := fun_mk (st := s__bar) l__bar c__bar k__bar
  have b__bar := F__bar.binds (ps := ["store", "state", "step"]) fun _ _ _ _ _ _ us hl => match us, hl with | [_, _, _], _ => rfl
  have D__bar : Dfs K mg "_bar" s__bar ["store", "state", "step"] _ _ := ⟨F__bar, PySem.W.mg_of X G a__bar, b__bar⟩
  have F__bar_of_shift := fun_mk (st := s__bar_of_shift) l__bar_of_shift c__bar_of_shift k__bar_of_shift
  have b__bar_of_shift := F__bar_of_shift.binds (ps := ["store", "state", "by"]) fun _ _ _ _ _ _ us hl => match us, hl with | [_, _, _], _ => rfl
  have D__bar_of_shift : Dfs K mg "_bar_of_shift" s__bar_of_shift ["store", "state", "by"] _ _ := ⟨F__bar_of_shift, PySem.W.mg_of X G a__bar_of_shift, b__bar_of_shift⟩
  have F__bar_of_going_in := fun_mk (st := s__bar_of_going_in) l__bar_of_going_in c__bar_of_going_in k__bar_of_going_in
  have b__bar_of_going_in := F__bar_of_going_in.binds (ps := ["state", "crew"]) fun _ _ _ _ _ _ us hl => match us, hl with | [_, _], _ => rfl
  have D__bar_of_going_in : Dfs K mg "_bar_of_going_in" s__bar_of_going_in ["state", "crew"] _ _ := ⟨F__bar_of_going_in, PySem.W.mg_of X G a__bar_of_going_in, b__bar_of_going_in⟩
  have F__bar_of_going_out := fun_mk (st := s__bar_of_going_out) l__bar_of_going_out c__bar_of_going_out k__bar_of_going_out
  have b__bar_of_going_out := F__bar_of_going_out.binds (ps := ["state", "crew"]) fun _ _ _ _ _ _ us hl => match us, hl with | [_, _], _ => rfl
  have D__bar_of_going_out : Dfs K mg "_bar_of_going_out" s__bar_of_going_out ["state", "crew"] _ _ := ⟨F__bar_of_going_out, PySem.W.mg_of X G a__bar_of_going_out, b__bar_of_going_out⟩
  have F__bar_of_wish := fun_mk (st := s__bar_of_wish) l__bar_of_wish c__bar_of_wish k__bar_of_wish
  have b__bar_of_wish := F__bar_of_wish.binds (ps := ["store", "state", "wish"]) fun _ _ _ _ _ _ us hl => match us, hl with | [_, _, _], _ => rfl
  have D__bar_of_wish : Dfs K mg "_bar_of_wish" s__bar_of_wish ["store", "state", "wish"] _ _ := ⟨F__bar_of_wish, PySem.W.mg_of X G a__bar_of_wish, b__bar_of_wish⟩
  have F__bar_of_load := fun_mk (st := s__bar_of_load) l__bar_of_load c__bar_of_load k__bar_of_load
  have b__bar_of_load := F__bar_of_load.binds (ps := ["store", "done", "kind", "shelf"]) fun _ _ _ _ _ _ us hl => match us, hl with | [_, _, _, _], _ => rfl
  have D__bar_of_load : Dfs K mg "_bar_of_load" s__bar_of_load ["store", "done", "kind", "shelf"] _ _ := ⟨F__bar_of_load, PySem.W.mg_of X G a__bar_of_load, b__bar_of_load⟩
  have F__is_beside := fun_mk (st := s__is_beside) l__is_beside c__is_beside k__is_beside
  have b__is_beside := F__is_beside.binds (ps := ["aisle", "shelf", "side"]) fun _ _ _ _ _ _ us hl => match us, hl with | [_, _, _], _ => rfl
  have D__is_beside : Dfs K mg "_is_beside" s__is_beside ["aisle", "shelf", "side"] _ _ := ⟨F__is_beside, PySem.W.mg_of X G a__is_beside, b__is_beside⟩
  have F__has_now := fun_mk (st := s__has_now) l__has_now c__has_now k__has_now
  have b__has_now := F__has_now.binds (ps := ["store", "done", "shelf"]) fun _ _ _ _ _ _ us hl => match us, hl with | [_, _, _], _ => rfl
  have D__has_now : Dfs K mg "_has_now" s__has_now ["store", "done", "shelf"] _ _ := ⟨F__has_now, PySem.W.mg_of X G a__has_now, b__has_now⟩
  have F_Store___init__ := fun_mk (st := s_Store___init__) l_Store___init__ c_Store___init__ k_Store___init__
  have b_Store___init__ := F_Store___init__.binds (ps := ["self", "shelves", "aisle", "wishes"]) fun _ _ _ _ _ _ us hl => match us, hl with | [_, _, _, _], _ => rfl
  have F_Store_shelves := fun_mk (st := s_Store_shelves) l_Store_shelves c_Store_shelves k_Store_shelves
  have b_Store_shelves := F_Store_shelves.binds (ps := ["self"]) fun _ _ _ _ _ _ us hl => match us, hl with | [_], _ => rfl
  have F_Store_wishes := fun_mk (st := s_Store_wishes) l_Store_wishes c_Store_wishes k_Store_wishes
  have b_Store_wishes := F_Store_wishes.binds (ps := ["self"]) fun _ _ _ _ _ _ us hl => match us, hl with | [_], _ => rfl
  have F__refuse_no_store := fun_mk (st := s__refuse_no_store) l__refuse_no_store c__refuse_no_store k__refuse_no_store
  have b__refuse_no_store := F__refuse_no_store.binds (ps := ["shelves", "aisle", "wishes"]) fun _ _ _ _ _ _ us hl => match us, hl with | [_, _, _], _ => rfl
  have D__refuse_no_store : Dfs K mg "_refuse_no_store" s__refuse_no_store ["shelves", "aisle", "wishes"] _ _ := ⟨F__refuse_no_store, PySem.W.mg_of X G a__refuse_no_store, b__refuse_no_store⟩
  have F__is_shelf := fun_mk (st := s__is_shelf) l__is_shelf c__is_shelf k__is_shelf
  have b__is_shelf := F__is_shelf.binds (ps := ["shelf"]) fun _ _ _ _ _ _ us hl => match us, hl with | [_], _ => rfl
  have D__is_shelf : Dfs K mg "_is_shelf" s__is_shelf ["shelf"] _ _ := ⟨F__is_shelf, PySem.W.mg_of X G a__is_shelf, b__is_shelf⟩
  have F__is_wish := fun_mk (st := s__is_wish) l__is_wish c__is_wish k__is_wish
  have b__is_wish := F__is_wish.binds (ps := ["wish", "many_shelves", "many_wishes"]) fun _ _ _ _ _ _ us hl => match us, hl with | [_, _, _], _ => rfl
  have D__is_wish : Dfs K mg "_is_wish" s__is_wish ["wish", "many_shelves", "many_wishes"] _ _ := ⟨F__is_wish, PySem.W.mg_of X G a__is_wish, b__is_wish⟩
  have F__is_rising := fun_mk (st := s__is_rising) l__is_rising c__is_rising k__is_rising
  have b__is_rising := F__is_rising.binds (ps := ["numbers", "many"]) fun _ _ _ _ _ _ us hl => match us, hl with | [_, _], _ => rfl
  have D__is_rising : Dfs K mg "_is_rising" s__is_rising ["numbers", "many"] _ _ := ⟨F__is_rising, PySem.W.mg_of X G a__is_rising, b__is_rising⟩
  have F__law_taken := fun_mk (st := s__law_taken) l__law_taken c__law_taken k__law_taken
  have b__law_taken := F__law_taken.binds (ps := ["_law_row", "_law_many"]) fun _ _ _ _ _ _ us hl => match us, hl with | [_, _], _ => rfl
  have D__law_taken : Dfs K mg "_law_taken" s__law_taken ["_law_row", "_law_many"] _ _ := ⟨F__law_taken, PySem.W.mg_of X G a__law_taken, b__law_taken⟩
  have F__law_wish := fun_mk (st := s__law_wish) l__law_wish c__law_wish k__law_wish
  have b__law_wish := F__law_wish.binds (ps := ["_law_row", "_law_shelves", "_law_many"]) fun _ _ _ _ _ _ us hl => match us, hl with | [_, _, _], _ => rfl
  have D__law_wish : Dfs K mg "_law_wish" s__law_wish ["_law_row", "_law_shelves", "_law_many"] _ _ := ⟨F__law_wish, PySem.W.mg_of X G a__law_wish, b__law_wish⟩
  have F__law_store := fun_mk (st := s__law_store) l__law_store c__law_store k__law_store
  have b__law_store := F__law_store.binds (ps := ["_law_row"]) fun _ _ _ _ _ _ us hl => match us, hl with | [_], _ => rfl
  have D__law_store : Dfs K mg "_law_store" s__law_store ["_law_row"] _ _ := ⟨F__law_store, PySem.W.mg_of X G a__law_store, b__law_store⟩
  have F__law_made := fun_mk (st := s__law_made) l__law_made c__law_made k__law_made
  have b__law_made := F__law_made.binds (ps := ["_law_store_here"]) fun _ _ _ _ _ _ us hl => match us, hl with | [_], _ => rfl
  have D__law_made : Dfs K mg "_law_made" s__law_made ["_law_store_here"] _ _ := ⟨F__law_made, PySem.W.mg_of X G a__law_made, b__law_made⟩
  have F__law_is_wish_right := fun_mk (st := s__law_is_wish_right) l__law_is_wish_right c__law_is_wish_right k__law_is_wish_right
  have b__law_is_wish_right := F__law_is_wish_right.binds (ps := ["_law_store_here", "_law_s", "_law_number"]) fun _ _ _ _ _ _ us hl => match us, hl with | [_, _, _], _ => rfl
  have D__law_is_wish_right : Dfs K mg "_law_is_wish_right" s__law_is_wish_right ["_law_store_here", "_law_s", "_law_number"] _ _ := ⟨F__law_is_wish_right, PySem.W.mg_of X G a__law_is_wish_right, b__law_is_wish_right⟩
  have F__law_is_step_right := fun_mk (st := s__law_is_step_right) l__law_is_step_right c__law_is_step_right k__law_is_step_right
  have b__law_is_step_right := F__law_is_step_right.binds (ps := ["_law_store_here", "_law_s", "_law_step"]) fun _ _ _ _ _ _ us hl => match us, hl with | [_, _, _], _ => rfl
  have D__law_is_step_right : Dfs K mg "_law_is_step_right" s__law_is_step_right ["_law_store_here", "_law_s", "_law_step"] _ _ := ⟨F__law_is_step_right, PySem.W.mg_of X G a__law_is_step_right, b__law_is_step_right⟩
  have F_law := fun_mk (st := s_law) l_law c_law k_law
  have b_law := F_law.binds (ps := ["_law_script"]) fun _ _ _ _ _ _ us hl => match us, hl with | [_], _ => rfl
  have D_law : Dfs K mg "law" s_law ["_law_script"] _ _ := ⟨F_law, PySem.W.mg_of X G a_law, b_law⟩
  have T : Tx K mg := ⟨PySem.W.mg_none_of X G z_len, PySem.W.mg_none_of X G z_list, PySem.W.mg_none_of X G z_tuple, PySem.W.mg_none_of X G z_sorted, PySem.W.mg_none_of X G z_sum, PySem.W.mg_none_of X G z_min, PySem.W.mg_none_of X G z_max, PySem.W.mg_none_of X G z_int, PySem.W.mg_none_of X G z_range, PySem.W.mg_none_of X G z_enumerate, PySem.W.mg_none_of X G z_isinstance, PySem.W.mg_none_of X G z_ValueError⟩
  have Tk : Tc K mg := ⟨⟨_, PySem.W.mg_of X G c_MOST_SHELVES⟩, ⟨_, PySem.W.mg_of X G c_MOST_ROOM⟩, ⟨_, PySem.W.mg_of X G c_MOST_WISHES⟩, ⟨_, PySem.W.mg_of X G c_MOST_KEEP⟩, ⟨_, PySem.W.mg_of X G g_KINDS, wr_tup (xs := [.str "fetch", .str "bring"]) l_KINDS (by simp) (.cons ⟨_, rfl⟩ (.cons ⟨_, rfl⟩ .nil))⟩, ⟨_, PySem.W.mg_of X G g_SIDES, wr_tup (xs := [.str "left", .str "right", .str "any"]) l_SIDES (by simp) (.cons ⟨_, rfl⟩ (.cons ⟨_, rfl⟩ (.cons ⟨_, rfl⟩ .nil)))⟩⟩
  have Tp : Ts K mg := ⟨⟨_, [.ref b0, .ref b1, .ref b2, .ref b3, .ref b4, .ref b5, .ref b6], PySem.W.mg_of X G g_SS, fun H => ⟨wr_tup (xs := [.ref b0, .ref b1, .ref b2, .ref b3, .ref b4, .ref b5, .ref b6]) l_SS (by simp) (.cons rfl (.cons rfl (.cons rfl (.cons rfl (.cons rfl (.cons rfl (.cons rfl .nil))))))) H, (.cons (pair1 (wr_tup (xs := [.str "wait"]) l_S0 (by simp) (.cons ⟨_, rfl⟩ .nil) H)) (.cons (two_dp (wr_tup (xs := [.str "shift", .int (-1)]) l_S1 (by simp) (.cons ⟨_, rfl⟩ (.cons ⟨_, rfl⟩ .nil)) H)) (.cons (two_dp (wr_tup (xs := [.str "shift", .int (1)]) l_S2 (by simp) (.cons ⟨_, rfl⟩ (.cons ⟨_, rfl⟩ .nil)) H)) (.cons (two_dp (wr_tup (xs := [.str "in", .int (0)]) l_S3 (by simp) (.cons ⟨_, rfl⟩ (.cons ⟨_, rfl⟩ .nil)) H)) (.cons (two_dp (wr_tup (xs := [.str "in", .int (1)]) l_S4 (by simp) (.cons ⟨_, rfl⟩ (.cons ⟨_, rfl⟩ .nil)) H)) (.cons (two_dp (wr_tup (xs := [.str "out", .int (0)]) l_S5 (by simp) (.cons ⟨_, rfl⟩ (.cons ⟨_, rfl⟩ .nil)) H)) (.cons (two_dp (wr_tup (xs := [.str "out", .int (1)]) l_S6 (by simp) (.cons ⟨_, rfl⟩ (.cons ⟨_, rfl⟩ .nil)) H)) .nil)))))))⟩⟩⟩
  have TS : TSx K mg C f_Store___init__ f_Store_shelves f_Store_wishes _ _ _ := ⟨⟨pgC, hdC, poC, saC⟩, ⟨mkC, a_Store___init__, i_Store___init__, kcC⟩, PySem.W.mg_of X G aC, nS, nW, nA, ⟨a_Store_shelves, i_Store_shelves, k_Store_shelves⟩, ⟨a_Store_wishes, i_Store_wishes, k_Store_wishes⟩, b_Store___init__, b_Store_shelves, b_Store_wishes⟩
  refine ⟨PySem.W.fnOf "law" "law" (defArgs s_law) (defBody s_law) (defScope s_law) .none kV_law dc_law pm_law an_law cd_law ct_law, fun s v => .of_eq rfl, fun base _ _ => ?_⟩
  have C__law_taken := ok__law_taken (P := l.prog) (w := w) (base := base) (D := D__law_taken) (T := T)
  have C__law_wish := ok__law_wish (P := l.prog) (w := w) (base := base) (D := D__law_wish) (T := T) (C__law_taken := C__law_taken)
  have C__law_store := ok__law_store (P := l.prog) (w := w) (base := base) (D := D__law_store) (T := T) (C__law_taken := C__law_taken) (C__law_wish := C__law_wish)
  have C__is_rising := ok__is_rising (P := l.prog) (w := w) (base := base) (D := D__is_rising)
  have C__is_shelf := ok__is_shelf (P := l.prog) (w := w) (base := base) (D := D__is_shelf) (T := T) (Tk := Tk)
  have C__is_wish := ok__is_wish (P := l.prog) (w := w) (base := base) (D := D__is_wish) (T := T) (Tk := Tk) (C__is_rising := C__is_rising)
  have C__refuse_no_store := ok__refuse_no_store (P := l.prog) (w := w) (base := base) (D := D__refuse_no_store) (T := T) (Tk := Tk) (C__is_shelf := C__is_shelf) (C__is_wish := C__is_wish)
  have G_init := ok_Store_init (P := l.prog) (w := w) (base := base) (F := F_Store___init__) (T := T) (TS := TS) (C__refuse_no_store := C__refuse_no_store)
  have G_shelves := ok_Store_shelves (P := l.prog) (w := w) (base := base) (F := F_Store_shelves) (T := T) (TS := TS)
  have G_wishes := ok_Store_wishes (P := l.prog) (w := w) (base := base) (F := F_Store_wishes) (T := T) (TS := TS)
  have C__law_made := ok__law_made (P := l.prog) (w := w) (base := base) (D := D__law_made) (T := T) (TS := TS) (G_init := G_init)
  have C_fetch := ok_fetch 
  have C_bring := ok_bring 
  have C_left := ok_left 
  have C_right := ok_right 
  have C_any := ok_any 
  have C__has_now := ok__has_now (P := l.prog) (w := w) (base := base) (D := D__has_now) (T := T) (TS := TS) (G_shelves := G_shelves) (G_wishes := G_wishes)
  have C__is_beside := ok__is_beside (P := l.prog) (w := w) (base := base) (D := D__is_beside)
  have C_wait := ok_wait 
  have C_shift := ok_shift 
  have C_in := ok_in 
  have C_out := ok_out 
  have C_do := ok_do 
  have C__bar_of_load := ok__bar_of_load (P := l.prog) (w := w) (base := base) (D := D__bar_of_load) (TS := TS) (G_shelves := G_shelves) (C__has_now := C__has_now)
  have C__bar_of_wish := ok__bar_of_wish (P := l.prog) (w := w) (base := base) (D := D__bar_of_wish) (TS := TS) (G_wishes := G_wishes) (C__bar_of_load := C__bar_of_load) (C__is_beside := C__is_beside)
  have C__bar_of_going_in := ok__bar_of_going_in (P := l.prog) (w := w) (base := base) (D := D__bar_of_going_in)
  have C__bar_of_going_out := ok__bar_of_going_out (P := l.prog) (w := w) (base := base) (D := D__bar_of_going_out)
  have C__bar_of_shift := ok__bar_of_shift (P := l.prog) (w := w) (base := base) (D := D__bar_of_shift) (T := T) (TS := TS) (G_shelves := G_shelves)
  have C__bar := ok__bar (P := l.prog) (w := w) (base := base) (D := D__bar) (C__bar_of_shift := C__bar_of_shift) (C__bar_of_going_in := C__bar_of_going_in) (C__bar_of_going_out := C__bar_of_going_out) (C__bar_of_wish := C__bar_of_wish)
  have C_begin := ok_begin (P := l.prog) (w := w) (base := base) (D := D_begin) (TS := TS)
  have C__all_steps := ok__all_steps (P := l.prog) (w := w) (base := base) (D := D__all_steps) (T := T) (Tp := Tp) (TS := TS) (G_wishes := G_wishes)
  have C_refuse_no_steps := ok_refuse_no_steps (P := l.prog) (w := w) (base := base) (D := D_refuse_no_steps) (C__all_steps := C__all_steps)
  have C_steps_at := ok_steps_at (P := l.prog) (w := w) (base := base) (D := D_steps_at) (C__all_steps := C__all_steps) (C__bar := C__bar)
  have C_end := ok_end 
  have C_sticks := ok_sticks 
  have C_kept := ok_kept 
  have C_is := ok_is 
  have C_isnt := ok_isnt 
  have C_done := ok_done 
  have C_after := ok_after 
  have C_crew := ok_crew 
  have C_aisle := ok_aisle 
  have C_empty := ok_empty 
  have C_full := ok_full 
  have C_behind := ok_behind (P := l.prog) (w := w) (base := base) (D := D_behind) (T := T) (TS := TS) (G_wishes := G_wishes)
  have C_played := ok_played (P := l.prog) (w := w) (base := base) (D := D_played) (T := T) (C_refuse_no_steps := C_refuse_no_steps) (C_begin := C_begin) (C__bar := C__bar) (C_behind := C_behind)
  have C__law_is_wish_right := ok__law_is_wish_right (P := l.prog) (w := w) (base := base) (D := D__law_is_wish_right) (T := T)
  have C__law_is_step_right := ok__law_is_step_right (P := l.prog) (w := w) (base := base) (D := D__law_is_step_right) (T := T) (C__law_is_wish_right := C__law_is_wish_right)
  exact ok_law (P := l.prog) (w := w) (base := base) (D := D_law) (T := T) (C__law_taken := C__law_taken) (C__law_store := C__law_store) (C__law_made := C__law_made) (C_begin := C_begin) (C_steps_at := C_steps_at) (C__law_is_step_right := C__law_is_step_right) (C_played := C_played)
end Ais
open PySem PySem.W PyProof.Rows
set_option maxRecDepth 100000 in
set_option maxHeartbeats 0 in
theorem PySem.Challenge.cw_aisleshift_k02_whole_nobody_is_shut_in_holds : PySem.Challenge.rw_aisleshift_k02_whole_nobody_is_shut_in.Holds := by
  w_on; o_law; k_head; (case hw => w_witness2)
  k_fill
  refine L2.walk_of (l := PySem.Challenge.rw_aisleshift_k02_whole_nobody_is_shut_in) (n := 63) (k := 8) (x := "_law_script") (CX := fun _ => L2.CX0) (sp := fun w => Ais.spLaw _) rfl (by decide) rfl ⟨rfl, by decide, by decide⟩ (fun w h Y => PySem.W.kIn_of Y) ?F (fun _ _ a ns hl _ hS => ⟨a, ns, rfl, hS, hl, fun _ => rfl⟩) (fun _ _ _ _ _ h => h)
  case F =>
    intro w mg fa h KX G hmg
    refine' Ais.all_mk KX G hmg ?aC ?a_begin ?l_begin ?c_begin ?k_begin ?a_steps_at ?l_steps_at ?c_steps_at ?k_steps_at ?a_played ?l_played ?c_played ?k_played ?a_behind ?l_behind ?c_behind ?k_behind ?a_refuse_no_steps ?l_refuse_no_steps ?c_refuse_no_steps ?k_refuse_no_steps ?a__all_steps ?l__all_steps ?c__all_steps ?k__all_steps ?a__bar ?l__bar ?c__bar ?k__bar ?a__bar_of_shift ?l__bar_of_shift ?c__bar_of_shift ?k__bar_of_shift ?a__bar_of_going_in ?l__bar_of_going_in ?c__bar_of_going_in ?k__bar_of_going_in ?a__bar_of_going_out ?l__bar_of_going_out ?c__bar_of_going_out ?k__bar_of_going_out ?a__bar_of_wish ?l__bar_of_wish ?c__bar_of_wish ?k__bar_of_wish ?a__bar_of_load ?l__bar_of_load ?c__bar_of_load ?k__bar_of_load ?a__is_beside ?l__is_beside ?c__is_beside ?k__is_beside ?a__has_now ?l__has_now ?c__has_now ?k__has_now ?a_Store___init__ ?i_Store___init__ ?l_Store___init__ ?c_Store___init__ ?k_Store___init__ ?a_Store_shelves ?i_Store_shelves ?l_Store_shelves ?c_Store_shelves ?k_Store_shelves ?a_Store_wishes ?i_Store_wishes ?l_Store_wishes ?c_Store_wishes ?k_Store_wishes ?a__refuse_no_store ?l__refuse_no_store ?c__refuse_no_store ?k__refuse_no_store ?a__is_shelf ?l__is_shelf ?c__is_shelf ?k__is_shelf ?a__is_wish ?l__is_wish ?c__is_wish ?k__is_wish ?a__is_rising ?l__is_rising ?c__is_rising ?k__is_rising ?a__law_taken ?l__law_taken ?c__law_taken ?k__law_taken ?a__law_wish ?l__law_wish ?c__law_wish ?k__law_wish ?a__law_store ?l__law_store ?c__law_store ?k__law_store ?a__law_made ?l__law_made ?c__law_made ?k__law_made ?a__law_is_wish_right ?l__law_is_wish_right ?c__law_is_wish_right ?k__law_is_wish_right ?a__law_is_step_right ?l__law_is_step_right ?c__law_is_step_right ?k__law_is_step_right ?a_law ?l_law ?c_law ?k_law ?pgC ?hdC ?poC ?saC ?mkC ?kcC ?nS ?nW ?nA ?z_len ?z_list ?z_tuple ?z_sorted ?z_sum ?z_min ?z_max ?z_int ?z_range ?z_enumerate ?z_isinstance ?z_ValueError ?c_MOST_SHELVES ?c_MOST_ROOM ?c_MOST_WISHES ?c_MOST_KEEP ?g_KINDS ?l_KINDS ?g_SIDES ?l_SIDES ?g_SS ?l_SS ?l_S0 ?l_S1 ?l_S2 ?l_S3 ?l_S4 ?l_S5 ?l_S6
    (case aC => k_is)
    (case a_begin => k_is)
    (case l_begin => k_is)
    (case c_begin => k_is)
    (case k_begin => k_is)
    (case a_steps_at => k_is)
    (case l_steps_at => k_is)
    (case c_steps_at => k_is)
    (case k_steps_at => k_is)
    (case a_played => k_is)
    (case l_played => k_is)
    (case c_played => k_is)
    (case k_played => k_is)
    (case a_behind => k_is)
    (case l_behind => k_is)
    (case c_behind => k_is)
    (case k_behind => k_is)
    (case a_refuse_no_steps => k_is)
    (case l_refuse_no_steps => k_is)
    (case c_refuse_no_steps => k_is)
    (case k_refuse_no_steps => k_is)
    (case a__all_steps => k_is)
    (case l__all_steps => k_is)
    (case c__all_steps => k_is)
    (case k__all_steps => k_is)
    (case a__bar => k_is)
    (case l__bar => k_is)
    (case c__bar => k_is)
    (case k__bar => k_is)
    (case a__bar_of_shift => k_is)
    (case l__bar_of_shift => k_is)
    (case c__bar_of_shift => k_is)
    (case k__bar_of_shift => k_is)
    (case a__bar_of_going_in => k_is)
    (case l__bar_of_going_in => k_is)
    (case c__bar_of_going_in => k_is)
    (case k__bar_of_going_in => k_is)
    (case a__bar_of_going_out => k_is)
    (case l__bar_of_going_out => k_is)
    (case c__bar_of_going_out => k_is)
    (case k__bar_of_going_out => k_is)
    (case a__bar_of_wish => k_is)
    (case l__bar_of_wish => k_is)
    (case c__bar_of_wish => k_is)
    (case k__bar_of_wish => k_is)
    (case a__bar_of_load => k_is)
    (case l__bar_of_load => k_is)
    (case c__bar_of_load => k_is)
    (case k__bar_of_load => k_is)
    (case a__is_beside => k_is)
    (case l__is_beside => k_is)
    (case c__is_beside => k_is)
    (case k__is_beside => k_is)
    (case a__has_now => k_is)
    (case l__has_now => k_is)
    (case c__has_now => k_is)
    (case k__has_now => k_is)
    (case a_Store___init__ => k_is)
    (case i_Store___init__ => k_is)
    (case l_Store___init__ => k_is)
    (case c_Store___init__ => k_is)
    (case k_Store___init__ => k_is)
    (case a_Store_shelves => k_is)
    (case i_Store_shelves => k_is)
    (case l_Store_shelves => k_is)
    (case c_Store_shelves => k_is)
    (case k_Store_shelves => k_is)
    (case a_Store_wishes => k_is)
    (case i_Store_wishes => k_is)
    (case l_Store_wishes => k_is)
    (case c_Store_wishes => k_is)
    (case k_Store_wishes => k_is)
    (case a__refuse_no_store => k_is)
    (case l__refuse_no_store => k_is)
    (case c__refuse_no_store => k_is)
    (case k__refuse_no_store => k_is)
    (case a__is_shelf => k_is)
    (case l__is_shelf => k_is)
    (case c__is_shelf => k_is)
    (case k__is_shelf => k_is)
    (case a__is_wish => k_is)
    (case l__is_wish => k_is)
    (case c__is_wish => k_is)
    (case k__is_wish => k_is)
    (case a__is_rising => k_is)
    (case l__is_rising => k_is)
    (case c__is_rising => k_is)
    (case k__is_rising => k_is)
    (case a__law_taken => k_is)
    (case l__law_taken => k_is)
    (case c__law_taken => k_is)
    (case k__law_taken => k_is)
    (case a__law_wish => k_is)
    (case l__law_wish => k_is)
    (case c__law_wish => k_is)
    (case k__law_wish => k_is)
    (case a__law_store => k_is)
    (case l__law_store => k_is)
    (case c__law_store => k_is)
    (case k__law_store => k_is)
    (case a__law_made => k_is)
    (case l__law_made => k_is)
    (case c__law_made => k_is)
    (case k__law_made => k_is)
    (case a__law_is_wish_right => k_is)
    (case l__law_is_wish_right => k_is)
    (case c__law_is_wish_right => k_is)
    (case k__law_is_wish_right => k_is)
    (case a__law_is_step_right => k_is)
    (case l__law_is_step_right => k_is)
    (case c__law_is_step_right => k_is)
    (case k__law_is_step_right => k_is)
    (case a_law => k_is)
    (case l_law => k_is)
    (case c_law => k_is)
    (case k_law => k_is)
    (case pgC => k_is)
    (case hdC => k_is)
    (case poC => k_is)
    (case saC => k_is)
    (case mkC => k_is)
    (case kcC => k_is)
    (case nS => k_is)
    (case nW => k_is)
    (case nA => k_is)
    (case z_len => k_is)
    (case z_list => k_is)
    (case z_tuple => k_is)
    (case z_sorted => k_is)
    (case z_sum => k_is)
    (case z_min => k_is)
    (case z_max => k_is)
    (case z_int => k_is)
    (case z_range => k_is)
    (case z_enumerate => k_is)
    (case z_isinstance => k_is)
    (case z_ValueError => k_is)
    (case c_MOST_SHELVES => k_is)
    (case c_MOST_ROOM => k_is)
    (case c_MOST_WISHES => k_is)
    (case c_MOST_KEEP => k_is)
    (case g_KINDS => k_is)
    (case l_KINDS => k_is)
    (case g_SIDES => k_is)
    (case l_SIDES => k_is)
    (case g_SS => k_is)
    (case l_SS => k_is)
    (case l_S0 => k_is)
    (case l_S1 => k_is)
    (case l_S2 => k_is)
    (case l_S3 => k_is)
    (case l_S4 => k_is)
    (case l_S5 => k_is)
    (case l_S6 => k_is)
#print axioms PySem.Challenge.cw_aisleshift_k02_whole_nobody_is_shut_in_holds
