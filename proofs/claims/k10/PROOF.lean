import PyProof.Rows.All
import Wide.All
import OpenK.AllK
import Wide.FinOn
import HandS.ForMost
import HandS.IsInst
import HandS.Deep
import HandS.TupAny
import HandS.Star
import HandS.Codes
import HandS.SetFor
import HandS.ExcInit
import HandS.ExcField
import HandS.WordsExc
import KE.KExcIs
import HandS.TupMul
import KE.GoesEnumKw
import HandS.SortKw
import HandS.FStr
import HandS.NoneIn
import PySem.Challenge.RW_aisleshift_k10_texts_of_none
set_option Elab.async false
set_option linter.all false
set_option maxRecDepth 100000
set_option maxHeartbeats 4000000
namespace Ais
open PySem PySem.Spec PyProof.Rows L2

/-- a def that keeps a promise, as its callers use it -/
structure Cal (P : Program) (w : World) (K : PySem.W.Frag) (mg : Str → Option Value) (base : Heap) (k : Nat) (x : Str) (ps : List Str) (sp : Sp) (f : Addr) (fd : FuncData) : Prop where
  G : FnOk P w K mg base CX0 k f fd ps sp
  g : mg x = some (.ref f)
  kp : PySem.W.keepIn K (.ref f) = true
  b : Binds K fd ps []
/-- a def as it stands in the text -/
structure Dfs (K : PySem.W.Frag) (mg : Str → Option Value) (x : Str) (st : Stmt) (ps : List Str) (f : Addr) (fd : FuncData) : Prop where
  F : Fun K x x st f fd
  g : mg x = some (.ref f)
  b : Binds K fd ps []
theorem Dfs.cal {P : Program} {w : World} {K : PySem.W.Frag} {mg : Str → Option Value} {base : Heap} {k : Nat} {x : Str} {ps : List Str} {sp : Sp} {f : Addr} {fd : FuncData} {st : Stmt} (D : Dfs K mg x st ps f fd) (G : FnOk P w K mg base CX0 k f fd ps sp) : Cal P w K mg base k x ps sp f fd := ⟨G, D.g, D.F.kp, D.b⟩

/-! ### heaps -/
theorem Same.new {B H : Hp} {p : Addr} {o : HO} (s : Same B H) (h : H p = none) : Same B (upd H p o) := fun b u e => by
  have e' := s b u e
  rw [upd_ne (ne_of_none e' h)]
  exact e'
theorem Same.grow {B H : Hp} {p : Addr} {o : HO} (s : Same B H) (h : H p = none) : Same (upd B p o) (upd H p o) := fun b u e => by
  by_cases hb : b = p
  · subst hb
    rw [upd_same] at e ⊢
    exact e
  · rw [upd_ne hb] at e ⊢
    exact s b u e
theorem Same.add {B H : Hp} {p : Addr} {o : HO} (s : Same B H) (h : H p = some o) : Same (upd B p o) H := fun b u e => by
  by_cases hb : b = p
  · subst hb
    rw [upd_same] at e
    rw [h]
    exact e
  · rw [upd_ne hb] at e
    exact s b u e
theorem Same.put {B H : Hp} {p : Addr} {o : HO} (s : Same B H) (h : B p = none) : Same B (upd H p o) := fun b u e => by
  rw [upd_ne (ne_of_none e h)]
  exact s b u e
theorem same_new {H : Hp} {p : Addr} {o : HO} (h : H p = none) : Same H (upd H p o) := Same.new (Same.refl H) h
theorem Same.rd {H H' : Hp} {a : Addr} {u : HO} (s : Same H H') (h : Rd H a u) : Rd H' a u := by
  rcases h with h | ⟨o, h⟩
  · exact .inl (s _ _ h)
  · exact .inr ⟨o, s _ _ h⟩
theorem Same.l {K : PySem.W.Frag} {H H' : Hp} {a : Addr} {xs : List V} (s : Same H H') (h : SqL K H a xs) : SqL K H' a xs := s.seq h
theorem Same.t {K : PySem.W.Frag} {H H' : Hp} {a : Addr} {xs : List V} (s : Same H H') (h : SqT K H a xs) : SqT K H' a xs := by
  rcases h with h | h
  · exact .inl (Same.rd s h)
  · exact .inr h
theorem tup_new {K : PySem.W.Frag} {H : Hp} {p : Addr} {xs : List V} : SqT K (upd H p (.tup xs)) p xs := SqT.of upd_same
theorem lst_new {K : PySem.W.Frag} {H : Hp} {p : Addr} {xs : List V} : SqL K (upd H p (.lst xs)) p xs := SqL.of upd_same

/-! ### data -/
mutual
theorem dp_mono {K : PySem.W.Frag} {H H' : Hp} (s : Same H H') : ∀ {v : V} {d : PyData}, Dp K H v d → Dp K H' v d
  | _, _, .non => .non
  | _, _, .bl b => .bl b
  | _, _, .int i => .int i
  | _, _, .str x => .str x
  | _, _, .lst h r => .lst (Same.l s h) (dps_mono s r)
  | _, _, .tup h r => .tup (Same.t s h) (dps_mono s r)
theorem dps_mono {K : PySem.W.Frag} {H H' : Hp} (s : Same H H') : ∀ {vs : List V} {ds : List PyData}, DpAll K H vs ds → DpAll K H' vs ds
  | _, _, .nil => .nil
  | _, _, .cons h r => .cons (dp_mono s h) (dps_mono s r)
end
section
variable {K : PySem.W.Frag} {H : Hp} {v : V} {vs : List V}
theorem dp_int {i : Int} (h : Dp K H v (.int i)) : v = .int i := by cases h; rfl
theorem dp_str {i : Str} (h : Dp K H v (.str i)) : v = .str i := by cases h; rfl
theorem dp_none (h : Dp K H v .none) : v = .non := by cases h; rfl
theorem dp_bool {b : Bool} (h : Dp K H v (.bool b)) : v = .bl b := by cases h; rfl
theorem dp_tup {ds : List PyData} (h : Dp K H v (.tuple ds)) : ∃ a xs, v = .ref a ∧ SqT K H a xs ∧ DpAll K H xs ds := by
  cases h with
  | tup a b => exact ⟨_, _, rfl, a, b⟩
theorem dp_lst {ds : List PyData} (h : Dp K H v (.list ds)) : ∃ a xs, v = .ref a ∧ SqL K H a xs ∧ DpAll K H xs ds := by
  cases h with
  | lst a b => exact ⟨_, _, rfl, a, b⟩
theorem dps_nil (h : DpAll K H vs []) : vs = [] := by cases h; rfl
theorem dps_cons {d : PyData} {ds : List PyData} (h : DpAll K H vs (d :: ds)) : ∃ x r, vs = x :: r ∧ Dp K H x d ∧ DpAll K H r ds := by
  cases h with
  | cons a b => exact ⟨_, _, rfl, a, b⟩
theorem dps_len {ds : List PyData} (h : DpAll K H vs ds) : vs.length = ds.length := by
  induction ds generalizing vs with
  | nil => rw [dps_nil h]; rfl
  | cons d ds ih =>
    obtain ⟨x, r, rfl, _, hr⟩ := dps_cons h
    rw [List.length_cons, List.length_cons, ih hr]
theorem dps_get {ds : List PyData} (h : DpAll K H vs ds) {i : Nat} {d : PyData} (e : ds[i]? = some d) : ∃ x, vs[i]? = some x ∧ Dp K H x d := by
  induction ds generalizing vs i with
  | nil => simp at e
  | cons d0 ds ih =>
    obtain ⟨x, r, rfl, h0, hr⟩ := dps_cons h
    cases i with
    | zero =>
      have e' : d0 = d := Option.some.inj e
      subst e'
      exact ⟨x, rfl, h0⟩
    | succ i => exact ih hr e
theorem dps_of_get {ds : List PyData} (h : DpAll K H vs ds) {i : Nat} {x : V} (e : vs[i]? = some x) : ∃ d, ds[i]? = some d ∧ Dp K H x d := by
  induction ds generalizing vs i with
  | nil =>
    rw [dps_nil h] at e
    simp at e
  | cons d0 ds ih =>
    obtain ⟨y, r, rfl, h0, hr⟩ := dps_cons h
    cases i with
    | zero =>
      have e' : y = x := Option.some.inj e
      subst e'
      exact ⟨d0, rfl, h0⟩
    | succ i => exact ih hr e
theorem dps_app {us : List V} {ds es : List PyData} (h : DpAll K H vs ds) (g : DpAll K H us es) : DpAll K H (vs ++ us) (ds ++ es) := by
  induction ds generalizing vs with
  | nil =>
    rw [dps_nil h]
    exact g
  | cons d ds ih =>
    obtain ⟨x, r, rfl, h0, hr⟩ := dps_cons h
    exact .cons h0 (ih hr)
theorem dps_take {ds : List PyData} (h : DpAll K H vs ds) (n : Nat) : DpAll K H (vs.take n) (ds.take n) := by
  induction ds generalizing vs n with
  | nil =>
    rw [dps_nil h]
    simp only [List.take_nil]
    exact .nil
  | cons d ds ih =>
    obtain ⟨x, r, rfl, h0, hr⟩ := dps_cons h
    cases n with
    | zero => exact .nil
    | succ n => exact .cons h0 (ih hr n)
end
def dints (l : List Int) : List PyData := l.map .int
theorem dps_ints {K : PySem.W.Frag} {H : Hp} {vs : List V} {l : List Int} (h : DpAll K H vs (dints l)) : vs = l.map V.int := by
  induction l generalizing vs with
  | nil => exact dps_nil h
  | cons i l ih =>
    obtain ⟨x, r, rfl, h0, hr⟩ := dps_cons h
    rw [dp_int h0, ih hr]
    rfl
theorem ints_dps {K : PySem.W.Frag} {H : Hp} : ∀ l : List Int, DpAll K H (l.map V.int) (dints l)
  | [] => .nil
  | i :: l => .cons (.int i) (ints_dps l)
theorem dp_ints {K : PySem.W.Frag} {H : Hp} {v : V} {l : List Int} (h : Dp K H v (.tuple (dints l))) : ∃ a, v = .ref a ∧ SqT K H a (l.map V.int) := by
  obtain ⟨a, xs, rfl, h1, h2⟩ := dp_tup h
  rw [dps_ints h2] at h1
  exact ⟨a, rfl, h1⟩

/-! ### rules with the written part named (within a comprehension the context is another one, over the same) -/
section
variable {X : Cx} {K : PySem.W.Frag}
theorem kix_list (h : X.K = K := by rfl) : IxR X (rIxL K) := by subst h; exact ix_list
theorem kix_tup (h : X.K = K := by rfl) : IxR X (rIxT K) := by subst h; exact ix_tup
theorem ksl_list (h : X.K = K := by rfl) : SlR X (rSlL K) := by subst h; exact sl_list
theorem ksl_tup (h : X.K = K := by rfl) : SlR X (rSlT K) := by subst h; exact sl_tup
theorem kin_seq (h : X.K = K := by rfl) : OpR X (compareOp .In) (rIn K false) := by subst h; exact op_in_seq
theorem knotIn_seq (h : X.K = K := by rfl) : OpR X (compareOp .NotIn) (rIn K true) := by subst h; exact op_notIn_seq
theorem keqD (hu : X.A.units + 64 < cLine) (h : X.K = K := by rfl) : OpR X (compareOp .Eq) (rEqD K) := by subst h; exact op_eqD hu
theorem kneD (hu : X.A.units + 64 < cLine) (h : X.K = K := by rfl) : OpR X (compareOp .NotEq) (rNeD K) := by subst h; exact op_neD hu
theorem kinD (hu : X.A.units + 65 < cLine) (h : X.K = K := by rfl) : OpR X (compareOp .In) (rInD K) := by subst h; exact op_inD hu
theorem knotInD (hu : X.A.units + 65 < cLine) (h : X.K = K := by rfl) : OpR X (compareOp .NotIn) (rNotInD K) := by subst h; exact op_notInD hu
theorem kcatA (h : X.K = K := by rfl) : OpR X (binaryOp .Add) (rCatA K) := by subst h; exact op_catA
def rLen (K : PySem.W.Frag) : List V → Hp → VK → Prop := fun xs H Q => ∃ p ys, xs = [.ref p] ∧ (SqL K H p ys ∨ SqT K H p ys) ∧ Q (.int ys.length) H
def rListOf (K : PySem.W.Frag) : List V → Hp → VK → Prop := fun xs H Q => ∃ p ys, xs = [.ref p] ∧ (SqL K H p ys ∨ SqT K H p ys) ∧ ∀ l, H l = none → Q (.ref l) (upd H l (.lst ys))
def rTupleOf (K : PySem.W.Frag) : List V → Hp → VK → Prop := fun xs H Q => ∃ p ys, xs = [.ref p] ∧ ((SqL K H p ys ∧ ∀ l, H l = none → Q (.ref l) (upd H l (.tup ys))) ∨ (SqT K H p ys ∧ Q (.ref p) H))
theorem klen (h : X.K = K := by rfl) : CallR X (.builtin "len") (rLen K) := by subst h; exact call_len_seq
theorem klist_of (h : X.K = K := by rfl) : CallR X (.type "list") (rListOf K) := by subst h; exact call_list_of
theorem ktuple_of (h : X.K = K := by rfl) : CallR X (.type "tuple") (rTupleOf K) := by subst h; exact call_tuple_of
theorem ksorted (h : X.K = K := by rfl) : CallR X (.builtin "sorted") (rSorted K) := by subst h; exact cr_sorted
theorem ksum (hc : X.calm = true) (h : X.K = K := by rfl) : CallR X (.builtin "sum") (rSum K) := by subst h; exact cr_sum hc
theorem kmin (hc : X.calm = true) (h : X.K = K := by rfl) : CallR X (.builtin "min") (rMin K) := by subst h; exact cr_min hc
theorem klcount (h : X.K = K := by rfl) : MtR X "list.count" (rCntI K) := by subst h; exact mt_lcount
theorem kisi (h : X.K = K := by rfl) : CallR X (.builtin "isinstance") (rIsi K) := by subst h; exact call_isi
end

/-! ### tests whose answer is known -/
section
variable {c A B : Prop} [Decidable c]
theorem itD (hc : c) (h : A) : if decide c = true then A else B := by rw [decide_eq_true hc]; exact iteT h
theorem itF (hc : ¬ c) (h : B) : if decide c = true then A else B := by rw [decide_eq_false hc]; exact iteF h
theorem itnF (hc : ¬ c) (h : A) : if (!decide c) = true then A else B := by rw [decide_eq_false hc]; exact iteT h
theorem itB {b : Bool} (hc : b = true) (h : A) : if b = true then A else B := by rw [hc]; exact iteT h
theorem itBf {b : Bool} (hc : b = false) (h : B) : if b = true then A else B := by rw [hc]; exact iteF h
theorem itnB {b : Bool} (hc : b = true) (h : B) : if (!b) = true then A else B := by rw [hc]; exact iteF h
theorem itnBf {b : Bool} (hc : b = false) (h : A) : if (!b) = true then A else B := by rw [hc]; exact iteT h
end
theorem inV_ints {x : Int} {l : List Int} : inV (.int x) (l.map V.int) = true ↔ x ∈ l := by
  induction l with
  | nil => exact ⟨fun h => absurd (show false = true from h) (by decide), fun h => absurd h (by simp)⟩
  | cons y l ih =>
    rw [List.map_cons, List.mem_cons]
    show (eqV (.int y) (.int x) || inV (.int x) (l.map V.int)) = true ↔ _
    rw [Bool.or_eq_true, ih]
    have e : eqV (.int y) (.int x) = true ↔ x = y := ⟨fun h => (of_decide_eq_true h).symm, fun h => decide_eq_true h.symm⟩
    rw [e]
theorem inV_strs {x : Str} {l : List Str} : inV (.str x) (l.map V.str) = true ↔ x ∈ l := by
  induction l with
  | nil => exact ⟨fun h => absurd (show false = true from h) (by decide), fun h => absurd h (by simp)⟩
  | cons y l ih =>
    rw [List.map_cons, List.mem_cons]
    show (eqV (.str y) (.str x) || inV (.str x) (l.map V.str)) = true ↔ _
    rw [Bool.or_eq_true, ih]
    have e : eqV (.str y) (.str x) = true ↔ x = y := ⟨fun h => (of_decide_eq_true h).symm, fun h => decide_eq_true h.symm⟩
    rw [e]
theorem flat_ints (l : List Int) : (l.map V.int).all flatV = true := by
  induction l with
  | nil => rfl
  | cons y l ih => rw [List.map_cons, List.all_cons, ih]; rfl
/-- for i, x in enumerate(xs) -/
theorem for_enum {K : PySem.W.Frag} {a : Addr} {xs : List V} {g : TG} {tb : TS} {D : Ends} {σ : L2.St} {H : Hp} (Pv : Nat → L2.St → Hp → Prop) (h0 : Pv 0 σ H) (hl : ∀ i σ H, i ≤ xs.length → Pv i σ H → SqL K H a xs)
    (hs : ∀ i x σ H p, xs[i]? = some x → Pv i σ H → H p = none → g (.ref p) σ (upd H p (.tup [.int (i : Nat), x])) fun σ2 H2 => tb { D with nx := Pv (i + 1), ct := Pv (i + 1), bk := D.nx } σ2 H2)
    (hd : ∀ σ H, Pv xs.length σ H → D.nx σ H) :
    ∃ W : Nat → Nat → L2.St → Hp → Prop, (∃ m, W 0 m σ H) ∧ ∀ i m σ H, W i m σ H →
      ((Ite K a).stop i H ∧ D.nx σ H) ∨ ((Ite K a).go i H ∧ ∃ N : L2.St → Hp → Prop, (∀ σ' H', N σ' H' → ∃ m', m' < m ∧ W (i + 1) m' σ' H') ∧
        ∀ x H', (Ite K a).yld i H x H' → g x σ H' fun σ2 H2 => tb { D with nx := N, ct := N, bk := D.nx } σ2 H2) := by
  refine ⟨fun i m σ H => m + i = xs.length ∧ Pv i σ H, ⟨xs.length, Nat.add_zero _, h0⟩, fun i m σ H ⟨em, hp⟩ => ?_⟩
  have hS := hl i σ H (by omega) hp
  cases m with
  | zero =>
    have e : i = xs.length := by omega
    subst e
    exact .inl ⟨⟨xs, hS, Nat.le_refl _⟩, hd σ H hp⟩
  | succ m =>
    have hi : i < xs.length := by omega
    have hx := List.getElem?_eq_getElem hi
    refine .inr ⟨⟨xs, _, hS, hx⟩, Pv (i + 1), fun σ' H' h => ⟨m, Nat.lt_succ_self m, by omega, h⟩, ?_⟩
    rintro x H' ⟨p, y, rfl, np, rfl, hy⟩
    exact hs i y σ H p (hy xs hS) hp np

/-! ### a chain of three comparisons -/
def tChain3 (r1 r2 r3 : R2) (ta tb tc td : TE) : TE := fun σ H Q => ta σ H fun x H1 => tb σ H1 fun y H2 => r1 x y H2 fun z H3 => ∃ k, z = .bl k ∧
  if k = true then tc σ H3 fun x2 H4 => r2 y x2 H4 fun z2 H5 => ∃ k2, z2 = .bl k2 ∧ (if k2 = true then td σ H5 fun x3 H6 => r3 x2 x3 H6 Q else Q (.bl false) H5) else Q (.bl false) H3
theorem pe_chain3 {X : Cx} {a b c d : Expr} {pos : Pos} {ta tb tc td : TE} {o1 o2 o3 : CmpOp} {r1 r2 r3 : R2} (h1 : OpR X (compareOp o1) r1) (h2 : OpR X (compareOp o2) r2) (h3 : OpR X (compareOp o3) r3)
    (pa : PE X a ta) (pb : PE X b tb) (pc : PE X c tc) (pd : PE X d td) (hm : lastMarks [o1, o2, o3] [b, c, d] = false := by with_unfolding_all rfl) :
    PE X (.Compare a [o1, o2, o3] [b, c, d] pos) (tChain3 r1 r2 r3 ta tb tc td) := by
  refine ⟨fun pins s σ H Q I h => Compare_chain ?_ hm⟩
  refine thn (pa.run pins s σ H _ I h) fun va sa ⟨x, Ha, Ia, ra, qa⟩ => chain_link ?_
  refine thn (pb.run pins sa σ Ha _ Ia qa) fun vb sb ⟨y, Hb, Ib, rb, qb⟩ => ?_
  refine thn (h1 pins sb σ Hb x y va vb _ Ib ra rb qb) fun v1 s1 ⟨z, Hz, Iz, rz, k, ez, qz⟩ => ?_
  subst ez
  cases rz
  refine wpAny_truthy_bool ?_
  cases k with
  | false => exact (if_neg Bool.false_ne_true).mpr ⟨.bl false, Hz, Iz, rfl, (if_neg Bool.false_ne_true).mp qz⟩
  | true =>
    refine (if_pos rfl).mpr (chain_link ?_)
    refine thn (pc.run pins s1 σ Hz _ Iz ((if_pos rfl).mp qz)) fun vc sc ⟨x2, Hc, Ic, rc, qc⟩ => ?_
    refine thn (h2 pins sc σ Hc y x2 vb vc _ Ic rb rc qc) fun v2 s2 ⟨z2, Hy, Iy, ry, k2, ey, qy⟩ => ?_
    subst ey
    cases ry
    refine wpAny_truthy_bool ?_
    cases k2 with
    | false => exact (if_neg Bool.false_ne_true).mpr ⟨.bl false, Hy, Iy, rfl, (if_neg Bool.false_ne_true).mp qy⟩
    | true =>
      refine (if_pos rfl).mpr (chain_last ?_)
      refine thn (pd.run pins s2 σ Hy _ Iy ((if_pos rfl).mp qy)) fun vd sd ⟨x3, Hd, Id, rd, qd⟩ => ?_
      exact h3 pins sd σ Hd x2 x3 vc vd Q Id rc rd qd
theorem tyx_tup {K : PySem.W.Frag} {H : Hp} {a : Addr} {xs : List V} (h : SqT K H a xs) : TyX K H (.ref a) (.type "tuple") := by
  rcases h with (h | ⟨o, h⟩) | ⟨o, its, n, h1, h2, _⟩
  · exact .base (.tup h)
  · exact .fTuple h
  · exact .kTuple h1 h2
theorem isi_tup {K : PySem.W.Frag} {H : Hp} {a : Addr} {xs : List V} {Q : VK} (h : SqT K H a xs) (q : Q (.bl true) H) : rIsi K [.ref a, .ty "tuple"] H Q :=
  ⟨_, _, _, _, true, rfl, .ty "tuple", tyx_tup h, kit_ty (by decide +kernel), q⟩

/-! ### small words -/
theorem nod {p : Prop} [Decidable p] (h : ¬ decide p = true) : ¬ p := fun z => h (decide_eq_true z)
theorem yed {p : Prop} [Decidable p] (h : decide p = true) : p := of_decide_eq_true h
theorem atI_mem {xs : List V} {z : Int} (h0 : 0 ≤ z) (h1 : z < xs.length) : ∃ v, atI xs z = some v ∧ xs[z.toNat]? = some v ∧ v ∈ xs := by
  have hl : z.toNat < xs.length := by omega
  have e := List.getElem?_eq_getElem hl
  exact ⟨xs[z.toNat], at_of (j := z.toNat) (by omega) e, e, List.getElem_mem hl⟩
theorem b2z (b : Bool) : (0 : Int) ≤ (if b = true then 1 else 0) ∧ (if b = true then (1 : Int) else 0) < 2 := by
  cases b
  · exact ⟨by decide, by decide⟩
  · exact ⟨by decide, by decide⟩
theorem small {n : Nat} (h : n ≤ 1000) : n ≤ sizeLine := Nat.le_of_lt (small1000 h)

/-! ### stores -/
structure Shelf where
  room : Int
  has : Int
  sticks : Int
structure Wish where
  kind : Str
  shelf : Int
  side : Str
  crew : Int
  keep : Int
  after : List Int
structure Sto where
  shelves : List Shelf
  aisle : Int
  wishes : List Wish
def Shelf.d (s : Shelf) : PyData := .tuple [.int s.room, .int s.has, .int s.sticks]
def Wish.d (w : Wish) : PyData := .tuple [.str w.kind, .int w.shelf, .str w.side, .int w.crew, .int w.keep, .tuple (dints w.after)]
def dshelves (l : List Shelf) : List PyData := l.map Shelf.d
def dwishes (l : List Wish) : List PyData := l.map Wish.d
def Sto.d (s : Sto) : PyData := .tuple [.list (dshelves s.shelves), .int s.aisle, .list (dwishes s.wishes)]
/-- numbers that rise, from lo to below n -/
def Rising : Int → Int → List Int → Prop
  | _, _, [] => True
  | lo, n, i :: r => lo ≤ i ∧ i < n ∧ Rising (i + 1) n r
structure ShelfOk (s : Shelf) : Prop where
  h0 : 0 ≤ s.has
  h1 : s.has ≤ s.room
  h2 : s.room ≤ 9
  st : s.sticks = 0 ∨ s.sticks = 1
structure WishOk (n m : Int) (w : Wish) : Prop where
  kind : w.kind = "fetch" ∨ w.kind = "bring"
  s0 : 0 ≤ w.shelf
  s1 : w.shelf < n
  side : w.side = "left" ∨ w.side = "right" ∨ w.side = "any"
  crew : w.crew = 0 ∨ w.crew = 1
  k0 : 0 ≤ w.keep
  k3 : w.keep ≤ 3
  after : Rising 0 m w.after
structure StoOk (s : Sto) : Prop where
  n1 : 1 ≤ s.shelves.length
  n5 : s.shelves.length ≤ 5
  sh : ∀ x ∈ s.shelves, ShelfOk x
  a0 : 0 ≤ s.aisle
  a1 : s.aisle ≤ s.shelves.length
  w5 : s.wishes.length ≤ 5
  ws : ∀ x ∈ s.wishes, WishOk s.shelves.length s.wishes.length x
theorem Rising.more {lo n m : Int} {l : List Int} (h : n ≤ m) : Rising lo n l → Rising lo m l := by
  induction l generalizing lo with
  | nil => exact fun _ => trivial
  | cons i r ih =>
    rintro ⟨h1, h2, h3⟩
    exact ⟨h1, by omega, ih h3⟩
theorem Rising.take {lo n : Int} {l : List Int} (k : Nat) (h : Rising lo n l) : Rising lo n (l.take k) := by
  induction l generalizing lo k with
  | nil => simpa using h
  | cons i r ih =>
    obtain ⟨h1, h2, h3⟩ := h
    cases k with
    | zero => trivial
    | succ k => exact ⟨h1, h2, ih k h3⟩
theorem Rising.snoc {lo n i : Int} {l : List Int} (h : Rising lo i l) (h0 : lo ≤ i) (h1 : i < n) : Rising lo n (l ++ [i]) := by
  induction l generalizing lo with
  | nil => exact ⟨h0, h1, trivial⟩
  | cons j r ih =>
    obtain ⟨a, b, c⟩ := h
    exact ⟨a, by omega, ih c (by omega)⟩
theorem Rising.mem {lo n : Int} {l : List Int} (h : Rising lo n l) {i : Int} (m : i ∈ l) : lo ≤ i ∧ i < n := by
  induction l generalizing lo with
  | nil => simp at m
  | cons j r ih =>
    obtain ⟨a, b, c⟩ := h
    rcases List.mem_cons.mp m with rfl | m
    · exact ⟨a, b⟩
    · have := ih c m
      omega
section
variable {K : PySem.W.Frag} {H : Hp} {v : V}
theorem shelf_at {s : Shelf} (h : Dp K H v s.d) : ∃ a, v = .ref a ∧ SqT K H a [.int s.room, .int s.has, .int s.sticks] := by
  obtain ⟨a, xs, rfl, h1, h2⟩ := dp_tup h
  obtain ⟨x, r, rfl, e1, h2⟩ := dps_cons h2
  obtain ⟨y, r, rfl, e2, h2⟩ := dps_cons h2
  obtain ⟨z, r, rfl, e3, h2⟩ := dps_cons h2
  obtain rfl := dps_nil h2
  rw [dp_int e1, dp_int e2, dp_int e3] at h1
  exact ⟨a, rfl, h1⟩
theorem at_shelf {s : Shelf} {a : Addr} (h : SqT K H a [.int s.room, .int s.has, .int s.sticks]) : Dp K H (.ref a) s.d := .tup h (.cons (.int _) (.cons (.int _) (.cons (.int _) .nil)))
theorem wish_at {s : Wish} (h : Dp K H v s.d) : ∃ a t, v = .ref a ∧ SqT K H a [.str s.kind, .int s.shelf, .str s.side, .int s.crew, .int s.keep, .ref t] ∧ SqT K H t (s.after.map V.int) := by
  obtain ⟨a, xs, rfl, h1, h2⟩ := dp_tup h
  obtain ⟨x, r, rfl, e1, k3⟩ := dps_cons h2
  obtain ⟨x, r, rfl, e2, k4⟩ := dps_cons k3
  obtain ⟨x, r, rfl, e3, k5⟩ := dps_cons k4
  obtain ⟨x, r, rfl, e4, k6⟩ := dps_cons k5
  obtain ⟨x, r, rfl, e5, k7⟩ := dps_cons k6
  obtain ⟨x, r, rfl, e6, k8⟩ := dps_cons k7
  obtain ⟨t, rfl, ht⟩ := dp_ints e6
  obtain rfl := dps_nil k8
  rw [dp_str e1, dp_int e2, dp_str e3, dp_int e4, dp_int e5] at h1
  exact ⟨a, t, rfl, h1, ht⟩
theorem at_wish {s : Wish} {a t : Addr} (h : SqT K H a [.str s.kind, .int s.shelf, .str s.side, .int s.crew, .int s.keep, .ref t]) (g : SqT K H t (s.after.map V.int)) : Dp K H (.ref a) s.d :=
  .tup h (.cons (.str _) (.cons (.int _) (.cons (.str _) (.cons (.int _) (.cons (.int _) (.cons (.tup g (ints_dps _)) .nil))))))
/-- a store's tuple -/
structure StoAt (K : PySem.W.Frag) (H : Hp) (a l m : Addr) (xs ys : List V) (s : Sto) : Prop where
  t : SqT K H a [.ref l, .int s.aisle, .ref m]
  l : SqL K H l xs
  dx : DpAll K H xs (dshelves s.shelves)
  m : SqL K H m ys
  dy : DpAll K H ys (dwishes s.wishes)
theorem StoAt.mono {H' : Hp} {a l m : Addr} {xs ys : List V} {s : Sto} (e : Same H H') (h : StoAt K H a l m xs ys s) : StoAt K H' a l m xs ys s := ⟨Same.t e h.t, Same.l e h.l, dps_mono e h.dx, Same.l e h.m, dps_mono e h.dy⟩
theorem sto_at {s : Sto} (h : Dp K H v s.d) : ∃ a l m xs ys, v = .ref a ∧ StoAt K H a l m xs ys s := by
  obtain ⟨a, xs, rfl, h1, h2⟩ := dp_tup h
  obtain ⟨x, r, rfl, e1, k3⟩ := dps_cons h2
  obtain ⟨y, r, rfl, e2, k4⟩ := dps_cons k3
  obtain ⟨z, r, rfl, e3, k5⟩ := dps_cons k4
  obtain ⟨l, xs, rfl, hl, dl⟩ := dp_lst e1
  obtain ⟨m, ys, rfl, hm, dm⟩ := dp_lst e3
  obtain rfl := dps_nil k5
  rw [dp_int e2] at h1
  exact ⟨a, l, m, xs, ys, rfl, h1, hl, dl, hm, dm⟩
theorem StoAt.d {a l m : Addr} {xs ys : List V} {s : Sto} (h : StoAt K H a l m xs ys s) : Dp K H (.ref a) s.d := .tup h.t (.cons (.lst h.l h.dx) (.cons (.int _) (.cons (.lst h.m h.dy) .nil)))
theorem StoAt.lx {a l m : Addr} {xs ys : List V} {s : Sto} (h : StoAt K H a l m xs ys s) : xs.length = s.shelves.length := by rw [dps_len h.dx]; exact List.length_map ..
theorem StoAt.ly {a l m : Addr} {xs ys : List V} {s : Sto} (h : StoAt K H a l m xs ys s) : ys.length = s.wishes.length := by rw [dps_len h.dy]; exact List.length_map ..
theorem shelf_get {xs : List V} {l : List Shelf} (h : DpAll K H xs (dshelves l)) {i : Nat} {s : Shelf} (e : l[i]? = some s) : ∃ a, xs[i]? = some (.ref a) ∧ SqT K H a [.int s.room, .int s.has, .int s.sticks] := by
  obtain ⟨x, h1, h2⟩ := dps_get h (i := i) (d := s.d) (by unfold dshelves; rw [List.getElem?_map, e]; rfl)
  obtain ⟨a, rfl, h3⟩ := shelf_at h2
  exact ⟨a, h1, h3⟩
theorem wish_get {xs : List V} {l : List Wish} (h : DpAll K H xs (dwishes l)) {i : Nat} {s : Wish} (e : l[i]? = some s) : ∃ a t, xs[i]? = some (.ref a) ∧ SqT K H a [.str s.kind, .int s.shelf, .str s.side, .int s.crew, .int s.keep, .ref t] ∧ SqT K H t (s.after.map V.int) := by
  obtain ⟨x, h1, h2⟩ := dps_get h (i := i) (d := s.d) (by unfold dwishes; rw [List.getElem?_map, e]; rfl)
  obtain ⟨a, t, rfl, h3, h4⟩ := wish_at h2
  exact ⟨a, t, h1, h3, h4⟩
end

/-! ### the row of draws: a list of the script and two numbers, which every draw changes. B: what is known besides -/
structure RowP where
  r : Addr
  a : Addr
  ns : List Int
structure RowSt (K : PySem.W.Frag) (ρ : RowP) (B H : Hp) : Prop where
  same : Same B H
  free : B ρ.r = none
  scr : SqL K B ρ.a (ρ.ns.map V.int)
  row : ∃ n1 n2 : Int, H ρ.r = some (.lst [.ref ρ.a, .int n1, .int n2]) ∧ 0 ≤ n1
section
variable {K : PySem.W.Frag} {ρ : RowP} {p : Addr} {B B' H : Hp} {o : HO}
theorem RowSt.nr (R : RowSt K ρ B H) (h : H p = none) : ρ.r ≠ p := by
  obtain ⟨n1, n2, e, _⟩ := R.row
  exact ne_of_none e h
/-- a new object -/
theorem RowSt.grow (R : RowSt K ρ B H) (h : H p = none) : RowSt K ρ (upd B p o) (upd H p o) := by
  obtain ⟨n1, n2, e, g⟩ := R.row
  have z := R.same.free h
  exact ⟨Same.grow R.same h, by rw [upd_ne (R.nr h)]; exact R.free, Same.l (same_new z) R.scr, n1, n2, by rw [upd_ne (R.nr h)]; exact e, g⟩
/-- a new object that B is not told of -/
theorem RowSt.new (R : RowSt K ρ B H) (h : H p = none) : RowSt K ρ B (upd H p o) := by
  obtain ⟨n1, n2, e, g⟩ := R.row
  exact ⟨Same.new R.same h, R.free, R.scr, n1, n2, by rw [upd_ne (R.nr h)]; exact e, g⟩
/-- B knows one more that stands -/
theorem RowSt.add (R : RowSt K ρ B H) (h : H p = some o) (hr : ρ.r ≠ p) (hb : B p = none) : RowSt K ρ (upd B p o) H := by
  obtain ⟨n1, n2, e, g⟩ := R.row
  exact ⟨Same.add R.same h, by rw [upd_ne hr]; exact R.free, Same.l (same_new hb) R.scr, n1, n2, e, g⟩
/-- what B does not know is changed -/
theorem RowSt.put (R : RowSt K ρ B H) (hr : ρ.r ≠ p) (hb : B p = none) : RowSt K ρ B (upd H p o) := by
  obtain ⟨n1, n2, e, g⟩ := R.row
  exact ⟨Same.put R.same hb, R.free, R.scr, n1, n2, by rw [upd_ne hr]; exact e, g⟩
/-- B is told less -/
theorem RowSt.less (R : RowSt K ρ B H) (s : Same B' B) (hl : SqL K B' ρ.a (ρ.ns.map V.int)) : RowSt K ρ B' H :=
  ⟨s.trans R.same, s.free R.free, hl, R.row⟩
end
/-- a def that hands back data, and leaves all as it was -/
def Ret (K : PySem.W.Frag) (H : Hp) (Q : VK) (d : PyData) : Prop := ∀ v H', Same H H' → Dp K H' v d → Q v H'
def spTaken (K : PySem.W.Frag) : Sp := fun vs H Q _ => ∃ (ρ : RowP) (m : Int) (B : Hp), vs = [.ref ρ.r, .int m] ∧ 0 < m ∧ RowSt K ρ B H ∧ ∀ z H', 0 ≤ z → z < m → RowSt K ρ B H' → Q (.int z) H'
end Ais
set_option Elab.async false
set_option linter.all false
set_option maxRecDepth 100000
set_option maxHeartbeats 4000000
namespace Ais
open PySem PySem.Spec PyProof.Rows L2
def topS (i : Nat) : Stmt := PySem.Challenge.pw_aisleshift_k10_texts_of_none.main.body.getD i (.Pass ⟨0, 0, 0, 0⟩)

/-! ## the drawing of numbers and stores -/
structure Tx (K : PySem.W.Frag) (mg : Str → Option Value) : Prop where
  n_len : mg "len" = none
  n_list : mg "list" = none
  n_tuple : mg "tuple" = none
  n_sorted : mg "sorted" = none
  n_sum : mg "sum" = none
  n_all : mg "all" = none
  n_str : mg "str" = none
  n_min : mg "min" = none
  n_max : mg "max" = none
  n_int : mg "int" = none
  n_range : mg "range" = none
  n_enumerate : mg "enumerate" = none
  n_isinstance : mg "isinstance" = none
  n_ValueError : mg "ValueError" = none
section
variable {P : Program} {w : World} {K : PySem.W.Frag} {mg : Str → Option Value} {base : Heap}
/-! _law_taken: 0 _law_row, 1 _law_many, 2 _law_cell -/
abbrev s__law_taken : Stmt := topS 29
abbrev N__law_taken : List Str := ["_law_row", "_law_many", "_law_cell"]
theorem sc__law_taken : FnScope N__law_taken ["_law_row", "_law_many"] (defScope s__law_taken) := ⟨rfl, rfl, rfl, by decide +kernel, rfl, by decide +kernel, by decide +kernel⟩
theorem ok__law_taken {f : Addr} {fd : FuncData} (D : Dfs K mg "_law_taken" s__law_taken ["_law_row", "_law_many"] f fd) (T : Tx K mg) : Cal P w K mg base 1 "_law_taken" ["_law_row", "_law_many"] (spTaken K) f fd := by
  refine D.cal (D.F.ok sc__law_taken (fun vs H Q E h => ?_) (fun cdv A outer s H vs Q E hr h => ?_))
  · obtain ⟨ρ, m, B, rfl, _⟩ := h
    rfl
  · obtain ⟨ρ, m, B, rfl, hm, R, q⟩ := h
    obtain ⟨n1, n2, hrow, hn1⟩ := R.row
    refine ⟨_, (pss_cons (ps_asg (pe_op op_add (pe_ix (kix_list (K := K)) (pv 0) pe_int (fun _ _ => rfl)) pe_int) (pg_sub (pv 0) pe_int set_list))
      (pss_cons (ps_if (pt_cmpR op_gt (pe_ix (kix_list (K := K)) (pv 0) pe_int (fun _ _ => rfl)) (pe_callB (klen (K := K)) (by rfl) T.n_len (by decide +kernel) (pa_cons (pe_ix (kix_list (K := K)) (pv 0) pe_int (fun _ _ => rfl)) pa_nil)) (nomark _)) (pss_cons (ps_asg (pe_op op_mod (pe_op op_add (pe_op op_mul (pe_ix (kix_list (K := K)) (pv 0) pe_int (fun _ _ => rfl)) pe_int) pe_int) pe_int) (pg_sub (pv 0) pe_int set_list))
      (pss_one (ps_ret (pe_op op_mod (pe_op op_fdiv (pe_ix (kix_list (K := K)) (pv 0) pe_int (fun _ _ => rfl)) pe_int) (pv 1))))) pss_nil)
      (pss_cons (ps_set (i := 2) sc__law_taken.nd rfl (Or.inl rfl) (pe_ix (kix_list (K := K)) (pe_ix (kix_list (K := K)) (pv 0) pe_int (fun _ _ => rfl)) (pe_op op_sub (pe_ix (kix_list (K := K)) (pv 0) pe_int (fun _ _ => rfl)) pe_int) (fun _ _ => rfl)))
      (pss_cons (ps_asg (pe_op op_mod (pe_op op_add (pe_op op_add (pe_op op_mul (pe_ix (kix_list (K := K)) (pv 0) pe_int (fun _ _ => rfl)) pe_int) (pv 2)) pe_int) pe_int) (pg_sub (pv 0) pe_int set_list))
      (pss_one (ps_ret (pe_op op_mod (pv 2) (pv 1)))))))), ?_⟩
    -- row[1] = row[1] + 1
    refine ⟨_, rfl, ρ.r, _, 1, .int n1, rfl, rfl, SqL.of hrow, rfl, n1, 1, rfl, rfl, _, rfl, ρ.r, _, 1, 1, rfl, rfl, hrow, rfl, ?_⟩
    have R1 : RowSt K ρ B (upd H ρ.r (.lst [.ref ρ.a, .int (n1 + 1), .int n2])) := ⟨Same.put R.same R.free, R.free, R.scr, n1 + 1, n2, upd_same, by omega⟩
    -- if row[1] > len(row[0])
    refine ⟨_, rfl, ρ.r, _, 1, .int (n1 + 1), rfl, rfl, SqL.of upd_same, rfl, _, rfl, ρ.r, _, 0, .ref ρ.a, rfl, rfl, SqL.of upd_same, rfl, ρ.a, _, rfl, .inl (Same.l R1.same R1.scr), n1 + 1, _, rfl, rfl, _, rfl, ite2 (fun e => ?_) (fun e => ?_)⟩
    · -- the script is used up
      refine ⟨_, rfl, ρ.r, _, 2, .int n2, rfl, rfl, SqL.of upd_same, rfl, n2, 48271, rfl, rfl, .inr ⟨by decide, by decide⟩, _, 11, rfl, rfl, _, 2147483647, rfl, rfl, (by show (0 : Int) < 2147483647; decide), _, rfl, ρ.r, _, 2, 2, rfl, rfl, upd_same, rfl, ?_⟩
      have R2 : RowSt K ρ B (upd (upd H ρ.r (.lst [.ref ρ.a, .int (n1 + 1), .int n2])) ρ.r (.lst [.ref ρ.a, .int (n1 + 1), .int ((n2 * 48271 + 11) % 2147483647)])) := ⟨Same.put R1.same R.free, R.free, R.scr, n1 + 1, _, upd_same, by omega⟩
      refine ⟨_, rfl, ρ.r, _, 2, .int ((n2 * 48271 + 11) % 2147483647), rfl, rfl, SqL.of upd_same, rfl, _, 7, rfl, rfl, ⟨by decide, by decide⟩, _, rfl, _, m, rfl, rfl, hm, ?_⟩
      exact q _ _ (Int.emod_nonneg _ (by omega)) (Int.emod_lt_of_pos _ hm) R2
    · have hlt : n1 < (ρ.ns.map V.int).length := by
        have z := nod e
        omega
      have hat : atI (ρ.ns.map V.int) (n1 + 1 - 1) = some (.int (ρ.ns.getD n1.toNat 0)) := by
        have hl : n1.toNat < ρ.ns.length := by
          rw [List.length_map] at hlt
          omega
        refine at_of (j := n1.toNat) (by omega) ?_
        rw [List.getElem?_map, List.getElem?_eq_getElem hl]
        simp [List.getD, hl]
      refine ⟨_, rfl, ρ.r, _, 0, .ref ρ.a, rfl, rfl, SqL.of upd_same, rfl, _, rfl, ρ.r, _, 1, .int (n1 + 1), rfl, rfl, SqL.of upd_same, rfl, n1 + 1, 1, rfl, rfl, ρ.a, _, _, _, rfl, rfl, Same.l R1.same R1.scr, hat, ?_⟩
      generalize ρ.ns.getD n1.toNat 0 = cell
      refine ⟨_, rfl, ρ.r, _, 2, .int n2, rfl, rfl, SqL.of upd_same, rfl, n2, 48271, rfl, rfl, .inr ⟨by decide, by decide⟩, _, rfl, _, cell, rfl, rfl, _, 11, rfl, rfl, _, 2147483647, rfl, rfl, (by show (0 : Int) < 2147483647; decide), _, rfl, ρ.r, _, 2, 2, rfl, rfl, upd_same, rfl, ?_⟩
      have R2 : RowSt K ρ B (upd (upd H ρ.r (.lst [.ref ρ.a, .int (n1 + 1), .int n2])) ρ.r (.lst [.ref ρ.a, .int (n1 + 1), .int ((n2 * 48271 + cell + 11) % 2147483647)])) := ⟨Same.put R1.same R.free, R.free, R.scr, n1 + 1, _, upd_same, by omega⟩
      refine ⟨_, rfl, _, rfl, _, m, rfl, rfl, hm, ?_⟩
      exact q _ _ (Int.emod_nonneg _ (by omega)) (Int.emod_lt_of_pos _ hm) R2
end

section
variable {P : Program} {w : World} {K : PySem.W.Frag} {mg : Str → Option Value} {base : Heap}
def spWish (K : PySem.W.Frag) : Sp := fun vs H Q _ => ∃ (ρ : RowP) (n m : Int) (B : Hp), vs = [.ref ρ.r, .int n, .int m] ∧ 0 < n ∧ 0 ≤ m ∧ m ≤ 5 ∧ RowSt K ρ B H ∧
  ∀ v B' H' (x : Wish), Same B B' → RowSt K ρ B' H' → Dp K B' v x.d → WishOk n m x → Q v H'
/-! _law_wish: 0 _law_row, 1 _law_shelves, 2 _law_many, 3 _law_kind, 4 _law_side, 5 _law_after, 6 _law_k -/
abbrev s__law_wish : Stmt := topS 30
abbrev N__law_wish : List Str := ["_law_row", "_law_shelves", "_law_many", "_law_kind", "_law_side", "_law_after", "_law_k"]
theorem sc__law_wish : FnScope N__law_wish ["_law_row", "_law_shelves", "_law_many"] (defScope s__law_wish) := ⟨rfl, rfl, rfl, by decide +kernel, rfl, by decide +kernel, by decide +kernel⟩
theorem ok__law_wish {f f1 : Addr} {fd fd1 : FuncData} (D : Dfs K mg "_law_wish" s__law_wish ["_law_row", "_law_shelves", "_law_many"] f fd) (T : Tx K mg) (C__law_taken : Cal P w K mg base 1 "_law_taken" ["_law_row", "_law_many"] (spTaken K) f1 fd1) :
    Cal P w K mg base 2 "_law_wish" ["_law_row", "_law_shelves", "_law_many"] (spWish K) f fd := by
  refine D.cal (D.F.ok sc__law_wish (fun vs H Q E h => ?_) (fun cdv A outer s H vs Q E hr h => ?_))
  · obtain ⟨ρ, n, m, B, rfl, _⟩ := h
    rfl
  · obtain ⟨ρ, n, m, B, rfl, hn, hm, hm5, R, q⟩ := h
    refine ⟨_, (pss_cons (ps_set (i := 3) sc__law_wish.nd rfl (Or.inl rfl) (pe_ix (kix_list (K := K)) (pe_lst (pa_cons pe_str (pa_cons pe_str pa_nil))) (pe_call C__law_taken.G (hr.mono (by decide)) (by rfl) C__law_taken.g C__law_taken.kp C__law_taken.b .nil pass0 (pa_cons (pv 0) (pa_cons pe_int pa_nil))) (fun _ _ => rfl)))
      (pss_cons (ps_set (i := 4) sc__law_wish.nd rfl (Or.inl rfl) (pe_ix (kix_list (K := K)) (pe_lst (pa_cons pe_str (pa_cons pe_str (pa_cons pe_str (pa_cons pe_str pa_nil))))) (pe_call C__law_taken.G (hr.mono (by decide)) (by rfl) C__law_taken.g C__law_taken.kp C__law_taken.b .nil pass0 (pa_cons (pv 0) (pa_cons pe_int pa_nil))) (fun _ _ => rfl)))
      (pss_cons (ps_setLc (i := 5) (own := [("_law_k", 6)]) (g := gName 6) rfl sc__law_wish.nd rfl rfl (sw_true rfl rfl rfl (by decide +kernel)) (pi_range1 (by rfl) T.n_range (pa_cons (pv 2) pa_nil)) (blkOk_by (own := [("_law_k", 6)]) (N := N__law_wish) (sc := defScope s__law_wish) (by decide +kernel)) (fun _ _ _ _ _ => (pg_name (i := 6) sc__law_wish.nd rfl (Or.inl rfl))) (fun _ _ _ _ _ => (pts_one (pt_cmpR op_eq (pe_call C__law_taken.G (hr.mono (by decide)) (by rfl) C__law_taken.g C__law_taken.kp C__law_taken.b .nil pass0 (pa_cons (pv 0) (pa_cons (pe_ix (kix_list (K := K)) (pe_lst (pa_cons pe_int (pa_cons pe_int pa_nil))) (pe_callTy call_int1 (by rfl) T.n_int (by decide +kernel) (pa_cons (pe_cmpR op_eq (pv 6) pe_int (nomark _)) pa_nil)) (fun _ _ => rfl)) pa_nil))) pe_int (nomark _)))) (fun _ _ _ _ _ => (pv 6)))
      (C8.pss_cut (ps_if (pt_cmpR op_gt (pe_call C__law_taken.G (hr.mono (by decide)) (by rfl) C__law_taken.g C__law_taken.kp C__law_taken.b .nil pass0 (pa_cons (pv 0) (pa_cons pe_int pa_nil))) pe_int (nomark _)) (pss_one (ps_set (i := 5) sc__law_wish.nd rfl (Or.inl rfl) (pe_slice (ksl_list (K := K)) (pv 5) po_none (po_some pe_int)))) pss_nil)
      (pss_one (ps_ret (pe_tup (pa_cons (pv 3) (pa_cons (pe_call C__law_taken.G (hr.mono (by decide)) (by rfl) C__law_taken.g C__law_taken.kp C__law_taken.b .nil pass0 (pa_cons (pv 0) (pa_cons (pv 1) pa_nil))) (pa_cons (pv 4) (pa_cons (pe_call C__law_taken.G (hr.mono (by decide)) (by rfl) C__law_taken.g C__law_taken.kp C__law_taken.b .nil pass0 (pa_cons (pv 0) (pa_cons pe_int pa_nil))) (pa_cons (pe_ix (kix_list (K := K)) (pe_lst (pa_cons pe_int (pa_cons pe_int (pa_cons pe_int (pa_cons pe_int (pa_cons pe_int pa_nil)))))) (pe_call C__law_taken.G (hr.mono (by decide)) (by rfl) C__law_taken.g C__law_taken.kp C__law_taken.b .nil pass0 (pa_cons (pv 0) (pa_cons pe_int pa_nil))) (fun _ _ => rfl)) (pa_cons (pe_callTy (ktuple_of (K := K)) (by rfl) T.n_tuple (by decide +kernel) (pa_cons (pv 5) pa_nil)) pa_nil))))))))))))), ?_⟩
    -- kind
    refine ⟨small (by decide), fun p np => ⟨_, rfl, ρ, 2, upd B p _, rfl, by decide, R.grow np, fun z H1 z0 z1 R1 => ?_⟩⟩
    obtain ⟨v, hv, _, hmem⟩ := atI_mem (xs := [V.str "fetch", V.str "bring"]) z0 z1
    obtain ⟨kd, rfl, hkd⟩ : ∃ kd : Str, v = V.str kd ∧ (kd = "fetch" ∨ kd = "bring") := by
      rcases List.mem_cons.mp hmem with rfl | hmem
      · exact ⟨_, rfl, .inl rfl⟩
      · rcases List.mem_cons.mp hmem with rfl | hmem
        · exact ⟨_, rfl, .inr rfl⟩
        · simp at hmem
    refine ⟨p, _, z, _, rfl, rfl, SqL.of (R1.same _ _ upd_same), hv, ?_⟩
    have sB1 : Same B (upd B p (.lst [V.str "fetch", V.str "bring"])) := same_new (R.same.free np)
    generalize upd B p (.lst [V.str "fetch", V.str "bring"]) = B1 at R1 sB1
    -- side
    refine ⟨small (by decide), fun p2 np2 => ⟨_, rfl, ρ, 4, upd B1 p2 _, rfl, by decide, R1.grow np2, fun z2 H2 z20 z21 R2 => ?_⟩⟩
    obtain ⟨v, hv, _, hmem⟩ := atI_mem (xs := [V.str "any", V.str "any", V.str "left", V.str "right"]) z20 z21
    obtain ⟨sd, rfl, hsd⟩ : ∃ sd : Str, v = V.str sd ∧ (sd = "left" ∨ sd = "right" ∨ sd = "any") := by
      simp only [List.mem_cons, List.not_mem_nil, or_false] at hmem
      rcases hmem with rfl | rfl | rfl | rfl
      · exact ⟨_, rfl, .inr (.inr rfl)⟩
      · exact ⟨_, rfl, .inr (.inr rfl)⟩
      · exact ⟨_, rfl, .inl rfl⟩
      · exact ⟨_, rfl, .inr (.inl rfl)⟩
    refine ⟨p2, _, z2, _, rfl, rfl, SqL.of (R2.same _ _ upd_same), hv, ?_⟩
    have sB2 : Same B (upd B1 p2 (.lst [V.str "any", V.str "any", V.str "left", V.str "right"])) := sB1.trans (same_new (R1.same.free np2))
    generalize upd B1 p2 (.lst [V.str "any", V.str "any", V.str "left", V.str "right"]) = B2 at R2 sB2
    -- after = [..]
    refine ⟨_, rfl, m, rfl, by omega, by omega, fun D nD => lc_range (lo := 0) (n := m.toNat) (fun i H' => ∃ B', Same B2 B' ∧ RowSt K ρ B' H' ∧ B' D = none ∧ ∃ acc : List Int, H' D = some (.lst (acc.map V.int)) ∧ Rising 0 i acc ∧ acc.length ≤ i) ?_ ?_ ?_⟩
    · exact ⟨B2, Same.refl _, R2.new nD, R2.same.free nD, [], upd_same, trivial, Nat.le_refl _⟩
    · rintro i H3 hi ⟨B3, s3, R3, bD, acc, eD, ris, hlen⟩
      have hrD : ρ.r ≠ D := fun e => by
        obtain ⟨n1, n2, er, _⟩ := R2.row
        rw [e, nD] at er
        cases er
      refine ⟨rfl, ?_⟩
      have R4 := R3.add eD hrD bD
      -- [4, 3][int(k == 0)]
      refine ⟨_, rfl, small (by decide), fun p4 np4 => ⟨_, rfl, rfl, .inr ⟨_, rfl, ?_⟩⟩⟩
      have R5 := R4.grow (o := .lst [V.int 4, V.int 3]) np4
      obtain ⟨x0, x1⟩ := b2z (decide (V.int (0 + (i : Int)) = V.int 0))
      obtain ⟨v, hv, _, hmem⟩ := atI_mem (xs := [V.int 4, V.int 3]) x0 x1
      obtain ⟨c, rfl, hc⟩ : ∃ c : Int, v = V.int c ∧ 0 < c := by
        simp only [List.mem_cons, List.not_mem_nil, or_false] at hmem
        rcases hmem with rfl | rfl
        · exact ⟨_, rfl, by decide⟩
        · exact ⟨_, rfl, by decide⟩
      refine ⟨p4, _, _, _, rfl, rfl, SqL.of upd_same, hv, ρ, c, _, rfl, hc, R5, fun z5 H5 z50 z51 R6 => ?_⟩
      have eD5 : H5 D = some (.lst (acc.map V.int)) := R6.same _ _ (by
        have nDp : D ≠ p4 := ne_of_none eD np4
        rw [upd_ne nDp]
        exact upd_same)
      have sB : Same B3 (upd (upd B3 D (.lst (acc.map V.int))) p4 (.lst [V.int 4, V.int 3])) := (same_new bD).trans (same_new (R4.same.free np4))
      have R7 : RowSt K ρ B3 H5 := R6.less sB R3.scr
      refine ⟨rfl, _, rfl, ite2 (fun e => ?_) (fun e => ?_)⟩
      · refine ⟨_, rfl, _, eD5, Nat.lt_of_le_of_lt (by rw [List.length_map]; exact hlen) (small1000 (by omega)), B3, s3, R7.put hrD bD, bD, acc ++ [(i : Int)], ?_, ris.snoc (by omega) (by omega), by rw [List.length_append]; exact Nat.succ_le_succ hlen⟩
        rw [upd_same, List.map_append]
        show some (HO.lst (acc.map V.int ++ [V.int (0 + (i : Int))])) = _
        rw [Int.zero_add]
        rfl
      · exact ⟨B3, s3, R7, bD, acc, eD5, ris.more (by omega), Nat.le_succ_of_le hlen⟩
    · rintro H3 ⟨B3, s3, R3, bD, acc, eD, ris, hlen⟩
      have hrD : ρ.r ≠ D := fun e => by
        obtain ⟨n1, n2, er, _⟩ := R2.row
        rw [e, nD] at er
        cases er
      have ris' : Rising 0 m acc := ris.more (by omega)
      have R4 := R3.add eD hrD bD
      have sB4 : Same B (upd B3 D (.lst (acc.map V.int))) := (sB2.trans s3).trans (same_new bD)
      have lD : SqL K (upd B3 D (.lst (acc.map V.int))) D (acc.map V.int) := SqL.of upd_same
      generalize upd B3 D (.lst (acc.map V.int)) = B4 at R4 sB4 lD
      have hlen5 : acc.length ≤ 5 := by omega
      -- if taken(row, 8) > 0: after = after[:2]
      refine ⟨fun σ H' => ∃ (l : Addr) (acc : List Int) (B' : Hp), σ = [some (.ref ρ.r), some (.int n), some (.int m), some (.str kd), some (.str sd), some (.ref l), none] ∧ Same B B' ∧ RowSt K ρ B' H' ∧ SqL K B' l (acc.map V.int) ∧ Rising 0 m acc ∧ acc.length ≤ 5, ?_, ?_⟩
      · refine ⟨_, rfl, ρ, 8, B4, rfl, by decide, R4, fun z5 H5 z50 z51 R5 => ⟨z5, 0, rfl, rfl, _, rfl, ite2 (fun e => ?_) (fun e => ?_)⟩⟩
        · refine ⟨_, rfl, 2, rfl, D, _, rfl, Same.l R5.same lD, fun p5 np5 => ?_⟩
          refine ⟨p5, acc.take 2, upd B4 p5 (.lst ((acc.take 2).map V.int)), rfl, sB4.trans (same_new (R5.same.free np5)), ?_, SqL.of upd_same, ris'.take 2, ?_⟩
          · have e : cutV (acc.map V.int) none (some 2) = (acc.take 2).map V.int := by
              unfold cutV
              rw [HT.sIx_none, show HT.sIx (acc.map V.int).length (acc.map V.int).length (some 2) = min 2 (acc.map V.int).length from HT.sIx_nat _ _ 2]
              rw [List.drop_zero, List.map_take, Nat.sub_zero]
              by_cases h2 : 2 ≤ (acc.map V.int).length
              · rw [Nat.min_eq_left h2]
              · rw [Nat.min_eq_right (by omega), List.take_of_length_le (Nat.le_refl _), List.take_of_length_le (by omega)]
            rw [e]
            exact R5.grow np5
          · rw [List.length_take]
            omega
        · exact ⟨D, acc, B4, rfl, sB4, R5, lD, ris', hlen5⟩
      · rintro σ H5 ⟨l, acc, B5, rfl, sB5, R5, lD, ris, hl5⟩
        -- return (kind, taken(row, shelves), side, taken(row, 2), [0, 0, 1, 2, 3][taken(row, 5)], tuple(after))
        refine ⟨_, rfl, _, rfl, _, rfl, ρ, n, B5, rfl, hn, R5, fun zs H6 zs0 zs1 R6 => ⟨_, rfl, _, rfl, ρ, 2, B5, rfl, by decide, R6, fun zc H7 zc0 zc1 R7 => ⟨small (by decide), fun p7 np7 => ⟨_, rfl, ρ, 5, upd B5 p7 _, rfl, by decide, R7.grow np7, fun zk H8 zk0 zk1 R8 => ?_⟩⟩⟩⟩
        obtain ⟨v, hv, _, hmem⟩ := atI_mem (xs := [V.int 0, V.int 0, V.int 1, V.int 2, V.int 3]) zk0 zk1
        obtain ⟨kp, rfl, hk0, hk3⟩ : ∃ c : Int, v = V.int c ∧ 0 ≤ c ∧ c ≤ 3 := by
          simp only [List.mem_cons, List.not_mem_nil, or_false] at hmem
          rcases hmem with rfl | rfl | rfl | rfl | rfl <;> exact ⟨_, rfl, by decide, by decide⟩
        have sB8 := sB5.trans (same_new (o := .lst [V.int 0, V.int 0, V.int 1, V.int 2, V.int 3]) (R7.same.free np7))
        have l8 := Same.l (same_new (o := .lst [V.int 0, V.int 0, V.int 1, V.int 2, V.int 3]) (R7.same.free np7)) lD
        have e8 := R8.same _ _ upd_same
        generalize upd B5 p7 (.lst [V.int 0, V.int 0, V.int 1, V.int 2, V.int 3]) = B8 at R8 sB8 l8
        refine ⟨p7, _, zk, _, rfl, rfl, SqL.of e8, hv, _, rfl, l, _, rfl, .inl ⟨Same.l R8.same l8, fun pt npt => ?_⟩⟩
        have R9 := R8.grow (o := .tup (acc.map V.int)) npt
        have sB9 := sB8.trans (same_new (o := .tup (acc.map V.int)) (R8.same.free npt))
        refine ⟨small (by simp), fun pw npw => ?_⟩
        have R10 := R9.grow (o := .tup [.str kd, .int zs, .str sd, .int zc, .int kp, .ref pt]) npw
        have sB10 := sB9.trans (same_new (o := .tup [.str kd, .int zs, .str sd, .int zc, .int kp, .ref pt]) (R9.same.free npw))
        refine q _ _ _ ⟨kd, zs, sd, zc, kp, acc⟩ sB10 R10 (at_wish (t := pt) (SqT.of upd_same) (SqT.of ?_)) ⟨hkd, zs0, zs1, hsd, by dsimp only; omega, hk0, hk3, ris⟩
        have n1 : pt ≠ pw := ne_of_none upd_same npw
        rw [upd_ne n1]
        exact upd_same
end

/-- a list at l that grows beside the draws: its items stand in B, itself it doesn't -/
structure Acc (K : PySem.W.Frag) (ρ : RowP) (B0 B H : Hp) (l : Addr) (xs : List V) (ds : List PyData) : Prop where
  s : Same B0 B
  R : RowSt K ρ B H
  bl : B l = none
  el : H l = some (.lst xs)
  dx : DpAll K B xs ds
  nr : ρ.r ≠ l
def del1 (H : Hp) (a : Addr) : Hp := fun b => if b = a then none else H b
theorem del1_ne {H : Hp} {a b : Addr} (h : b ≠ a) : del1 H a b = H b := if_neg h
theorem del1_same {H : Hp} {a : Addr} : del1 H a a = none := if_pos rfl
theorem same_del {B B' : Hp} {l : Addr} (s : Same B B') (h : B l = none) : Same B (del1 B' l) := fun b o e => by
  rw [del1_ne (ne_of_none e h)]
  exact s b o e
theorem sqt_del {K : PySem.W.Frag} {B : Hp} {l a : Addr} {xs ys : List V} (e : B l = some (.lst xs)) (h : SqT K B a ys) : SqT K (del1 B l) a ys := by
  rcases h with (h | ⟨o, h⟩) | h
  · refine .inl (.inl ?_)
    rw [del1_ne (fun z => by rw [z, e] at h; cases h)]
    exact h
  · refine .inl (.inr ⟨o, ?_⟩)
    rw [del1_ne (fun z => by rw [z, e] at h; cases h)]
    exact h
  · exact .inr h
theorem wish_del {K : PySem.W.Frag} {B : Hp} {l : Addr} {xs : List V} {v : V} {x : Wish} (e : B l = some (.lst xs)) (h : Dp K B v x.d) : Dp K (del1 B l) v x.d := by
  obtain ⟨a, t, rfl, h1, h2⟩ := wish_at h
  exact at_wish (sqt_del e h1) (sqt_del e h2)
section
variable {K : PySem.W.Frag} {ρ : RowP} {B0 B B' H H' : Hp} {l p : Addr} {xs : List V} {ds : List PyData} {o : HO}
theorem Acc.now (A : Acc K ρ B0 B H l xs ds) : RowSt K ρ (upd B l (.lst xs)) H := A.R.add A.el A.nr A.bl
theorem Acc.back (A : Acc K ρ B0 B H l xs ds) (R : RowSt K ρ (upd B l (.lst xs)) H') : Acc K ρ B0 B H' l xs ds :=
  ⟨A.s, R.less (same_new A.bl) A.R.scr, A.bl, R.same _ _ upd_same, A.dx, A.nr⟩
theorem Acc.back2 (A : Acc K ρ B0 B H l xs ds) (s : Same (upd B l (.lst xs)) B') (R : RowSt K ρ B' H') : Acc K ρ B0 (del1 B' l) H' l xs ds := by
  have s1 : Same B (del1 B' l) := same_del ((same_new A.bl).trans s) A.bl
  exact ⟨A.s.trans s1, R.less (fun b o e => by
    by_cases hb : b = l
    · rw [hb, del1_same] at e
      cases e
    · rw [del1_ne hb] at e
      exact e) (Same.l s1 A.R.scr), del1_same, R.same _ _ (s _ _ upd_same), dps_mono s1 A.dx, A.nr⟩
theorem Acc.grow (A : Acc K ρ B0 B H l xs ds) (h : H p = none) : Acc K ρ B0 (upd B p o) (upd H p o) l xs ds := by
  have n : l ≠ p := ne_of_none A.el h
  have z := A.R.same.free h
  exact ⟨A.s.trans (same_new z), A.R.grow h, by rw [upd_ne n]; exact A.bl, by rw [upd_ne n]; exact A.el, dps_mono (same_new z) A.dx, A.nr⟩
theorem Acc.app {v : V} {d : PyData} (A : Acc K ρ B0 B H l xs ds) (h : Dp K B v d) : Acc K ρ B0 B (upd H l (.lst (xs ++ [v]))) l (xs ++ [v]) (ds ++ [d]) :=
  ⟨A.s, A.R.put A.nr A.bl, A.bl, upd_same, dps_app A.dx (.cons h .nil), A.nr⟩
theorem Acc.start (s : Same B0 B) (R : RowSt K ρ B H) (h : H l = none) : Acc K ρ B0 B (upd H l (.lst [])) l [] [] :=
  ⟨s, R.new h, R.same.free h, upd_same, .nil, R.nr h⟩
/-- it is finished: B may know it -/
theorem Acc.done (A : Acc K ρ B0 B H l xs ds) : RowSt K ρ (upd B l (.lst xs)) H ∧ Same B0 (upd B l (.lst xs)) ∧ SqL K (upd B l (.lst xs)) l xs ∧ DpAll K (upd B l (.lst xs)) xs ds :=
  ⟨A.now, A.s.trans (same_new A.bl), SqL.of upd_same, dps_mono (same_new A.bl) A.dx⟩
end
section
variable {P : Program} {w : World} {K : PySem.W.Frag} {mg : Str → Option Value} {base : Heap}
def spStore (K : PySem.W.Frag) : Sp := fun vs H Q _ => ∃ (ρ : RowP) (B : Hp), vs = [.ref ρ.r] ∧ RowSt K ρ B H ∧
  ∀ v B' H' (S : Sto), Same B B' → RowSt K ρ B' H' → Dp K B' v S.d → StoOk S → Q v H'
/-! _law_store: 0 _law_row, 1 _law_shelves, 2 _law_k, 3 _law_room, 4 _law_aisle, 5 _law_many, 6 _law_wishes -/
abbrev s__law_store : Stmt := topS 31
abbrev N__law_store : List Str := ["_law_row", "_law_shelves", "_law_k", "_law_room", "_law_aisle", "_law_many", "_law_wishes"]
theorem sc__law_store : FnScope N__law_store ["_law_row"] (defScope s__law_store) := ⟨rfl, rfl, rfl, by decide +kernel, rfl, by decide +kernel, by decide +kernel⟩
theorem ok__law_store {f f1 f2 : Addr} {fd fd1 fd2 : FuncData} (D : Dfs K mg "_law_store" s__law_store ["_law_row"] f fd) (T : Tx K mg) (C__law_taken : Cal P w K mg base 1 "_law_taken" ["_law_row", "_law_many"] (spTaken K) f1 fd1)
    (C__law_wish : Cal P w K mg base 2 "_law_wish" ["_law_row", "_law_shelves", "_law_many"] (spWish K) f2 fd2) :
    Cal P w K mg base 3 "_law_store" ["_law_row"] (spStore K) f fd := by
  refine D.cal (D.F.ok sc__law_store (fun vs H Q E h => ?_) (fun cdv A outer s H vs Q E hr h => ?_))
  · obtain ⟨ρ, B, rfl, _⟩ := h
    rfl
  · obtain ⟨ρ, B, rfl, R, q⟩ := h
    refine ⟨_, (pss_cons (ps_set (i := 1) sc__law_store.nd rfl (Or.inl rfl) (pe_lst pa_nil))
      (pss_cons (ps_for PassesOwn.never rfl (pi_range1 (by rfl) T.n_range (pa_cons (pe_op op_add pe_int (pe_call C__law_taken.G (hr.mono (by decide)) (by rfl) C__law_taken.g C__law_taken.kp C__law_taken.b .nil pass0 (pa_cons (pv 0) (pa_cons pe_int pa_nil)))) pa_nil)) (pg_name (i := 2) sc__law_store.nd rfl (Or.inl rfl)) (pss_cons (ps_set (i := 3) sc__law_store.nd rfl (Or.inl rfl) (pe_ix (kix_list (K := K)) (pe_lst (pa_cons (pe_op op_add pe_int (pe_call C__law_taken.G (hr.mono (by decide)) (by rfl) C__law_taken.g C__law_taken.kp C__law_taken.b .nil pass0 (pa_cons (pv 0) (pa_cons pe_int pa_nil)))) (pa_cons pe_int (pa_cons (pe_call C__law_taken.G (hr.mono (by decide)) (by rfl) C__law_taken.g C__law_taken.kp C__law_taken.b .nil pass0 (pa_cons (pv 0) (pa_cons pe_int pa_nil))) pa_nil)))) (pe_call C__law_taken.G (hr.mono (by decide)) (by rfl) C__law_taken.g C__law_taken.kp C__law_taken.b .nil pass0 (pa_cons (pv 0) (pa_cons pe_int pa_nil))) (fun _ _ => rfl)))
      (pss_one (ps_expr (pe_bm PySem.F.plainAttrs_list PySem.F.slot_list_append PySem.F.type_list_append mt_append (pv 1) (pa_cons (pe_tup (pa_cons (pv 3) (pa_cons (pe_call C__law_taken.G (hr.mono (by decide)) (by rfl) C__law_taken.g C__law_taken.kp C__law_taken.b .nil pass0 (pa_cons (pv 0) (pa_cons (pe_op op_add (pv 3) pe_int) pa_nil))) (pa_cons (pe_callTy call_int1 (by rfl) T.n_int (by decide +kernel) (pa_cons (pe_cmpR op_eq (pe_call C__law_taken.G (hr.mono (by decide)) (by rfl) C__law_taken.g C__law_taken.kp C__law_taken.b .nil pass0 (pa_cons (pv 0) (pa_cons pe_int pa_nil))) pe_int (nomark _)) pa_nil)) pa_nil)))) pa_nil))))))
      (pss_cons (ps_set (i := 4) sc__law_store.nd rfl (Or.inl rfl) (pe_call C__law_taken.G (hr.mono (by decide)) (by rfl) C__law_taken.g C__law_taken.kp C__law_taken.b .nil pass0 (pa_cons (pv 0) (pa_cons (pe_op op_add (pe_callB (klen (K := K)) (by rfl) T.n_len (by decide +kernel) (pa_cons (pv 1) pa_nil)) pe_int) pa_nil))))
      (pss_cons (ps_set (i := 5) sc__law_store.nd rfl (Or.inl rfl) (pe_ix (kix_list (K := K)) (pe_lst (pa_cons (pe_op op_add pe_int (pe_call C__law_taken.G (hr.mono (by decide)) (by rfl) C__law_taken.g C__law_taken.kp C__law_taken.b .nil pass0 (pa_cons (pv 0) (pa_cons pe_int pa_nil)))) (pa_cons (pe_call C__law_taken.G (hr.mono (by decide)) (by rfl) C__law_taken.g C__law_taken.kp C__law_taken.b .nil pass0 (pa_cons (pv 0) (pa_cons pe_int pa_nil))) pa_nil))) (pe_call C__law_taken.G (hr.mono (by decide)) (by rfl) C__law_taken.g C__law_taken.kp C__law_taken.b .nil pass0 (pa_cons (pv 0) (pa_cons pe_int pa_nil))) (fun _ _ => rfl)))
      (C8.pss_cut (ps_if (PW.pt (pw_and (pt_cmpR op_eq (pv 5) pe_int (nomark _)) (pw_and1 (pt_cmpR op_gt (pe_callB (klen (K := K)) (by rfl) T.n_len (by decide +kernel) (pa_cons (pv 1) pa_nil)) pe_int (nomark _))))) (pss_one (ps_set (i := 5) sc__law_store.nd rfl (Or.inl rfl) (pe_op op_add pe_int (pe_callTy call_int1 (by rfl) T.n_int (by decide +kernel) (pa_cons (pe_cmpR op_eq (pe_call C__law_taken.G (hr.mono (by decide)) (by rfl) C__law_taken.g C__law_taken.kp C__law_taken.b .nil pass0 (pa_cons (pv 0) (pa_cons pe_int pa_nil))) pe_int (nomark _)) pa_nil))))) pss_nil)
      (pss_cons (ps_set (i := 6) sc__law_store.nd rfl (Or.inl rfl) (pe_lst pa_nil))
      (pss_cons (ps_for PassesOwn.never rfl (pi_range1 (by rfl) T.n_range (pa_cons (pv 5) pa_nil)) (pg_name (i := 2) sc__law_store.nd rfl (Or.inl rfl)) (pss_one (ps_expr (pe_bm PySem.F.plainAttrs_list PySem.F.slot_list_append PySem.F.type_list_append mt_append (pv 6) (pa_cons (pe_call C__law_wish.G (hr.mono (by decide)) (by rfl) C__law_wish.g C__law_wish.kp C__law_wish.b .nil pass0 (pa_cons (pv 0) (pa_cons (pe_callB (klen (K := K)) (by rfl) T.n_len (by decide +kernel) (pa_cons (pv 1) pa_nil)) (pa_cons (pe_ix (kix_list (K := K)) (pe_lst (pa_cons (pv 2) (pa_cons (pv 5) pa_nil))) (pe_callTy call_int1 (by rfl) T.n_int (by decide +kernel) (pa_cons (pe_cmpR op_eq (pe_call C__law_taken.G (hr.mono (by decide)) (by rfl) C__law_taken.g C__law_taken.kp C__law_taken.b .nil pass0 (pa_cons (pv 0) (pa_cons pe_int pa_nil))) pe_int (nomark _)) pa_nil)) (fun _ _ => rfl)) pa_nil)))) pa_nil)))))
      (pss_one (ps_ret (pe_tup (pa_cons (pv 1) (pa_cons (pv 4) (pa_cons (pv 6) pa_nil))))))))))))), ?_⟩
    -- shelves = []
    refine ⟨small (by simp), fun l nl => ?_⟩
    have A0 : Acc K ρ B B (upd H l (.lst [])) l [] [] := Acc.start (Same.refl _) R nl
    -- for k in range(1 + taken(row, 5))
    refine ⟨_, rfl, ρ, 5, _, rfl, by decide, A0.now, fun z H1 z0 z1 R1 => ⟨1, z, rfl, rfl, _, rfl, by omega, by omega, ?_⟩⟩
    refine for_range (lo := 0) (n := (1 + z).toNat) (fun i σ H' => ∃ (B' : Hp) (xs : List V) (ss : List Shelf) (v2 v3 : Option V), σ = [some (.ref ρ.r), some (.ref l), v2, v3, none, none, none] ∧ Acc K ρ B B' H' l xs (dshelves ss) ∧ (∀ s ∈ ss, ShelfOk s) ∧ ss.length = i)
      ⟨B, [], [], none, none, rfl, A0.back R1, fun s h => absurd h (by simp), rfl⟩ ?_ ?_
    · rintro i σ H2 hi ⟨B2, xs, ss, v2, v3, rfl, A2, hss, hlen⟩
      -- room
      refine ⟨_, rfl, ρ, 3, _, rfl, by decide, A2.now, fun a H3 a0 a1 R3 => ⟨1, a, rfl, rfl, _, rfl, ρ, 10, _, rfl, by decide, R3, fun b H4 b0 b1 R4 => ⟨small (by simp), fun p np => ⟨_, rfl, ρ, 3, _, rfl, by decide, R4.grow np, fun c H5 c0 c1 R5 => ?_⟩⟩⟩⟩
      obtain ⟨v, hv, _, hmem⟩ := atI_mem (xs := [V.int (1 + a), V.int 9, V.int b]) c0 c1
      obtain ⟨room, rfl, hr0, hr9⟩ : ∃ c : Int, v = V.int c ∧ 0 ≤ c ∧ c ≤ 9 := by
        simp only [List.mem_cons, List.not_mem_nil, or_false] at hmem
        rcases hmem with rfl | rfl | rfl
        · exact ⟨_, rfl, by omega, by omega⟩
        · exact ⟨_, rfl, by omega, by omega⟩
        · exact ⟨_, rfl, by omega, by omega⟩
      refine ⟨p, _, c, _, rfl, rfl, SqL.of (R5.same _ _ upd_same), hv, ?_⟩
      have n1 : B2 p = none := (A2.back R4).R.same.free np
      have A5 : Acc K ρ B B2 H5 l xs (dshelves ss) := A2.back (R5.less (same_new (R4.same.free np)) A2.now.scr)
      -- shelves.append((room, taken(row, room + 1), int(taken(row, 9) == 8)))
      refine ⟨_, rfl, .inl ⟨rfl, _, SqL.of A5.el⟩, _, rfl, _, rfl, _, rfl, room, 1, rfl, rfl, ρ, room + 1, _, rfl, by omega, A5.now, fun h H6 h0 h1 R6 => ⟨_, rfl, ρ, 9, _, rfl, by decide, R6, fun t H7 t0 t1 R7 => ⟨rfl, .inr ⟨_, rfl, small (by simp), fun p2 np2 => ?_⟩⟩⟩⟩
      have hst : (if decide (V.int t = V.int 8) = true then (1 : Int) else 0) = 0 ∨ (if decide (V.int t = V.int 8) = true then (1 : Int) else 0) = 1 := by
        split
        · exact .inr rfl
        · exact .inl rfl
      generalize (if decide (V.int t = V.int 8) = true then (1 : Int) else 0) = st at hst
      have A7 := (A5.back R7).grow (o := .tup [.int room, .int h, .int st]) np2
      have A8 := A7.app (v := .ref p2) (d := Shelf.d ⟨room, h, st⟩) (at_shelf (SqT.of upd_same))
      refine ⟨l, xs, _, rfl, rfl, A7.el, ?_, ?_⟩
      · have e := dps_len A7.dx
        have e2 : (dshelves ss).length = ss.length := List.length_map ..
        exact small1000 (by omega)
      · refine ⟨upd B2 p2 (.tup [.int room, .int h, .int st]), xs ++ [.ref p2], ss ++ [⟨room, h, st⟩], _, _, rfl, ?_, ?_, by rw [List.length_append]; exact congrArg (· + 1) hlen⟩
        · have e : dshelves (ss ++ [⟨room, h, st⟩]) = dshelves ss ++ [Shelf.d ⟨room, h, st⟩] := List.map_append ..
          rw [e]
          exact A8
        · intro x hx
          rcases List.mem_append.mp hx with hx | hx
          · exact hss x hx
          · rw [List.mem_singleton] at hx
            subst hx
            exact ⟨h0, by dsimp only; omega, hr9, hst⟩
    · rintro σ H2 ⟨B2, xs, ss, v2, v3, rfl, A2, hss, hlen⟩
      have hxl : xs.length = ss.length := (dps_len A2.dx).trans (List.length_map ..)
      -- aisle = taken(row, len(shelves) + 1)
      refine ⟨_, rfl, _, rfl, l, xs, rfl, .inl (SqL.of A2.el), _, 1, rfl, rfl, ρ, _, _, rfl, by omega, A2.now, fun ai H3 ai0 ai1 R3 => ?_⟩
      -- many = [1 + taken(row, 3), taken(row, 6)][taken(row, 2)]
      refine ⟨_, rfl, ρ, 3, _, rfl, by decide, R3, fun a H4 a0 a1 R4 => ⟨1, a, rfl, rfl, _, rfl, ρ, 6, _, rfl, by decide, R4, fun b H5 b0 b1 R5 => ⟨small (by simp), fun p np => ⟨_, rfl, ρ, 2, _, rfl, by decide, R5.grow np, fun c H6 c0 c1 R6 => ?_⟩⟩⟩⟩
      obtain ⟨v, hv, _, hmem⟩ := atI_mem (xs := [V.int (1 + a), V.int b]) c0 c1
      obtain ⟨many, rfl, hm0, hm5⟩ : ∃ c : Int, v = V.int c ∧ 0 ≤ c ∧ c ≤ 5 := by
        simp only [List.mem_cons, List.not_mem_nil, or_false] at hmem
        rcases hmem with rfl | rfl
        · exact ⟨_, rfl, by omega, by omega⟩
        · exact ⟨_, rfl, by omega, by omega⟩
      refine ⟨p, _, c, _, rfl, rfl, SqL.of (R6.same _ _ upd_same), hv, ?_⟩
      have A6 : Acc K ρ B B2 H6 l xs (dshelves ss) := A2.back (R6.less (same_new (R5.same.free np)) A2.now.scr)
      -- if many == 5 and len(shelves) > 3
      refine ⟨fun σ H' => ∃ (many : Int), σ = [some (.ref ρ.r), some (.ref l), v2, v3, some (.int ai), some (.int many), none] ∧ Acc K ρ B B2 H' l xs (dshelves ss) ∧ 0 ≤ many ∧ many ≤ 5, ?_, ?_⟩
      · refine ⟨_, rfl, rfl, _, rfl, ite2 (fun e => ?_) (fun e => ?_)⟩
        · refine ⟨_, rfl, l, xs, rfl, .inl (SqL.of A6.el), _, 3, rfl, rfl, _, rfl, ite2 (fun e2 => ?_) (fun e2 => ?_)⟩
          · refine ⟨_, rfl, ρ, 4, _, rfl, by decide, A6.now, fun t H7 t0 t1 R7 => ⟨rfl, .inr ⟨_, rfl, 4, _, rfl, rfl, _, rfl, A6.back R7, ?_, ?_⟩⟩⟩
            · have := (b2z (decide (V.int t = V.int 3))).1
              omega
            · have := (b2z (decide (V.int t = V.int 3))).2
              omega
          · exact ⟨many, rfl, A6, hm0, hm5⟩
        · exact ⟨many, rfl, A6, hm0, hm5⟩
      · rintro σ H7 ⟨many, rfl, A7, hm0, hm5⟩
        obtain ⟨R7, s7, l7, d7⟩ := A7.done
        -- wishes = []
        refine ⟨small (by simp), fun m nm => ?_⟩
        have W0 : Acc K ρ (upd B2 l (.lst xs)) (upd B2 l (.lst xs)) (upd H7 m (.lst [])) m [] [] := Acc.start (Same.refl _) R7 nm
        -- for k in range(many)
        refine ⟨_, rfl, many, rfl, by omega, by omega, for_range (lo := 0) (n := many.toNat) (fun i σ H' => ∃ (B' : Hp) (ys : List V) (ws : List Wish) (v2 : Option V), σ = [some (.ref ρ.r), some (.ref l), v2, v3, some (.int ai), some (.int many), some (.ref m)] ∧ Acc K ρ (upd B2 l (.lst xs)) B' H' m ys (dwishes ws) ∧ (∀ x ∈ ws, WishOk ss.length many x) ∧ ws.length = i)
          ⟨_, [], [], v2, rfl, W0, fun s h => absurd h (by simp), rfl⟩ ?_ ?_⟩
        · rintro i σ H8 hi ⟨B8, ys, ws, v2, rfl, A8, hws, hwl⟩
          have l8 : SqL K B8 l xs := Same.l A8.s l7
          -- wishes.append(wish(row, len(shelves), [k, many][int(taken(row, 12) == 11)]))
          refine ⟨_, rfl, .inl ⟨rfl, _, SqL.of A8.el⟩, _, rfl, _, rfl, l, xs, rfl, .inl (Same.l A8.R.same l8), _, rfl, _, rfl, small (by simp), fun p np => ⟨_, rfl, ρ, 12, _, rfl, by decide, A8.now.grow np, fun t H9 t0 t1 R9 => ⟨rfl, .inr ⟨_, rfl, ?_⟩⟩⟩⟩
          obtain ⟨x0, x1⟩ := b2z (decide (V.int t = V.int 11))
          obtain ⟨v, hv, _, hmem⟩ := atI_mem (xs := [V.int (0 + (i : Int)), V.int many]) x0 x1
          obtain ⟨c, rfl, hc0, hc1⟩ : ∃ c : Int, v = V.int c ∧ 0 ≤ c ∧ c ≤ many := by
            simp only [List.mem_cons, List.not_mem_nil, or_false] at hmem
            rcases hmem with rfl | rfl
            · exact ⟨_, rfl, by omega, by omega⟩
            · exact ⟨_, rfl, by omega, by omega⟩
          have A9 : Acc K ρ _ B8 H9 m ys (dwishes ws) := A8.back (R9.less (same_new (A8.now.same.free np)) A8.now.scr)
          refine ⟨p, _, _, _, rfl, rfl, SqL.of (R9.same _ _ upd_same), hv, ρ, xs.length, c, _, rfl, by omega, hc0, by omega, A9.now, fun v B10 H10 x s10 R10 d10 hx => ?_⟩
          have A10 := A9.back2 s10 R10
          have A11 := A10.app (wish_del (s10 _ _ upd_same) d10)
          refine ⟨m, ys, _, rfl, rfl, A10.el, ?_, ?_⟩
          · have e := dps_len A10.dx
            have e2 : (dwishes ws).length = ws.length := List.length_map ..
            exact small1000 (by omega)
          · refine ⟨del1 B10 m, ys ++ [v], ws ++ [x], _, rfl, ?_, ?_, by rw [List.length_append]; exact congrArg (· + 1) hwl⟩
            · have e : dwishes (ws ++ [x]) = dwishes ws ++ [x.d] := List.map_append ..
              rw [e]
              exact A11
            · intro y hy
              rcases List.mem_append.mp hy with hy | hy
              · exact hws y hy
              · rw [List.mem_singleton] at hy
                subst hy
                rw [hxl] at hx
                exact ⟨hx.kind, hx.s0, hx.s1, hx.side, hx.crew, hx.k0, hx.k3, hx.after.more hc1⟩
        · rintro σ H8 ⟨B8, ys, ws, v2, rfl, A8, hws, hwl⟩
          obtain ⟨R8, s8, l8, d8⟩ := A8.done
          -- return (shelves, aisle, wishes)
          refine ⟨_, rfl, _, rfl, _, rfl, small (by simp), fun p np => ?_⟩
          have z := R8.same.free np
          have e1 : Same (upd B2 l (.lst xs)) (upd (upd B8 m (.lst ys)) p (.tup [.ref l, .int ai, .ref m])) := s8.trans (same_new z)
          refine q _ _ _ ⟨ss, ai, ws⟩ (s7.trans e1) (R8.grow np) (StoAt.d (l := l) (m := m) (xs := xs) (ys := ys) ⟨SqT.of upd_same, Same.l e1 l7, dps_mono e1 d7, Same.l (same_new z) l8, dps_mono (same_new z) d8⟩) ?_
          have hws' : ∀ x ∈ ws, WishOk ss.length ws.length x := fun x hx => by
            have e : (ws.length : Int) = many := by omega
            rw [e]
            exact hws x hx
          exact ⟨by dsimp only; omega, by dsimp only; omega, hss, ai0, by dsimp only; omega, by dsimp only; omega, hws'⟩
end

/-! ## stores -/
structure Tc (K : PySem.W.Frag) (mg : Str → Option Value) : Prop where
  c_MOST_SHELVES : ∃ t, mg "MOST_SHELVES" = some (.int 5 t)
  c_MOST_ROOM : ∃ t, mg "MOST_ROOM" = some (.int 9 t)
  c_MOST_WISHES : ∃ t, mg "MOST_WISHES" = some (.int 5 t)
  c_MOST_KEEP : ∃ t, mg "MOST_KEEP" = some (.int 3 t)
  c_KINDS : ∃ a, mg "KINDS" = some (.ref a) ∧ ∀ H, SqT K H a [.str "fetch", .str "bring"]
  c_SIDES : ∃ a, mg "SIDES" = some (.ref a) ∧ ∀ H, SqT K H a [.str "left", .str "right", .str "any"]
structure TSx (K : PySem.W.Frag) (mg : Str → Option Value) (C fI fS fW : Addr) (fdI fdS fdW : FuncData) : Prop where
  cl : Cls K C
  mkS : Mk K C fI
  g : mg "Store" = some (.ref C)
  nS : NoAttr K C "_shelves"
  nW : NoAttr K C "_wishes"
  nA : NoAttr K C "aisle"
  m_shelves : Meth K C "shelves" fS
  m_wishes : Meth K C "wishes" fW
  b_init : Binds K fdI ["self", "shelves", "aisle", "wishes"] []
  b_shelves : Binds K fdS ["self"] []
  b_wishes : Binds K fdW ["self"] []
def fsS (l m : Addr) (a : Int) : List (Str × V) := putF "aisle" (.int a) (putF "_wishes" (.ref m) (putF "_shelves" (.ref l) []))
theorem neWS : ¬ (("_shelves" : Str) = "_wishes") := by decide +kernel
theorem neSA : ¬ (("_shelves" : Str) = "aisle") := by decide +kernel
theorem neWA : ¬ (("_wishes" : Str) = "aisle") := by decide +kernel
theorem nshA : ¬ (("shelves" : Str) = "aisle") := by decide +kernel
theorem nshW : ¬ (("shelves" : Str) = "_wishes") := by decide +kernel
theorem nshS : ¬ (("shelves" : Str) = "_shelves") := by decide +kernel
theorem nwiA : ¬ (("wishes" : Str) = "aisle") := by decide +kernel
theorem nwiW : ¬ (("wishes" : Str) = "_wishes") := by decide +kernel
theorem nwiS : ¬ (("wishes" : Str) = "_shelves") := by decide +kernel
theorem fsS_sh {l m : Addr} {a : Int} : (fsS l m a).lookup ("_shelves" : Str) = some (.ref l) := by
  unfold fsS
  rw [lookup_putF, if_neg neSA, lookup_putF, if_neg neWS, lookup_putF, if_pos rfl]
theorem fsS_wi {l m : Addr} {a : Int} : (fsS l m a).lookup ("_wishes" : Str) = some (.ref m) := by
  unfold fsS
  rw [lookup_putF, if_neg neWA, lookup_putF, if_pos rfl]
theorem fsS_ai {l m : Addr} {a : Int} : (fsS l m a).lookup ("aisle" : Str) = some (.int a) := by
  unfold fsS
  rw [lookup_putF, if_pos rfl]
theorem fsS_m1 {l m : Addr} {a : Int} : (fsS l m a).lookup ("shelves" : Str) = none := by
  unfold fsS
  rw [lookup_putF, if_neg nshA, lookup_putF, if_neg nshW, lookup_putF, if_neg nshS]
  rfl
theorem fsS_m2 {l m : Addr} {a : Int} : (fsS l m a).lookup ("wishes" : Str) = none := by
  unfold fsS
  rw [lookup_putF, if_neg nwiA, lookup_putF, if_neg nwiW, lookup_putF, if_neg nwiS]
  rfl
theorem putF_len (f : Str) (v : V) : ∀ fs : List (Str × V), (putF f v fs).length ≤ fs.length + 1
  | [] => Nat.le_refl _
  | (g, x) :: r => by
    unfold putF
    split
    · exact Nat.le_succ _
    · exact Nat.succ_le_succ (putF_len f v r)
/-- the store's object -/
structure ObAt (K : PySem.W.Frag) (C : Addr) (H : Hp) (p dx l m : Addr) (xs ys : List V) (S : Sto) : Prop where
  o : H p = some (.ins C dx (fsS l m S.aisle))
  l : SqL K H l xs
  dx : DpAll K H xs (dshelves S.shelves)
  m : SqL K H m ys
  dy : DpAll K H ys (dwishes S.wishes)
def Ob (K : PySem.W.Frag) (C : Addr) (H : Hp) (p : Addr) (S : Sto) : Prop := ∃ dx l m xs ys, ObAt K C H p dx l m xs ys S
theorem Ob.mono {K : PySem.W.Frag} {C : Addr} {H H' : Hp} {p : Addr} {S : Sto} (s : Same H H') : Ob K C H p S → Ob K C H' p S := by
  rintro ⟨dx, l, m, xs, ys, h⟩
  exact ⟨dx, l, m, xs, ys, s _ _ h.o, Same.l s h.l, dps_mono s h.dx, Same.l s h.m, dps_mono s h.dy⟩
theorem rising_iff {lo n i : Int} {l : List Int} : Rising lo n (i :: l) ↔ lo ≤ i ∧ i < n ∧ Rising (i + 1) n l := Iff.rfl
section
variable {P : Program} {w : World} {K : PySem.W.Frag} {mg : Str → Option Value} {base : Heap}
def spRising (K : PySem.W.Frag) : Sp := fun vs H Q _ => ∃ (t : Addr) (l : List Int) (m : Int), vs = [.ref t, .int m] ∧ SqT K H t (l.map V.int) ∧ ∀ b, (b = true ↔ Rising 0 m l) → Q (.bl b) H
/-! _is_rising: 0 numbers, 1 many, 2 lowest, 3 number -/
abbrev s__is_rising : Stmt := topS 17
abbrev N__is_rising : List Str := ["numbers", "many", "lowest", "number"]
theorem sc__is_rising : FnScope N__is_rising ["numbers", "many"] (defScope s__is_rising) := ⟨rfl, rfl, rfl, by decide +kernel, rfl, by decide +kernel, by decide +kernel⟩
theorem ok__is_rising {f : Addr} {fd : FuncData} (D : Dfs K mg "_is_rising" s__is_rising ["numbers", "many"] f fd) : Cal P w K mg base 1 "_is_rising" ["numbers", "many"] (spRising K) f fd := by
  refine D.cal (D.F.ok sc__is_rising (fun vs H Q E h => ?_) (fun cdv A outer s H vs Q E hr h => ?_))
  · obtain ⟨t, l, m, rfl, _⟩ := h
    rfl
  · obtain ⟨t, l, m, rfl, ht, q⟩ := h
    refine ⟨_, (pss_cons (ps_set (i := 2) sc__is_rising.nd rfl (Or.inl rfl) pe_int)
      (pss_cons (ps_for PassesOwn.never rfl (pi_tup (pv 0)) (pg_name (i := 3) sc__is_rising.nd rfl (Or.inl rfl)) (pss_cons (ps_if (pt_not (pt_chain op_le op_lt (pv 2) (pv 3) (pv 1))) (pss_one (ps_ret pe_bl)) pss_nil)
      (pss_one (ps_set (i := 2) sc__is_rising.nd rfl (Or.inl rfl) (pe_op op_add (pv 3) pe_int)))))
      (pss_one (ps_ret pe_bl)))), ?_⟩
    refine ⟨_, rfl, t, rfl, ⟨_, ht⟩, for_tup (K := K) (a := t) (xs := l.map V.int) (fun i σ H' => ∃ (lo : Int) (v : Option V), σ = [some (.ref t), some (.int m), some (.int lo), v] ∧ H' = H ∧ (Rising 0 m l ↔ Rising lo m (l.drop i)))
      ⟨0, none, rfl, rfl, Iff.rfl⟩ (fun i σ H' _ ⟨_, _, _, e, _⟩ => by rw [e]; exact ht) ?_ ?_⟩
    · rintro i y σ H' hi ⟨lo, v, rfl, rfl, hri⟩
      obtain ⟨z, hz, rfl⟩ : ∃ z, l[i]? = some z ∧ y = V.int z := by
        rw [List.getElem?_map] at hi
        cases e : l[i]? with
        | none =>
          rw [e] at hi
          cases hi
        | some z =>
          rw [e] at hi
          exact ⟨z, rfl, (Option.some.inj hi).symm⟩
      have hd : l.drop i = z :: l.drop (i + 1) := by
        obtain ⟨h1, h2⟩ := List.getElem?_eq_some_iff.mp hz
        rw [List.drop_eq_getElem_cons h1, h2]
      rw [hd, rising_iff] at hri
      refine ⟨_, rfl, _, rfl, _, _, rfl, rfl, _, rfl, ite2 (fun e => ?_) (fun e => ?_)⟩
      · have e1 := yed e
        refine ⟨_, rfl, _, _, rfl, rfl, _, rfl, ite2 (fun e => ?_) (fun e => ?_)⟩
        · have e2 : ¬ z < m := by
            intro z2
            rw [decide_eq_true z2] at e
            cases e
          exact q false ⟨fun h => absurd h (by decide), fun h => absurd (hri.mp h).2.1 e2⟩
        · have e2 : z < m := by
            by_cases z2 : z < m
            · exact z2
            · rw [decide_eq_false z2] at e
              exact absurd rfl e
          refine ⟨_, rfl, _, _, rfl, rfl, z + 1, some (.int z), rfl, rfl, ?_⟩
          exact hri.trans ⟨fun h => h.2.2, fun h => ⟨e1, e2, h⟩⟩
      · have e1 := nod e
        refine ⟨_, rfl, iteT ?_⟩
        exact q false ⟨fun h => absurd h (by decide), fun h => absurd (hri.mp h).1 e1⟩
    · rintro σ H' ⟨lo, v, rfl, rfl, hri⟩
      rw [List.length_map, List.drop_length] at hri
      exact q true ⟨fun _ => hri.mpr trivial, fun _ => rfl⟩
def spIsShelf (K : PySem.W.Frag) : Sp := fun vs H Q _ => ∃ (v : V) (s : Shelf), vs = [v] ∧ Dp K H v s.d ∧ ∀ b H', (b = true ↔ ShelfOk s) → Same H H' → Q (.bl b) H'
/-! _is_shelf: 0 shelf, 1 room, 2 has, 3 sticks -/
abbrev s__is_shelf : Stmt := topS 15
abbrev N__is_shelf : List Str := ["shelf", "room", "has", "sticks"]
theorem sc__is_shelf : FnScope N__is_shelf ["shelf"] (defScope s__is_shelf) := ⟨rfl, rfl, rfl, by decide +kernel, rfl, by decide +kernel, by decide +kernel⟩
theorem ok__is_shelf {f : Addr} {fd : FuncData} (D : Dfs K mg "_is_shelf" s__is_shelf ["shelf"] f fd) (T : Tx K mg) (Tk : Tc K mg) : Cal P w K mg base 1 "_is_shelf" ["shelf"] (spIsShelf K) f fd := by
  obtain ⟨_, g_MOST_ROOM⟩ := Tk.c_MOST_ROOM
  refine D.cal (D.F.ok sc__is_shelf (fun vs H Q E h => ?_) (fun cdv A outer s H vs Q E hr h => ?_))
  · obtain ⟨v, S, rfl, _⟩ := h
    rfl
  · obtain ⟨v, S, rfl, hv, q⟩ := h
    obtain ⟨a, rfl, ha⟩ := shelf_at hv
    refine ⟨_, (pss_cons (ps_if (PW.pt (pw_or (pt_not (pt_val (pe_callB (kisi (K := K)) (by rfl) T.n_isinstance (by decide +kernel) (pa_cons (pv 0) (pa_cons (pe_bltn (v := .ty "tuple") (by rfl) T.n_tuple boot_tuple rfl) pa_nil))))) (pw_or1 (pt_cmpR op_ne (pe_callB (klen (K := K)) (by rfl) T.n_len (by decide +kernel) (pa_cons (pv 0) pa_nil)) pe_int (nomark _))))) (pss_one (ps_ret pe_bl)) pss_nil)
      (pss_cons (ps_asg (pv 0) (pg_tup (by rfl) (pgs_cons (pg_name (i := 1) sc__is_shelf.nd rfl (Or.inl rfl)) (pgs_cons (pg_name (i := 2) sc__is_shelf.nd rfl (Or.inl rfl)) (pgs_cons (pg_name (i := 3) sc__is_shelf.nd rfl (Or.inl rfl)) pgs_nil)))))
      (pss_one (ps_ret (pe_and (pe_chain3 op_le op_le op_le pe_int (pv 2) (pv 1) (pe_glob (v := .int 9) (by rfl) g_MOST_ROOM ⟨_, rfl⟩)) (pe_one (pe_cmpR (kin_seq (K := K)) (pv 3) (pe_tup (pa_cons pe_int (pa_cons pe_int pa_nil))) (by rfl)))))))), ?_⟩
    refine ⟨_, rfl, _, _, _, _, true, rfl, .ty "tuple", tyx_tup ha, kit_ty (by decide +kernel), _, rfl, iteF ⟨_, rfl, a, _, rfl, .inr ha, rfl, _, rfl, iteF ?_⟩⟩
    refine ⟨_, rfl, a, _, rfl, ha, rfl, _, _, rfl, _, _, rfl, _, _, rfl, rfl, ?_⟩
    refine ⟨_, rfl, _, _, rfl, rfl, _, rfl, ite2 (fun e => ?_) (fun e => ?_)⟩
    · have e1 := yed e
      refine ⟨_, rfl, _, _, rfl, rfl, _, rfl, ite2 (fun e => ?_) (fun e => ?_)⟩
      · have e2 := yed e
        refine ⟨_, _, rfl, rfl, _, rfl, ite2 (fun e => ?_) (fun e => ?_)⟩
        · have e3 := yed e
          refine ⟨_, rfl, small (by simp), fun p np => ⟨p, _, rfl, .inr tup_new, rfl, rfl, ?_⟩⟩
          refine q _ _ ?_ (same_new np)
          show inV (.int S.sticks) [.int 0, .int 1] = true ↔ _
          unfold inV
          simp only [List.any_cons, List.any_nil, Bool.or_false, Bool.or_eq_true]
          constructor
          · intro h
            refine ⟨e1, e2, e3, ?_⟩
            rcases h with h | h
            · exact .inl (by simpa [eqV] using Eq.symm (of_decide_eq_true h))
            · exact .inr (by simpa [eqV] using Eq.symm (of_decide_eq_true h))
          · rintro ⟨_, _, _, h | h⟩
            · exact .inl (by rw [h]; rfl)
            · exact .inr (by rw [h]; rfl)
        · have e3 := nod e
          exact q false _ ⟨fun h => absurd h (by decide), fun h => absurd h.h2 e3⟩ (Same.refl _)
      · have e2 := nod e
        exact ⟨_, rfl, iteF (q false _ ⟨fun h => absurd h (by decide), fun h => absurd h.h1 e2⟩ (Same.refl _))⟩
    · have e1 := nod e
      exact ⟨_, rfl, iteF (q false _ ⟨fun h => absurd h (by decide), fun h => absurd h.h0 e1⟩ (Same.refl _))⟩
end

section
variable {P : Program} {w : World} {K : PySem.W.Frag} {mg : Str → Option Value} {base : Heap}
def spIsWish (K : PySem.W.Frag) : Sp := fun vs H Q _ => ∃ (v : V) (x : Wish) (n m : Int), vs = [v, .int n, .int m] ∧ Dp K H v x.d ∧ ∀ b H', (b = true ↔ WishOk n m x) → Same H H' → Q (.bl b) H'
/-! _is_wish: 0 wish, 1 many_shelves, 2 many_wishes, 3 kind, 4 shelf, 5 side, 6 crew, 7 keep, 8 after -/
abbrev s__is_wish : Stmt := topS 16
abbrev N__is_wish : List Str := ["wish", "many_shelves", "many_wishes", "kind", "shelf", "side", "crew", "keep", "after"]
theorem sc__is_wish : FnScope N__is_wish ["wish", "many_shelves", "many_wishes"] (defScope s__is_wish) := ⟨rfl, rfl, rfl, by decide +kernel, rfl, by decide +kernel, by decide +kernel⟩
theorem ok__is_wish {f f1 : Addr} {fd fd1 : FuncData} (D : Dfs K mg "_is_wish" s__is_wish ["wish", "many_shelves", "many_wishes"] f fd) (T : Tx K mg) (Tk : Tc K mg) (C__is_rising : Cal P w K mg base 1 "_is_rising" ["numbers", "many"] (spRising K) f1 fd1) :
    Cal P w K mg base 2 "_is_wish" ["wish", "many_shelves", "many_wishes"] (spIsWish K) f fd := by
  obtain ⟨_, g_MOST_KEEP⟩ := Tk.c_MOST_KEEP
  obtain ⟨a_KINDS, g_KINDS, hK⟩ := Tk.c_KINDS
  obtain ⟨a_SIDES, g_SIDES, hSd⟩ := Tk.c_SIDES
  refine D.cal (D.F.ok sc__is_wish (fun vs H Q E h => ?_) (fun cdv A outer s H vs Q E hr h => ?_))
  · obtain ⟨v, x, n, m, rfl, _⟩ := h
    rfl
  · obtain ⟨v, x, n, m, rfl, hv, q⟩ := h
    obtain ⟨a, t, rfl, ha, ht⟩ := wish_at hv
    obtain ⟨kind, shelf, side, crew, keep, after⟩ := x
    dsimp only at ha ht
    refine ⟨_, (pss_cons (ps_if (PW.pt (pw_or (pt_not (pt_val (pe_callB (kisi (K := K)) (by rfl) T.n_isinstance (by decide +kernel) (pa_cons (pv 0) (pa_cons (pe_bltn (v := .ty "tuple") (by rfl) T.n_tuple boot_tuple rfl) pa_nil))))) (pw_or1 (pt_cmpR op_ne (pe_callB (klen (K := K)) (by rfl) T.n_len (by decide +kernel) (pa_cons (pv 0) pa_nil)) pe_int (nomark _))))) (pss_one (ps_ret pe_bl)) pss_nil)
      (pss_cons (ps_asg (pv 0) (pg_tup (by rfl) (pgs_cons (pg_name (i := 3) sc__is_wish.nd rfl (Or.inl rfl)) (pgs_cons (pg_name (i := 4) sc__is_wish.nd rfl (Or.inl rfl)) (pgs_cons (pg_name (i := 5) sc__is_wish.nd rfl (Or.inl rfl)) (pgs_cons (pg_name (i := 6) sc__is_wish.nd rfl (Or.inl rfl)) (pgs_cons (pg_name (i := 7) sc__is_wish.nd rfl (Or.inl rfl)) (pgs_cons (pg_name (i := 8) sc__is_wish.nd rfl (Or.inl rfl)) pgs_nil))))))))
      (pss_cons (ps_if (PW.pt (pw_or (pt_cmpR (knotIn_seq (K := K)) (pv 3) (pe_glob (v := .ref a_KINDS) (by rfl) g_KINDS rfl) (by rfl)) (pw_or (pt_cmpR (knotIn_seq (K := K)) (pv 5) (pe_glob (v := .ref a_SIDES) (by rfl) g_SIDES rfl) (by rfl)) (pw_or1 (pt_cmpR (knotIn_seq (K := K)) (pv 6) (pe_tup (pa_cons pe_int (pa_cons pe_int pa_nil))) (by rfl)))))) (pss_one (ps_ret pe_bl)) pss_nil)
      (pss_cons (ps_if (PW.pt (pw_or (pt_not (pt_chain op_le op_lt pe_int (pv 4) (pv 1))) (pw_or1 (pt_not (pt_chain op_le op_le pe_int (pv 7) (pe_glob (v := .int 3) (by rfl) g_MOST_KEEP ⟨_, rfl⟩)))))) (pss_one (ps_ret pe_bl)) pss_nil)
      (pss_one (ps_ret (pe_and (pe_callB (kisi (K := K)) (by rfl) T.n_isinstance (by decide +kernel) (pa_cons (pv 8) (pa_cons (pe_bltn (v := .ty "tuple") (by rfl) T.n_tuple boot_tuple rfl) pa_nil))) (pe_one (pe_call C__is_rising.G (hr.mono (by decide)) (by rfl) C__is_rising.g C__is_rising.kp C__is_rising.b .nil pass0 (pa_cons (pv 8) (pa_cons (pv 2) pa_nil))))))))))), ?_⟩
    refine ⟨_, rfl, _, _, _, _, true, rfl, .ty "tuple", tyx_tup ha, kit_ty (by decide +kernel), _, rfl, iteF ⟨_, rfl, a, _, rfl, .inr ha, rfl, _, rfl, iteF ?_⟩⟩
    refine ⟨_, rfl, a, _, rfl, ha, rfl, _, _, rfl, _, _, rfl, _, _, rfl, _, _, rfl, _, _, rfl, _, _, rfl, rfl, ?_⟩
    have ik : inV (.str kind) [.str "fetch", .str "bring"] = true ↔ kind = "fetch" ∨ kind = "bring" := by
      have e := inV_strs (x := kind) (l := ["fetch", "bring"])
      rw [List.mem_cons, List.mem_singleton] at e
      exact e
    have isd : inV (.str side) [.str "left", .str "right", .str "any"] = true ↔ side = "left" ∨ side = "right" ∨ side = "any" := by
      have e := inV_strs (x := side) (l := ["left", "right", "any"])
      rw [List.mem_cons, List.mem_cons, List.mem_singleton] at e
      exact e
    have ic : inV (.int crew) [.int 0, .int 1] = true ↔ crew = 0 ∨ crew = 1 := by
      have e := inV_ints (x := crew) (l := [0, 1])
      rw [List.mem_cons, List.mem_singleton] at e
      exact e
    refine ⟨_, rfl, a_KINDS, _, rfl, .inr (hK _), rfl, rfl, _, rfl, ite2 (fun e => iteT ?_) (fun e => ?_)⟩
    · have e1 : ¬ (kind = "fetch" ∨ kind = "bring") := fun z => by
        have z2 := ik.mpr z
        rw [if_pos rfl, z2] at e
        cases e
      exact q false _ ⟨fun h => absurd h (by decide), fun h => absurd h.kind e1⟩ (Same.refl _)
    have k1 : kind = "fetch" ∨ kind = "bring" := ik.mp (by
      rw [if_pos rfl] at e
      cases z : inV (.str kind) [.str "fetch", .str "bring"] with
      | true => rfl
      | false => rw [z] at e; exact absurd rfl e)
    refine ⟨_, rfl, a_SIDES, _, rfl, .inr (hSd _), rfl, rfl, _, rfl, ite2 (fun e => iteT ?_) (fun e => ?_)⟩
    · have e1 : ¬ (side = "left" ∨ side = "right" ∨ side = "any") := fun z => by
        have z2 := isd.mpr z
        rw [if_pos rfl, z2] at e
        cases e
      exact q false _ ⟨fun h => absurd h (by decide), fun h => absurd h.side e1⟩ (Same.refl _)
    have s1 : side = "left" ∨ side = "right" ∨ side = "any" := isd.mp (by
      rw [if_pos rfl] at e
      cases z : inV (.str side) [.str "left", .str "right", .str "any"] with
      | true => rfl
      | false => rw [z] at e; exact absurd rfl e)
    refine ⟨_, rfl, small (by simp), fun p np => ⟨p, _, rfl, .inr tup_new, rfl, rfl, _, rfl, ite2 (fun e => ?_) (fun e => ?_)⟩⟩
    · have e1 : ¬ (crew = 0 ∨ crew = 1) := fun z => by
        have z2 := ic.mpr z
        rw [if_pos rfl, z2] at e
        cases e
      exact q false _ ⟨fun h => absurd h (by decide), fun h => absurd h.crew e1⟩ (same_new np)
    have c1 : crew = 0 ∨ crew = 1 := ic.mp (by
      rw [if_pos rfl] at e
      cases z : inV (.int crew) [.int 0, .int 1] with
      | true => rfl
      | false => rw [z] at e; exact absurd rfl e)
    -- 0 <= shelf < many_shelves
    refine ⟨_, rfl, _, _, rfl, rfl, _, rfl, ite2 (fun e => ?_) (fun e => ?_)⟩
    rotate_left
    · have e1 := nod e
      exact ⟨_, rfl, iteT (iteT (q false _ ⟨fun h => absurd h (by decide), fun h => absurd h.s0 e1⟩ (same_new np)))⟩
    have e1 := yed e
    refine ⟨_, rfl, _, _, rfl, rfl, _, rfl, ?_⟩
    by_cases e2 : shelf < n
    rotate_left
    · exact itnF e2 (iteT (q false _ ⟨fun h => absurd h (by decide), fun h => absurd h.s1 e2⟩ (same_new np)))
    refine iteNS e2 ?_
    -- 0 <= keep <= MOST_KEEP
    refine ⟨_, rfl, _, _, rfl, rfl, _, rfl, ite2 (fun e => ?_) (fun e => ?_)⟩
    rotate_left
    · have e3 := nod e
      exact ⟨_, rfl, iteT (q false _ ⟨fun h => absurd h (by decide), fun h => absurd h.k0 e3⟩ (same_new np))⟩
    have e3 := yed e
    refine ⟨_, _, rfl, rfl, _, rfl, ?_⟩
    by_cases e4 : keep ≤ 3
    rotate_left
    · exact itnF e4 (q false _ ⟨fun h => absurd h (by decide), fun h => absurd h.k3 e4⟩ (same_new np))
    refine iteNS e4 ?_
    have ht2 := Same.t (same_new (o := .tup [.int 0, .int 1]) np) ht
    refine ⟨_, rfl, _, _, _, _, true, rfl, .ty "tuple", tyx_tup ht2, kit_ty (by decide +kernel), _, rfl, iteT ?_⟩
    refine ⟨_, rfl, _, rfl, t, after, m, rfl, ht2, fun b hb => q b _ ?_ (same_new np)⟩
    rw [hb]
    exact ⟨fun h => ⟨k1, e1, e2, s1, c1, e3, e4, h⟩, fun h => h.after⟩
end

/-! ## own errors: made, caught, asked -/
/-- a def that may raise, as its callers use it -/
structure CalX (P : Program) (w : World) (K : PySem.W.Frag) (mg : Str → Option Value) (base : Heap) (k : Nat) (x : Str) (ps : List Str) (sp : Sp) (f : Addr) (fd : FuncData) : Prop where
  G : FnOk P w K mg base (L2.CX P w) k f fd ps sp
  g : mg x = some (.ref f)
  kp : PySem.W.keepIn K (.ref f) = true
  b : Binds K fd ps []
theorem Dfs.calX {P : Program} {w : World} {K : PySem.W.Frag} {mg : Str → Option Value} {base : Heap} {k : Nat} {x : Str} {ps : List Str} {sp : Sp} {f : Addr} {fd : FuncData} {st : Stmt} (D : Dfs K mg x st ps f fd) (G : FnOk P w K mg base (L2.CX P w) k f fd ps sp) : CalX P w K mg base k x ps sp f fd := ⟨G, D.g, D.F.kp, D.b⟩
/-- an own error's class, as an except clause or isinstance names it -/
structure Xn (K : PySem.W.Frag) (mg : Str → Option Value) (x : Str) (C : Addr) : Prop where
  g : mg x = some (.ref C)
  kp : PySem.W.keepIn K (.ref C) = true
  exC : PySem.W.subIn K (.ref C) (.type "BaseException") = some true
  tyC : PySem.W.typeIn K (.ref C) = some (.type "type")
  isC : PySem.W.isClsIn K C = true
theorem kit_own {K : PySem.W.Frag} {C D : Addr} {b : Bool} (h2 : PySem.W.isClsIn K D = true) (h3 : PySem.W.typeIn K (.ref D) = some (.type "type")) (h4 : PySem.W.subIn K (.ref C) (.ref D) = some b) (h5 : PySem.W.subIn K (.ref C) (.ref C) = some true) : PySem.W.kitOne K (.ref C) (.ref D) = some b := by
  have e2 : ((PySem.W.clsIn K D).isSome && PySem.W.typeIn K (.ref D) == some (.type "type")) = true := by
    have h2' : (PySem.W.clsIn K D).isSome = true := h2
    rw [h2', h3] <;> rfl
  unfold PySem.W.kitOne
  split
  · rename_i q
    have e : C = D := Value.ref.inj (beq_iff_eq.mp q)
    subst e
    rw [h5] at h4
    exact h4
  · show (if ((PySem.W.clsIn K D).isSome && PySem.W.typeIn K (.ref D) == some (.type "type")) = true then PySem.W.subIn K (.ref C) (.ref D) else none) = some b
    rw [if_pos e2]
    exact h4
theorem kit_typ {K : PySem.W.Frag} {C : Addr} {b : Bool} (h4 : PySem.W.subIn K (.ref C) (.type "ValueError") = some b) : PySem.W.kitOne K (.ref C) (.type "ValueError") = some b := by
  unfold PySem.W.kitOne
  split
  · rename_i q
    cases beq_iff_eq.mp q
  · show (if PySem.W.kitMeta "ValueError" = true then PySem.W.subIn K (.ref C) (.type "ValueError") else none) = some b
    rw [if_pos (by decide +kernel)]
    exact h4
theorem exm_own {K : PySem.W.Frag} {C D : Addr} {b : Bool} (h1 : PySem.W.subIn K (.ref D) (.type "BaseException") = some true) (h2 : PySem.W.isClsIn K D = true) (h3 : PySem.W.typeIn K (.ref D) = some (.type "type")) (h4 : PySem.W.subIn K (.ref C) (.ref D) = some b) : PySem.W.exmOne K (.ref C) (.ref D) = some b := by
  have e1 : (PySem.W.subIn K (.ref D) (.type "BaseException") == some true) = true := by rw [h1] <;> rfl
  have e2 : ((PySem.W.clsIn K D).isSome && PySem.W.typeIn K (.ref D) == some (.type "type")) = true := by
    have h2' : (PySem.W.clsIn K D).isSome = true := h2
    rw [h2', h3] <;> rfl
  show (if (PySem.W.subIn K (.ref D) (.type "BaseException") == some true) = true then (if ((PySem.W.clsIn K D).isSome && PySem.W.typeIn K (.ref D) == some (.type "type")) = true then PySem.W.subIn K (.ref C) (.ref D) else none) else none) = some b
  rw [if_pos e1, if_pos e2]
  exact h4
/-- what the class D must say, so that isinstance asks its instances rightly -/
structure ExD (K : PySem.W.Frag) (D : Addr) : Prop where
  hc : PySem.W.isClsIn K D = true
  hg : PySem.W.findIn K (.ref D) "__getattribute__" = some (some (.builtin "BaseException.__getattribute__"))
  hk : PySem.W.findIn K (.ref D) "__getattr__" = some none
  hs : PySem.W.subIn K (.ref D) (.type "BaseException") = some true
  hd : PySem.W.hasDictIn K D = true
  ha : PySem.W.findIn K (.ref D) "__class__" = some (some (.builtin "object.__class__"))
  hn : PySem.W.specialIn K (.builtin "object.__class__") "__get__" = some (some (.builtin "getset_descriptor.__get__"))
  ht : PySem.W.takesIn K (.builtin "object.__class__") = some true
  hm : PySem.W.mroIn K D (.type "object") = some true
theorem ExD.xf {K : PySem.W.Frag} {D : Addr} (h : ExD K D) : XfC K D := ⟨h.hg, h.hk, h.hs, h.hd⟩
/-- the dict of the error that the suite holds -/
def XdAt (d : Option Addr) (H : Hp) : Prop := d = none ∨ ∃ dd fs, d = some dd ∧ H dd = some (.xd fs)
/-- isinstance(e, c), e the error that the suite holds -/
def rIsX (K : PySem.W.Frag) (a : Addr) (cls : Value) (d : Option Addr) : List V → Hp → VK → Prop := fun xs H Q => ∃ (c : V) (cv : Value) (D : Addr) (b : Bool), xs = [.ref a, c] ∧ ClsV c cv ∧ cls = .ref D ∧ ExD K D ∧ XdAt d H ∧ PySem.W.kitOne K (.ref D) cv = some b ∧ Q (.bl b) H
/-- isinstance(e, (c1, c2, ..)) -/
def rIsXT (K : PySem.W.Frag) (a : Addr) (cls : Value) (d : Option Addr) : List V → Hp → VK → Prop := fun xs H Q => ∃ (tp : Addr) (cs : List V) (us : List Value) (D : Addr) (b : Bool), xs = [.ref a, .ref tp] ∧ H tp = some (.tup cs) ∧ Paired ClsV cs us ∧ cls = .ref D ∧ ExD K D ∧ XdAt d H ∧ PySem.W.kitAny K (.ref D) us = some b ∧ Q (.bl b) H
section
variable {X : Cx} {a D : Addr} {oe : Obj} {cls : Value} {d : Option Addr} {pn : List (Addr × Obj)}
theorem exd_inst {pins : List (Addr × Obj)} {σ : L2.St} {H : Hp} {s : Shared} (hz : Zc (.ref D) d oe) (hf : ∃ vs, oe.data = .fields vs) (I : L2.Inv (X.suite a ((a, oe) :: pn)) pins σ H s) (hd : XdAt d H) : ∃ od, PySem.W.InstAt s.heap a oe D od := by
  obtain ⟨hget, _⟩ := I.pin (a, oe) (List.mem_append.mpr (.inl List.mem_cons_self))
  obtain ⟨vs, hv⟩ := hf
  rcases hd with e | ⟨dd, fs, e, ea⟩
  · refine ⟨none, ?_⟩
    obtain ⟨oc, od, oda, osl⟩ := oe
    obtain ⟨h1, h2⟩ := hz
    dsimp only at h1 h2 hv
    subst h1 h2 hv e
    exact ⟨hget, rfl, rfl, trivial⟩
  · subst e
    have hx : ObjOk X.prog X.w H s.heap dd (.xd fs) := I.hok dd _ ea
    obtain ⟨mA, hns, hr⟩ := hx
    obtain ⟨od, ho, hl⟩ := lookIn_ns hns
    exact ⟨some od, hget, hz.1, by unfold PySem.W.notCls; rw [hv] <;> rfl, by rw [hz.2]; exact ho⟩
theorem call_isX (hz : Zc cls d oe) (hf : ∃ vs, oe.data = .fields vs) : CallR (X.suite a ((a, oe) :: pn)) (.builtin "isinstance") (rIsX X.K a cls d) := by
  intro pins s σ H xs us Q I r h
  obtain ⟨c, cv, D, b, rfl, k, rfl, C, hd, e, q⟩ := h
  obtain ⟨u1, u2, rfl, r1, r2⟩ := vals2 r
  have e2 := k.eq r2
  subst e2
  cases (show u1 = Value.ref a from r1)
  obtain ⟨od, J⟩ := exd_inst hz hf I hd
  exact PySem.W.kia_one (PySem.W.kitx_exc C.hc C.hg C.hk C.hs C.ha C.hn C.ht C.hm) I.kIn J e (fun z => nomatch z) fun tk => ⟨.bl b, H, I.tok tk, rfl, q⟩
theorem call_isXT (hz : Zc cls d oe) (hf : ∃ vs, oe.data = .fields vs) : CallR (X.suite a ((a, oe) :: pn)) (.builtin "isinstance") (rIsXT X.K a cls d) := by
  intro pins s σ H xs us Q I r h
  obtain ⟨tp, cs, ws, D, b, rfl, hT, k, rfl, C, hd, e, q⟩ := h
  obtain ⟨u1, u2, rfl, r1, r2⟩ := vals2 r
  cases (show u1 = Value.ref a from r1)
  cases (show u2 = Value.ref tp from r2)
  obtain ⟨od, J⟩ := exd_inst hz hf I hd
  obtain ⟨_, its, rv, o, h1, h2, n, h3⟩ := (show ObjOk X.prog X.w H s.heap tp (.tup cs) from I.hok tp _ hT)
  have e3 := ClsV.all k rv
  subst e3
  obtain ⟨oc, od', dt, sl⟩ := o
  simp only at h2 h3
  subst h2 h3
  exact PySem.W.kia_tup (PySem.W.kitx_exc C.hc C.hg C.hk C.hs C.ha C.hn C.ht C.hm) I.kIn J h1 e (fun z => nomatch z) fun tk => ⟨.bl b, H, I.tok tk, rfl, q⟩
end
/-- an own error of two fields -/
structure Xi2 (P : Program) (w : World) (K : PySem.W.Frag) (mg : Str → Option Value) (base : Heap) (C fI : Addr) (fd : FuncData) (f1 f2 : Str) (sp : Sp) : Prop where
  T : OexC K C
  D : ExD K C
  iC : PySem.W.findIn K (.ref C) "__init__" = some (some (.ref fI))
  tI : PySem.W.typeIn K (.ref fI) = some (.type "function")
  n1 : PySem.W.findIn K (.ref C) f1 = some none
  n2 : PySem.W.findIn K (.ref C) f2 = some none
  b : Binds K fd ["self", f1, f2] []
  G : FnOk P w K mg base CX0 1 fI fd ["self", f1, f2] sp
def spX2 (K : PySem.W.Frag) (C : Addr) (f1 f2 : Str) : Sp := fun vs H Q _ => ∃ (a : Addr) (x y : V), vs = [.ref a, x, y] ∧ OexC K C ∧ H a = some (exo a C none) ∧ ∀ dx, H dx = none → dx ≠ a → Q .non (upd (upd (upd H dx (exd dx [(f1, x)])) a (exo a C (some dx))) dx (exd dx [(f2, y), (f1, x)]))
theorem mk2 {K : PySem.W.Frag} {C : Addr} {f1 f2 : Str} {H : Hp} {x y : V} {Q : XK} (T : OexC K C) (q : ∀ d H', Same H H' → H d = none → H' d = some (.xd [(f2, y), (f1, x)]) → Q (.ref C) (some d) H') :
    [x, y].length ≤ 1000 ∧ ∀ a, H a = none → spX2 K C f1 f2 (.ref a :: ([x, y] ++ [])) (upd H a (exo a C none))
      (fun v H2 => v = .non ∧ ∃ (d : Addr) (fs : List (Str × V)), H2 a = some (exo a C (some d)) ∧ H2 d = some (exd d fs) ∧ H d = none ∧ Q (.ref C) (some d) (upd (L2.del H2 a) d (.xd fs))) (fun _ _ _ => False) := by
  refine ⟨by simp, fun a na => ⟨a, x, y, rfl, T, upd_same, fun dx ndx ne => ⟨rfl, dx, [(f2, y), (f1, x)], ?_, upd_same, ?_, q dx _ ?_ ?_ upd_same⟩⟩⟩
  · rw [upd_ne (Ne.symm ne), upd_same]
  · rw [upd_ne ne] at ndx
    exact ndx
  · intro b o h
    have h1 : b ≠ a := ne_of_none h na
    have h2 : b ≠ dx := fun z => by
      rw [z] at h
      rw [upd_ne ne, h] at ndx
      cases ndx
    rw [upd_ne h2, del_ne h1, upd_ne h2, upd_ne h1, upd_ne h2, upd_ne h1]
    exact h
  · rw [upd_ne ne] at ndx
    exact ndx

/-! ### what is no store is refused -/
inductive Bad : List Shelf → Int → List Wish → Nat → Option (Str × Int) → Prop
  | shelves {ss : List Shelf} {a : Int} {ws : List Wish} {n : Nat} (h : ss.length < 1 ∨ 5 < ss.length) : Bad ss a ws n (some ("shelves", 0))
  | shelf {ss : List Shelf} {a : Int} {ws : List Wish} {n : Nat} {i : Nat} {s : Shelf} (h1 : 1 ≤ ss.length) (h5 : ss.length ≤ 5) (g : ∀ j x, j < i → ss[j]? = some x → ShelfOk x) (e : ss[i]? = some s) (b : ¬ ShelfOk s) : Bad ss a ws n (some ("shelf", (i : Int)))
  | aisle {ss : List Shelf} {a : Int} {ws : List Wish} {n : Nat} (h1 : 1 ≤ ss.length) (h5 : ss.length ≤ 5) (g : ∀ x ∈ ss, ShelfOk x) (b : a < 0 ∨ ss.length < a) : Bad ss a ws n (some ("aisle", 0))
  | wishes {ss : List Shelf} {a : Int} {ws : List Wish} {n : Nat} (h1 : 1 ≤ ss.length) (h5 : ss.length ≤ 5) (g : ∀ x ∈ ss, ShelfOk x) (a0 : 0 ≤ a) (a1 : a ≤ ss.length) (b : 5 < n) : Bad ss a ws n (some ("wishes", 0))
  | wish {ss : List Shelf} {a : Int} {ws : List Wish} {n : Nat} {i : Nat} {x : Wish} (h1 : 1 ≤ ss.length) (h5 : ss.length ≤ 5) (g : ∀ x ∈ ss, ShelfOk x) (a0 : 0 ≤ a) (a1 : a ≤ ss.length) (n5 : n ≤ 5) (k : ∀ j y, j < i → ws[j]? = some y → WishOk ss.length n y) (e : ws[i]? = some x) (b : ¬ WishOk ss.length n x) : Bad ss a ws n (some ("wish", (i : Int)))
  | none {ss : List Shelf} {a : Int} {ws : List Wish} {n : Nat} (h : StoOk ⟨ss, a, ws⟩) : Bad ss a ws n none
/-- are the wishes asked -/
def Bad.far : Option (Str × Int) → Bool
  | .none => true
  | some (r, _) => r == "wish"
section
variable {P : Program} {w : World} {K : PySem.W.Frag} {mg : Str → Option Value} {base : Heap}
/-- what is let out: an own error of two fields, at the class C -/
def Out2 (E : XK) (H : Hp) (C : Addr) (f1 f2 : Str) (x y : V) : Prop := ∀ d H', Same H H' → H d = none → H' d = some (.xd [(f2, y), (f1, x)]) → E (.ref C) (some d) H'
def spRefuseX (K : PySem.W.Frag) (CB : Addr) : Sp := fun vs H Q E => ∃ (l m : Addr) (a : Int) (xs ys : List V) (ss : List Shelf) (ws : List Wish) (r : Option (Str × Int)), vs = [.ref l, .int a, .ref m] ∧ SqL K H l xs ∧ DpAll K H xs (dshelves ss) ∧ SqL K H m ys ∧
  (Bad.far r = true → DpAll K H ys (dwishes ws)) ∧ Bad ss a ws ys.length r ∧ (r = none → ∀ H', Same H H' → Q .non H') ∧ ∀ x n, r = some (x, n) → Out2 E H CB "word" "number" (.str x) (.int n)
theorem Out2.mono {E : XK} {H H' : Hp} {C : Addr} {f1 f2 : Str} {x y : V} (s : Same H H') (h : Out2 E H C f1 f2 x y) : Out2 E H' C f1 f2 x y := fun d H2 s2 n e => h d H2 (s.trans s2) (s.free n) e
/-! _refuse_no_store: 0 shelves, 1 aisle, 2 wishes, 3 number, 4 shelf, 5 wish -/
abbrev s__refuse_no_store : Stmt := topS 14
abbrev N__refuse_no_store : List Str := ["shelves", "aisle", "wishes", "number", "shelf", "wish"]
theorem sc__refuse_no_store : FnScope N__refuse_no_store ["shelves", "aisle", "wishes"] (defScope s__refuse_no_store) := ⟨rfl, rfl, rfl, by decide +kernel, rfl, by decide +kernel, by decide +kernel⟩
theorem ok__refuse_no_store {f f1 f2 CB fB : Addr} {fd fd1 fd2 fdB : FuncData} (D : Dfs K mg "_refuse_no_store" s__refuse_no_store ["shelves", "aisle", "wishes"] f fd) (T : Tx K mg) (Tk : Tc K mg) (X_BadStore : Xi2 P w K mg base CB fB fdB "word" "number" (spX2 K CB "word" "number")) (N_BadStore : Xn K mg "BadStore" CB)
    (C__is_shelf : Cal P w K mg base 1 "_is_shelf" ["shelf"] (spIsShelf K) f1 fd1) (C__is_wish : Cal P w K mg base 2 "_is_wish" ["wish", "many_shelves", "many_wishes"] (spIsWish K) f2 fd2) : CalX P w K mg base 3 "_refuse_no_store" ["shelves", "aisle", "wishes"] (spRefuseX K CB) f fd := by
  obtain ⟨_, g_MOST_SHELVES⟩ := Tk.c_MOST_SHELVES
  obtain ⟨_, g_MOST_WISHES⟩ := Tk.c_MOST_WISHES
  refine D.calX (D.F.okX sc__refuse_no_store (fun vs H Q E h => ?_) (fun cdv A outer s H vs Q E hr h => ?_))
  · obtain ⟨l, m, a, xs, ys, ss, ws, r, rfl, _⟩ := h
    rfl
  · obtain ⟨l, m, a, xs, ys, ss, ws, r, rfl, hl, dl, hm, dm, bad, q, o⟩ := h
    have lx : xs.length = ss.length := (dps_len dl).trans (List.length_map ..)
    refine ⟨_, (pss_cons (ps_if (pt_not (pt_chain op_le op_le pe_int (pe_callB (klen (K := K)) (by rfl) T.n_len (by decide +kernel) (pa_cons (pv 0) pa_nil)) (pe_glob (v := .int 5) (by rfl) g_MOST_SHELVES ⟨_, rfl⟩))) (pss_one (ps_raise rfl (takes_of rfl rfl rfl rfl) (pmk_oex X_BadStore.T X_BadStore.iC X_BadStore.tI X_BadStore.G (hr.mono (by decide)) X_BadStore.b .nil pass0 (by rfl) N_BadStore.g (pa_cons pe_str (pa_cons pe_int pa_nil))))) pss_nil)
      (pss_cons (ps_for (passes_of rfl) rfl (pi_enum (by rfl) T.n_enumerate (pa_cons (pv 0) pa_nil)) (pg_tup (by rfl) (pgs_cons (pg_name (i := 3) sc__refuse_no_store.nd rfl (Or.inl rfl)) (pgs_cons (pg_name (i := 4) sc__refuse_no_store.nd rfl (Or.inl rfl)) pgs_nil))) (pss_one (ps_if (pt_not (pt_val (pe_call C__is_shelf.G (hr.mono (by decide)) (by rfl) C__is_shelf.g C__is_shelf.kp C__is_shelf.b .nil pass0 (pa_cons (pv 4) pa_nil)))) (pss_one (ps_raise rfl (takes_of rfl rfl rfl rfl) (pmk_oex X_BadStore.T X_BadStore.iC X_BadStore.tI X_BadStore.G (hr.mono (by decide)) X_BadStore.b .nil pass0 (by rfl) N_BadStore.g (pa_cons pe_str (pa_cons (pv 3) pa_nil))))) pss_nil)))
      (pss_cons (ps_if (pt_not (pt_chain op_le op_le pe_int (pv 1) (pe_callB (klen (K := K)) (by rfl) T.n_len (by decide +kernel) (pa_cons (pv 0) pa_nil)))) (pss_one (ps_raise rfl (takes_of rfl rfl rfl rfl) (pmk_oex X_BadStore.T X_BadStore.iC X_BadStore.tI X_BadStore.G (hr.mono (by decide)) X_BadStore.b .nil pass0 (by rfl) N_BadStore.g (pa_cons pe_str (pa_cons pe_int pa_nil))))) pss_nil)
      (pss_cons (ps_if (pt_cmpR op_gt (pe_callB (klen (K := K)) (by rfl) T.n_len (by decide +kernel) (pa_cons (pv 2) pa_nil)) (pe_glob (v := .int 5) (by rfl) g_MOST_WISHES ⟨_, rfl⟩) (nomark _)) (pss_one (ps_raise rfl (takes_of rfl rfl rfl rfl) (pmk_oex X_BadStore.T X_BadStore.iC X_BadStore.tI X_BadStore.G (hr.mono (by decide)) X_BadStore.b .nil pass0 (by rfl) N_BadStore.g (pa_cons pe_str (pa_cons pe_int pa_nil))))) pss_nil)
      (pss_one (ps_for (passes_of rfl) rfl (pi_enum (by rfl) T.n_enumerate (pa_cons (pv 2) pa_nil)) (pg_tup (by rfl) (pgs_cons (pg_name (i := 3) sc__refuse_no_store.nd rfl (Or.inl rfl)) (pgs_cons (pg_name (i := 5) sc__refuse_no_store.nd rfl (Or.inl rfl)) pgs_nil))) (pss_one (ps_if (pt_not (pt_val (pe_call C__is_wish.G (hr.mono (by decide)) (by rfl) C__is_wish.g C__is_wish.kp C__is_wish.b .nil pass0 (pa_cons (pv 5) (pa_cons (pe_callB (klen (K := K)) (by rfl) T.n_len (by decide +kernel) (pa_cons (pv 0) pa_nil)) (pa_cons (pe_callB (klen (K := K)) (by rfl) T.n_len (by decide +kernel) (pa_cons (pv 2) pa_nil)) pa_nil)))))) (pss_one (ps_raise rfl (takes_of rfl rfl rfl rfl) (pmk_oex X_BadStore.T X_BadStore.iC X_BadStore.tI X_BadStore.G (hr.mono (by decide)) X_BadStore.b .nil pass0 (by rfl) N_BadStore.g (pa_cons pe_str (pa_cons (pv 3) pa_nil))))) pss_nil)))))))), ?_⟩
    by_cases hn : ss.length < 1 ∨ 5 < ss.length
    · have er : r = some (("shelves" : Str), 0) := by
        cases bad with
        | shelves h => rfl
        | shelf h1 h5 => omega
        | aisle h1 h5 => omega
        | wishes h1 h5 => omega
        | wish h1 h5 => omega
        | none h =>
          have := h.n1
          have := h.n5
          dsimp only at *
          omega
      have oo := o _ _ er
      refine ⟨_, rfl, l, xs, rfl, .inl hl, _, _, rfl, rfl, _, rfl, ?_⟩
      by_cases h1 : (1 : Int) ≤ xs.length
      · refine itD h1 ⟨_, _, rfl, rfl, _, rfl, itnF (by omega) ?_⟩
        exact mk2 X_BadStore.T oo
      · refine itF h1 ⟨_, rfl, iteT ?_⟩
        exact mk2 X_BadStore.T oo
    have n1 : 1 ≤ ss.length := by omega
    have n5 : ss.length ≤ 5 := by omega
    refine ⟨_, rfl, l, xs, rfl, .inl hl, _, _, rfl, rfl, _, rfl, itD (by omega) ⟨_, _, rfl, rfl, _, rfl, iteNS (by omega) ?_⟩⟩
    -- the shelves
    refine ⟨_, rfl, l, xs, rfl, hl, for_enum (K := K) (a := l) (xs := xs) (fun i σ H' => Same H H' ∧ (∀ j x, j < i → ss[j]? = some x → ShelfOk x) ∧ ∃ v3 v4 : Option V, σ = [some (.ref l), some (.int a), some (.ref m), v3, v4, none]) ⟨Same.refl _, fun j x h => absurd h (Nat.not_lt_zero _), none, none, rfl⟩ (fun i σ H' _ h => Same.l h.1 hl) ?_ ?_⟩
    · rintro i x σ H' p hx ⟨s, good, v3, v4, rfl⟩ np
      obtain ⟨d, hd, dx⟩ := dps_of_get dl hx
      obtain ⟨sh, hsh, rfl⟩ : ∃ sh, ss[i]? = some sh ∧ d = sh.d := by
        unfold dshelves at hd
        rw [List.getElem?_map] at hd
        cases e : ss[i]? with
        | none =>
          rw [e] at hd
          cases hd
        | some z =>
          rw [e] at hd
          exact ⟨z, rfl, (Option.some.inj hd).symm⟩
      have s2 := Same.new (o := .tup [.int (i : Nat), x]) s np
      refine ⟨p, _, rfl, tup_new, rfl, _, _, rfl, _, _, rfl, rfl, ?_⟩
      refine ⟨_, rfl, x, sh, rfl, dp_mono s2 dx, fun b H2 hb s3 => ⟨_, rfl, ?_⟩⟩
      cases b with
      | true =>
        have ok1 := hb.mp rfl
        refine itnB rfl ⟨s2.trans s3, fun j y hj hy => ?_, _, _, rfl⟩
        by_cases e : j = i
        · subst e
          rw [hsh] at hy
          cases hy
          exact ok1
        · exact good j y (by omega) hy
      | false =>
        have no1 : ¬ ShelfOk sh := fun z => absurd (hb.mpr z) Bool.false_ne_true
        have er : r = some (("shelf" : Str), (i : Int)) := by
          cases bad with
          | shelves h => omega
          | @shelf i2 s2 h1 h5 g e b =>
            have e2 : i2 = i := by
              rcases Nat.lt_trichotomy i2 i with c | c | c
              · exact absurd (good i2 _ c e) b
              · exact c
              · exact absurd (g i _ c hsh) no1
            rw [e2]
          | aisle h1 h5 g b => exact absurd (g _ (List.mem_of_getElem? hsh)) no1
          | wishes h1 h5 g a0 a1 b => exact absurd (g _ (List.mem_of_getElem? hsh)) no1
          | wish h1 h5 g a0 a1 n5 k e b => exact absurd (g _ (List.mem_of_getElem? hsh)) no1
          | none h => exact absurd (h.sh _ (List.mem_of_getElem? hsh)) no1
        have oo := (o _ _ er).mono (s2.trans s3)
        refine itnBf rfl ?_
        exact ⟨_, rfl, mk2 X_BadStore.T oo⟩
    rintro σ H1 ⟨s, good, v3, v4, rfl⟩
    rw [lx] at good
    have allG : ∀ x ∈ ss, ShelfOk x := fun x hx => by
      obtain ⟨j, hj⟩ := List.getElem?_of_mem hx
      obtain ⟨hj2, _⟩ := List.getElem?_eq_some_iff.mp hj
      exact good j x hj2 hj
    have hl1 := Same.l s hl
    have hm1 := Same.l s hm
    by_cases ha : a < 0 ∨ ss.length < a
    · have er : r = some (("aisle" : Str), 0) := by
        cases bad with
        | shelves h => omega
        | shelf h1 h5 g e b => exact absurd (allG _ (List.mem_of_getElem? e)) b
        | aisle h1 h5 g b => rfl
        | wishes h1 h5 g a0 a1 b => omega
        | wish h1 h5 g a0 a1 n5 k e b => omega
        | none h =>
          have := h.a0
          have := h.a1
          dsimp only at *
          omega
      have oo := (o _ _ er).mono s
      refine ⟨_, rfl, _, _, rfl, rfl, _, rfl, ?_⟩
      by_cases h1 : 0 ≤ a
      · refine itD h1 ⟨_, rfl, l, xs, rfl, .inl hl1, _, _, rfl, rfl, _, rfl, itnF (by omega) ?_⟩
        exact mk2 X_BadStore.T oo
      · refine itF h1 ⟨_, rfl, iteT ?_⟩
        exact mk2 X_BadStore.T oo
    refine ⟨_, rfl, _, _, rfl, rfl, _, rfl, itD (by omega) ⟨_, rfl, l, xs, rfl, .inl hl1, _, _, rfl, rfl, _, rfl, iteNS (by omega) ?_⟩⟩
    by_cases hw : 5 < ys.length
    · have er : r = some (("wishes" : Str), 0) := by
        cases bad with
        | shelves h => omega
        | shelf h1 h5 g e b => exact absurd (allG _ (List.mem_of_getElem? e)) b
        | aisle h1 h5 g b => omega
        | wishes h1 h5 g a0 a1 b => rfl
        | wish h1 h5 g a0 a1 n5 k e b => omega
        | none h =>
          have e1 := h.w5
          have e2 := (dps_len (dm rfl)).trans (List.length_map ..)
          dsimp only at e1
          omega
      have oo := (o _ _ er).mono s
      refine ⟨_, rfl, m, ys, rfl, .inl hm1, _, _, rfl, rfl, _, rfl, itD (by omega) ?_⟩
      exact mk2 X_BadStore.T oo
    refine ⟨_, rfl, m, ys, rfl, .inl hm1, _, _, rfl, rfl, _, rfl, itF (by omega) ?_⟩
    have dm' : DpAll K H ys (dwishes ws) := by
      cases bad with
      | shelves h => omega
      | shelf h1 h5 g e b => exact absurd (allG _ (List.mem_of_getElem? e)) b
      | aisle h1 h5 g b => omega
      | wishes h1 h5 g a0 a1 b => omega
      | wish h1 h5 g a0 a1 n5 k e b => exact dm (show (("wish" : Str) == "wish") = true by decide +kernel)
      | none h => exact dm rfl
    have ly : ys.length = ws.length := (dps_len dm').trans (List.length_map ..)
    refine ⟨_, rfl, m, ys, rfl, hm1, for_enum (K := K) (a := m) (xs := ys) (fun i σ H' => Same H H' ∧ (∀ j y, j < i → ws[j]? = some y → WishOk ss.length ys.length y) ∧ ∃ v3 v5 : Option V, σ = [some (.ref l), some (.int a), some (.ref m), v3, v4, v5]) ⟨s, fun j x h => absurd h (Nat.not_lt_zero _), v3, none, rfl⟩ (fun i σ H' _ h => Same.l h.1 hm) ?_ ?_⟩
    · rintro i x σ H' p hx ⟨s, goodW, v3, v5, rfl⟩ np
      obtain ⟨d, hd, dx⟩ := dps_of_get dm' hx
      obtain ⟨sh, hsh, rfl⟩ : ∃ sh, ws[i]? = some sh ∧ d = sh.d := by
        unfold dwishes at hd
        rw [List.getElem?_map] at hd
        cases e : ws[i]? with
        | none =>
          rw [e] at hd
          cases hd
        | some z =>
          rw [e] at hd
          exact ⟨z, rfl, (Option.some.inj hd).symm⟩
      have s2 := Same.new (o := .tup [.int (i : Nat), x]) s np
      refine ⟨p, _, rfl, tup_new, rfl, _, _, rfl, _, _, rfl, rfl, ?_⟩
      refine ⟨_, rfl, _, rfl, l, xs, rfl, .inl (Same.l s2 hl), _, rfl, m, ys, rfl, .inl (Same.l s2 hm), x, sh, _, _, rfl, dp_mono s2 dx, fun b H2 hb s3 => ⟨_, rfl, ?_⟩⟩
      rw [lx] at hb
      cases b with
      | true =>
        have ok1 := hb.mp rfl
        refine itnB rfl ⟨s2.trans s3, fun j y hj hy => ?_, _, _, rfl⟩
        by_cases e : j = i
        · subst e
          rw [hsh] at hy
          cases hy
          exact ok1
        · exact goodW j y (by omega) hy
      | false =>
        have no1 : ¬ WishOk ss.length ys.length sh := fun z => absurd (hb.mpr z) Bool.false_ne_true
        have er : r = some (("wish" : Str), (i : Int)) := by
          cases bad with
          | shelves h => omega
          | shelf h1 h5 g e b => exact absurd (allG _ (List.mem_of_getElem? e)) b
          | aisle h1 h5 g b => omega
          | wishes h1 h5 g a0 a1 b => omega
          | @wish i2 x2 h1 h5 g a0 a1 n5 k e b =>
            have e2 : i2 = i := by
              rcases Nat.lt_trichotomy i2 i with c | c | c
              · exact absurd (goodW i2 _ c e) b
              · exact c
              · exact absurd (k i _ c hsh) no1
            rw [e2]
          | none h =>
            have hw := h.ws _ (List.mem_of_getElem? hsh)
            dsimp only at hw
            rw [← ly] at hw
            exact absurd hw no1
        have oo := (o _ _ er).mono (s2.trans s3)
        refine itnBf rfl ?_
        exact ⟨_, rfl, mk2 X_BadStore.T oo⟩
    · rintro σ H2 ⟨s, goodW, v3, v5, rfl⟩
      have er : r = none := by
        cases bad with
        | shelves h => omega
        | shelf h1 h5 g e b => exact absurd (allG _ (List.mem_of_getElem? e)) b
        | aisle h1 h5 g b => omega
        | wishes h1 h5 g a0 a1 b => omega
        | wish h1 h5 g a0 a1 n5 k e b =>
          obtain ⟨hj2, _⟩ := List.getElem?_eq_some_iff.mp e
          exact absurd (goodW _ _ (by omega) e) b
        | none h => rfl
      exact q er H2 s
end

section
variable {P : Program} {w : World} {K : PySem.W.Frag} {mg : Str → Option Value} {base : Heap}
/-! BadStore.__init__: 0 self, 1 word, 2 number -/
abbrev s_BadStore___init__ : Stmt := inClass (topS 2) 0
abbrev N_BadStore___init__ : List Str := ["self", "word", "number"]
theorem sc_BadStore___init__ : FnScope N_BadStore___init__ ["self", "word", "number"] (defScope s_BadStore___init__) := ⟨rfl, rfl, rfl, by decide +kernel, rfl, by decide +kernel, by decide +kernel⟩
theorem ok_BadStore_init {f CB : Addr} {fd : FuncData} (F : Fun K "__init__" "BadStore.__init__" s_BadStore___init__ f fd) (n1 : PySem.W.findIn K (.ref CB) "word" = some none) (n2 : PySem.W.findIn K (.ref CB) "number" = some none) :
    FnOk P w K mg base CX0 1 f fd ["self", "word", "number"] (spX2 K CB "word" "number") := by
  refine F.ok sc_BadStore___init__ (fun vs H Q E h => ?_) (fun cdv A outer s H vs Q E hr h => ?_)
  · obtain ⟨a, x, y, rfl, _⟩ := h
    rfl
  · obtain ⟨a, x, y, rfl, T, ea, q⟩ := h
    refine ⟨_, (pss_cons (ps_ost (pv 0) (pv 1) rfl)
      (pss_one (ps_ost (pv 0) (pv 2) rfl))), ?_⟩
    refine ⟨_, rfl, _, rfl, a, CB, rfl, T, n1, .inl ⟨ea, fun dx ndx ne => ?_⟩⟩
    refine ⟨_, rfl, _, rfl, a, CB, rfl, T, n2, .inr ⟨dx, [("word", x)], upd_same, ?_, by simp, q dx ndx ne⟩⟩
    rw [upd_ne ne, upd_same]
end

section
variable {P : Program} {w : World} {K : PySem.W.Frag} {mg : Str → Option Value} {base : Heap}
def spInitX (K : PySem.W.Frag) (C CB : Addr) : Sp := fun vs H Q E => ∃ (p dx l m : Addr) (a : Int) (xs ys : List V) (ss : List Shelf) (ws : List Wish) (r : Option (Str × Int)) (B : Hp), vs = [.ref p, .ref l, .int a, .ref m] ∧ H p = some (.ins C dx []) ∧ Same B H ∧ B p = none ∧
  SqL K B l xs ∧ DpAll K B xs (dshelves ss) ∧ SqL K B m ys ∧ (Bad.far r = true → DpAll K B ys (dwishes ws)) ∧ Bad ss a ws ys.length r ∧ (r = none → ∀ H' dx' l' m' xs' ys', Same B H' → ObAt K C H' p dx' l' m' xs' ys' ⟨ss, a, ws⟩ → B l' = none → B m' = none → Q .non H') ∧ ∀ x n, r = some (x, n) → Out2 E B CB "word" "number" (.str x) (.int n)
/-! Store.__init__: 0 self, 1 shelves, 2 aisle, 3 wishes -/
abbrev s_Store___init__ : Stmt := inClass (topS 13) 0
abbrev N_Store___init__ : List Str := ["self", "shelves", "aisle", "wishes"]
theorem sc_Store___init__ : FnScope N_Store___init__ ["self", "shelves", "aisle", "wishes"] (defScope s_Store___init__) := ⟨rfl, rfl, rfl, by decide +kernel, rfl, by decide +kernel, by decide +kernel⟩
theorem ok_Store_init {f f1 C CB fS fW : Addr} {fd fd1 fdS fdW : FuncData} (F : Fun K "__init__" "Store.__init__" s_Store___init__ f fd) (T : Tx K mg) (TS : TSx K mg C f fS fW fd fdS fdW) (C__refuse_no_store : CalX P w K mg base 3 "_refuse_no_store" ["shelves", "aisle", "wishes"] (spRefuseX K CB) f1 fd1) :
    FnOk P w K mg base (L2.CX P w) 4 f fd ["self", "shelves", "aisle", "wishes"] (spInitX K C CB) := by
  refine F.okX sc_Store___init__ (fun vs H Q E h => ?_) (fun cdv A outer s H vs Q E hr h => ?_)
  · obtain ⟨p, dx, l, m, a, xs, ys, ss, ws, r, B, rfl, _⟩ := h
    rfl
  · obtain ⟨p, dx, l, m, a, xs, ys, ss, ws, r, B, rfl, hp, s, bp, hl, dl, hm, dm0, bad, q, o⟩ := h
    refine ⟨_, (pss_cons (ps_expr (pe_call C__refuse_no_store.G (hr.mono (by decide)) (by rfl) C__refuse_no_store.g C__refuse_no_store.kp C__refuse_no_store.b .nil (passes_call (takes_of rfl rfl rfl rfl) (fun _ _ _ _ h => h)) (pa_cons (pv 1) (pa_cons (pv 2) (pa_cons (pv 3) pa_nil)))))
      (pss_cons (ps_fld (pv 0) (pe_callTy (klist_of (K := K)) (by rfl) T.n_list (by decide +kernel) (pa_cons (pv 1) pa_nil)) rfl)
      (pss_cons (ps_fld (pv 0) (pe_callTy (klist_of (K := K)) (by rfl) T.n_list (by decide +kernel) (pa_cons (pv 3) pa_nil)) rfl)
      (pss_one (ps_fld (pv 0) (pv 2) rfl))))), ?_⟩
    refine ⟨_, rfl, _, rfl, _, rfl, l, m, a, xs, ys, ss, ws, r, rfl, Same.l s hl, dps_mono s dl, Same.l s hm, fun h => dps_mono s (dm0 h), bad, fun er H1 s1 => ?_, fun x n er => (o x n er).mono s⟩
    have q := q er
    have dm : DpAll K B ys (dwishes ws) := dm0 (by rw [er]; rfl)
    clear o bad dm0
    generalize hS : (⟨ss, a, ws⟩ : Sto) = S at q
    have dl' : DpAll K B xs (dshelves S.shelves) := by rw [← hS]; exact dl
    have dm' : DpAll K B ys (dwishes S.wishes) := by rw [← hS]; exact dm
    have ea : S.aisle = a := by rw [← hS]
    have s01 := s.trans s1
    -- self._shelves = list(shelves)
    refine ⟨_, rfl, l, xs, rfl, .inl (Same.l s01 hl), fun l2 nl2 => ?_⟩
    have hp1 := s1 _ _ hp
    have np2 : p ≠ l2 := ne_of_none hp1 nl2
    have hp2 : (upd H1 l2 (.lst xs)) p = some (.ins C dx []) := by
      rw [upd_ne np2]
      exact hp1
    refine ⟨_, rfl, p, C, dx, [], rfl, hp2, TS.cl, TS.nS, by simp, ?_⟩
    have s2 : Same (upd B l2 (.lst xs)) (upd H1 l2 (.lst xs)) := Same.grow s01 nl2
    have bp2 : (upd B l2 (.lst xs)) p = none := by
      rw [upd_ne np2]
      exact bp
    have s3 : Same (upd B l2 (.lst xs)) (upd (upd H1 l2 (.lst xs)) p (.ins C dx (putF "_shelves" (.ref l2) []))) := Same.put s2 bp2
    have hp3 : (upd (upd H1 l2 (.lst xs)) p (.ins C dx (putF "_shelves" (.ref l2) []))) p = _ := upd_same
    have sB2 : Same B (upd B l2 (.lst xs)) := same_new (s01.free nl2)
    generalize upd (upd H1 l2 (.lst xs)) p (.ins C dx (putF "_shelves" (.ref l2) [])) = H3 at s3 hp3
    have hB2 : SqL K (upd B l2 (.lst xs)) l2 xs := lst_new
    generalize upd B l2 (.lst xs) = B2 at s3 bp2 sB2 hB2
    -- self._wishes = list(wishes)
    refine ⟨_, rfl, m, ys, rfl, .inl (Same.l (sB2.trans s3) hm), fun m2 nm2 => ?_⟩
    have nb2 : B m2 = none := sB2.free (s3.free nm2)
    have np4 : p ≠ m2 := ne_of_none hp3 nm2
    have hp4 : (upd H3 m2 (.lst ys)) p = some (.ins C dx (putF "_shelves" (.ref l2) [])) := by
      rw [upd_ne np4]
      exact hp3
    refine ⟨_, rfl, p, C, dx, _, rfl, hp4, TS.cl, TS.nW, Nat.lt_of_le_of_lt (putF_len _ _ _) (by simp), ?_⟩
    have s5 : Same (upd B2 m2 (.lst ys)) (upd H3 m2 (.lst ys)) := Same.grow s3 nm2
    have bp5 : (upd B2 m2 (.lst ys)) p = none := by
      rw [upd_ne np4]
      exact bp2
    have sB5 : Same B2 (upd B2 m2 (.lst ys)) := same_new (s3.free nm2)
    have hB5 : SqL K (upd B2 m2 (.lst ys)) m2 ys := lst_new
    have s6 : Same (upd B2 m2 (.lst ys)) (upd (upd H3 m2 (.lst ys)) p (.ins C dx (putF "_wishes" (.ref m2) (putF "_shelves" (.ref l2) [])))) := Same.put s5 bp5
    have hp6 : (upd (upd H3 m2 (.lst ys)) p (.ins C dx (putF "_wishes" (.ref m2) (putF "_shelves" (.ref l2) [])))) p = _ := upd_same
    generalize upd (upd H3 m2 (.lst ys)) p (.ins C dx (putF "_wishes" (.ref m2) (putF "_shelves" (.ref l2) []))) = H6 at s6 hp6
    generalize upd B2 m2 (.lst ys) = B5 at s6 bp5 sB5 hB5
    -- self.aisle = aisle
    refine ⟨_, rfl, _, rfl, p, C, dx, _, rfl, hp6, TS.cl, TS.nA, Nat.lt_of_le_of_lt (putF_len _ _ _) (Nat.lt_of_le_of_lt (Nat.succ_le_succ (putF_len _ _ _)) (by simp)), ?_⟩
    rw [← ea]
    have s7 := Same.put (o := .ins C dx (fsS l2 m2 S.aisle)) s6 bp5
    have sB := sB2.trans sB5
    exact q _ dx l2 m2 xs ys (sB.trans s7) ⟨upd_same, Same.l (sB5.trans s7) hB2, dps_mono (sB.trans s7) dl', Same.l s7 hB5, dps_mono (sB.trans s7) dm'⟩ (s01.free nl2) nb2
end

section
variable {P : Program} {w : World} {K : PySem.W.Frag} {mg : Str → Option Value} {base : Heap}
def spShelvesM (K : PySem.W.Frag) (C : Addr) : Sp := fun vs H Q _ => ∃ (p : Addr) (S : Sto), vs = [.ref p] ∧ Ob K C H p S ∧ ∀ q xs, H q = none → DpAll K H xs (dshelves S.shelves) → Q (.ref q) (upd H q (.lst xs))
def spWishesM (K : PySem.W.Frag) (C : Addr) : Sp := fun vs H Q _ => ∃ (p : Addr) (S : Sto), vs = [.ref p] ∧ Ob K C H p S ∧ ∀ q xs, H q = none → DpAll K H xs (dwishes S.wishes) → Q (.ref q) (upd H q (.lst xs))
/-! Store.shelves: 0 self -/
abbrev s_Store_shelves : Stmt := inClass (topS 13) 1
abbrev N_Store_shelves : List Str := ["self"]
theorem sc_Store_shelves : FnScope N_Store_shelves ["self"] (defScope s_Store_shelves) := ⟨rfl, rfl, rfl, by decide +kernel, rfl, by decide +kernel, by decide +kernel⟩
theorem ok_Store_shelves {f C fI fW : Addr} {fd fdI fdW : FuncData} (F : Fun K "shelves" "Store.shelves" s_Store_shelves f fd) (T : Tx K mg) (TS : TSx K mg C fI f fW fdI fd fdW) : FnOk P w K mg base CX0 1 f fd ["self"] (spShelvesM K C) := by
  refine F.ok sc_Store_shelves (fun vs H Q E h => ?_) (fun cdv A outer s H vs Q E hr h => ?_)
  · obtain ⟨p, S, rfl, _⟩ := h
    rfl
  · obtain ⟨p, S, rfl, ⟨dx, l, m, xs, ys, ob⟩, q⟩ := h
    refine ⟨_, (pss_one (ps_ret (pe_callTy (klist_of (K := K)) (by rfl) T.n_list (by decide +kernel) (pa_cons (pe_fld (pv 0) rfl) pa_nil)))), ?_⟩
    exact ⟨_, rfl, p, C, dx, _, _, rfl, ob.o, TS.cl, TS.nS, fsS_sh, l, xs, rfl, .inl ob.l, fun r nr => q r xs nr ob.dx⟩
/-! Store.wishes: 0 self -/
abbrev s_Store_wishes : Stmt := inClass (topS 13) 2
abbrev N_Store_wishes : List Str := ["self"]
theorem sc_Store_wishes : FnScope N_Store_wishes ["self"] (defScope s_Store_wishes) := ⟨rfl, rfl, rfl, by decide +kernel, rfl, by decide +kernel, by decide +kernel⟩
theorem ok_Store_wishes {f C fI fS : Addr} {fd fdI fdS : FuncData} (F : Fun K "wishes" "Store.wishes" s_Store_wishes f fd) (T : Tx K mg) (TS : TSx K mg C fI fS f fdI fdS fd) : FnOk P w K mg base CX0 1 f fd ["self"] (spWishesM K C) := by
  refine F.ok sc_Store_wishes (fun vs H Q E h => ?_) (fun cdv A outer s H vs Q E hr h => ?_)
  · obtain ⟨p, S, rfl, _⟩ := h
    rfl
  · obtain ⟨p, S, rfl, ⟨dx, l, m, xs, ys, ob⟩, q⟩ := h
    refine ⟨_, (pss_one (ps_ret (pe_callTy (klist_of (K := K)) (by rfl) T.n_list (by decide +kernel) (pa_cons (pe_fld (pv 0) rfl) pa_nil)))), ?_⟩
    exact ⟨_, rfl, p, C, dx, _, _, rfl, ob.o, TS.cl, TS.nW, fsS_wi, m, ys, rfl, .inl ob.m, fun r nr => q r ys nr ob.dy⟩
end

theorem room65 {k : Nat} {A : Around} (hr : Room k A) : A.units + 65 < cLine := by
  have := hr.un
  omega
/-! ### data that are laid flat enough to be compared -/
def Lay (n : Nat) (d : PyData) : Prop := d.canLay0 = true ∧ d.depth ≤ n
def Lays (n : Nat) (ds : List PyData) : Prop := PyData.canLayAll0 ds = true ∧ PyData.depthAll ds ≤ n
theorem Lay.shaped {n : Nat} {d : PyData} (h : Lay n d) (hn : n ≤ 64 := by decide) : SeqAt.shaped d = true := by
  unfold SeqAt.shaped
  rw [h.1, Bool.true_and]
  exact decide_eq_true (Nat.le_trans h.2 hn)
theorem Lay.refl {n : Nat} {d : PyData} (h : Lay n d) : PyData.eqv d d = true := SeqAt.eqv_refl d h.1
theorem lays_nil {n : Nat} : Lays n [] := ⟨rfl, Nat.zero_le _⟩
theorem Lays.cons {n : Nat} {d : PyData} {ds : List PyData} (h : Lay n d) (g : Lays n ds) : Lays n (d :: ds) :=
  ⟨by unfold PyData.canLayAll0; rw [h.1, g.1]; rfl, by unfold PyData.depthAll; exact Nat.max_le.mpr ⟨h.2, g.2⟩⟩
theorem Lays.tup {n : Nat} {ds : List PyData} (h : Lays n ds) : Lay (n + 1) (.tuple ds) := ⟨by unfold PyData.canLay0; exact h.1, by unfold PyData.depth; exact Nat.succ_le_succ h.2⟩
theorem Lays.lst {n : Nat} {ds : List PyData} (h : Lays n ds) : Lay (n + 1) (.list ds) := ⟨by unfold PyData.canLay0; exact h.1, by unfold PyData.depth; exact Nat.succ_le_succ h.2⟩
theorem lay_int {n : Nat} {i : Int} : Lay n (.int i) := ⟨by unfold PyData.canLay0; rfl, by unfold PyData.depth; exact Nat.zero_le _⟩
theorem lay_none {n : Nat} : Lay n .none := ⟨by unfold PyData.canLay0; rfl, by unfold PyData.depth; exact Nat.zero_le _⟩
theorem lay_str {n : Nat} {x : Str} (h : PyData.strOk x = true) : Lay n (.str x) := ⟨by unfold PyData.canLay0; exact h, by unfold PyData.depth; exact Nat.zero_le _⟩
theorem Lays.all {n : Nat} {ds : List PyData} (h : ∀ d ∈ ds, Lay n d) : Lays n ds := by
  induction ds with
  | nil => exact lays_nil
  | cons d ds ih => exact .cons (h d List.mem_cons_self) (ih fun e he => h e (List.mem_cons_of_mem _ he))
theorem Lay.more {n m : Nat} {d : PyData} (h : Lay n d) (e : n ≤ m) : Lay m d := ⟨h.1, Nat.le_trans h.2 e⟩
theorem lays_ints {n : Nat} (l : List Int) : Lays n (dints l) := .all fun d hd => by
  obtain ⟨i, _, rfl⟩ := List.mem_map.mp hd
  exact lay_int
theorem Shelf.lay (s : Shelf) : Lay 1 s.d := (Lays.cons lay_int (Lays.cons lay_int (Lays.cons lay_int lays_nil))).tup
theorem ok_fetch : PyData.strOk "fetch" = true := by decide +kernel
theorem ok_bring : PyData.strOk "bring" = true := by decide +kernel
theorem ok_left : PyData.strOk "left" = true := by decide +kernel
theorem ok_right : PyData.strOk "right" = true := by decide +kernel
theorem ok_any : PyData.strOk "any" = true := by decide +kernel
theorem Wish.lay {n m : Int} {x : Wish} (h : WishOk n m x) : Lay 2 x.d := by
  have h1 : PyData.strOk x.kind = true := by
    rcases h.kind with e | e
    · rw [e]; exact ok_fetch
    · rw [e]; exact ok_bring
  have h2 : PyData.strOk x.side = true := by
    rcases h.side with e | e | e
    · rw [e]; exact ok_left
    · rw [e]; exact ok_right
    · rw [e]; exact ok_any
  exact (Lays.cons (lay_str h1) (Lays.cons lay_int (Lays.cons (lay_str h2) (Lays.cons lay_int (Lays.cons lay_int (Lays.cons (lays_ints _).tup lays_nil)))))).tup
theorem shelves_lay (l : List Shelf) : Lay 2 (.list (dshelves l)) := (Lays.all fun d hd => by
  obtain ⟨i, _, rfl⟩ := List.mem_map.mp hd
  exact i.lay).lst
theorem wishes_lay {n m : Int} {l : List Wish} (h : ∀ x ∈ l, WishOk n m x) : Lay 3 (.list (dwishes l)) := (Lays.all fun d hd => by
  obtain ⟨i, hi, rfl⟩ := List.mem_map.mp hd
  exact Wish.lay (h i hi)).lst
/-! ### a list that grows, without the draws -/
structure Acq (K : PySem.W.Frag) (B0 B H : Hp) (l : Addr) (xs : List V) (ds : List PyData) : Prop where
  s : Same B0 B
  R : Same B H
  bl : B l = none
  el : H l = some (.lst xs)
  dx : DpAll K B xs ds
section
variable {K : PySem.W.Frag} {B0 B H H' : Hp} {l p : Addr} {xs : List V} {ds : List PyData} {o : HO}
theorem Acq.start (s : Same B0 B) (R : Same B H) (h : H l = none) : Acq K B0 B (upd H l (.lst [])) l [] [] := ⟨s, Same.new R h, R.free h, upd_same, .nil⟩
theorem Acq.grow (A : Acq K B0 B H l xs ds) (h : H p = none) : Acq K B0 (upd B p o) (upd H p o) l xs ds := by
  have n : l ≠ p := ne_of_none A.el h
  have z := A.R.free h
  exact ⟨A.s.trans (same_new z), Same.grow A.R h, by rw [upd_ne n]; exact A.bl, by rw [upd_ne n]; exact A.el, dps_mono (same_new z) A.dx⟩
theorem Acq.app {v : V} {d : PyData} (A : Acq K B0 B H l xs ds) (h : Dp K B v d) : Acq K B0 B (upd H l (.lst (xs ++ [v]))) l (xs ++ [v]) (ds ++ [d]) :=
  ⟨A.s, Same.put A.R A.bl, A.bl, upd_same, dps_app A.dx (.cons h .nil)⟩
/-- what a pure def made beside it -/
theorem Acq.pure (A : Acq K B0 B H l xs ds) (s : Same H H') : Acq K B0 (del1 H' l) H' l xs ds := by
  have s1 : Same B (del1 H' l) := same_del (A.R.trans s) A.bl
  exact ⟨A.s.trans s1, fun b o e => by
    by_cases hb : b = l
    · rw [hb, del1_same] at e
      cases e
    · rw [del1_ne hb] at e
      exact e, del1_same, s _ _ A.el, dps_mono s1 A.dx⟩
theorem Acq.keep (A : Acq K B0 B H l xs ds) (s : Same H H') : Acq K B0 B H' l xs ds := ⟨A.s, A.R.trans s, A.bl, s _ _ A.el, A.dx⟩
theorem Acq.all (A : Acq K B0 B H l xs ds) : Same B0 H ∧ SqL K H l xs ∧ DpAll K H xs ds := ⟨A.s.trans A.R, SqL.of A.el, dps_mono A.R A.dx⟩
end
/-! ### in, not in, of a list of ints -/
section
variable {z : Int} {l : List Int} {A B : Prop}
theorem in_y (h : z ∈ l) (q : A) : if (if false = true then !inV (V.int z) (l.map V.int) else inV (V.int z) (l.map V.int)) = true then A else B := by
  rw [inV_ints.mpr h]
  exact iteT q
theorem inF {l : List Int} {z : Int} (h : z ∉ l) : inV (V.int z) (l.map V.int) = false := by
  cases e : inV (V.int z) (l.map V.int) with
  | false => rfl
  | true => exact absurd (inV_ints.mp e) h
theorem in_n (h : z ∉ l) (q : B) : if (if false = true then !inV (V.int z) (l.map V.int) else inV (V.int z) (l.map V.int)) = true then A else B := by
  rw [inF h]
  exact iteF q
theorem ni_y (h : z ∉ l) (q : A) : if (if true = true then !inV (V.int z) (l.map V.int) else inV (V.int z) (l.map V.int)) = true then A else B := by
  rw [inF h]
  exact iteT q
theorem ni_n (h : z ∈ l) (q : B) : if (if true = true then !inV (V.int z) (l.map V.int) else inV (V.int z) (l.map V.int)) = true then A else B := by
  rw [inV_ints.mpr h]
  exact iteF q
end
theorem sne {a b : Str} (h : ¬ a = b) : ¬ (V.str a = V.str b) := fun z => h (V.str.inj z)
theorem ine {a b : Int} (h : ¬ a = b) : ¬ (V.int a = V.int b) := fun z => h (V.int.inj z)
theorem int_item {l : List Int} {i : Nat} {y : V} (h : (l.map V.int)[i]? = some y) : ∃ z, l[i]? = some z ∧ y = V.int z := by
  rw [List.getElem?_map] at h
  cases e : l[i]? with
  | none =>
    rw [e] at h
    cases h
  | some z =>
    rw [e] at h
    exact ⟨z, rfl, (Option.some.inj h).symm⟩
theorem take_snoc {α : Type} {l : List α} {i : Nat} {z : α} (h : l[i]? = some z) : l.take (i + 1) = l.take i ++ [z] := by
  rw [List.take_add_one, h]
  rfl
theorem two_dp {K : PySem.W.Frag} {H : Hp} {a : Addr} {r : Str} {n : Int} (h : SqT K H a [.str r, .int n]) : Dp K H (.ref a) (.tuple [.str r, .int n]) := .tup h (.cons (.str _) (.cons (.int _) .nil))
theorem pair1 {K : PySem.W.Frag} {H : Hp} {a : Addr} {r : Str} (h : SqT K H a [.str r]) : Dp K H (.ref a) (.tuple [.str r]) := .tup h (.cons (.str _) .nil)
theorem filter_snoc {α : Type} {p : α → Bool} {l : List α} {i : Nat} {t : α} (h : l[i]? = some t) : (l.take (i + 1)).filter p = (l.take i).filter p ++ (if p t = true then [t] else []) := by
  rw [take_snoc h, List.filter_append]
  cases e : p t <;> simp [List.filter, e]
theorem Rising.len {lo n : Int} {l : List Int} (h : Rising lo n l) : l.length ≤ (n - lo).toNat := by
  induction l generalizing lo with
  | nil => exact Nat.zero_le _
  | cons i r ih =>
    obtain ⟨a, b, c⟩ := h
    have := ih c
    rw [List.length_cons]
    omega

/-! ### what does not hang on a list that is left out -/
theorem RowSt.pure {K : PySem.W.Frag} {ρ : RowP} {B H H' : Hp} (R : RowSt K ρ B H) (s : Same H H') : RowSt K ρ B H' := by
  obtain ⟨n1, n2, e, g⟩ := R.row
  exact ⟨R.same.trans s, R.free, R.scr, n1, n2, s _ _ e, g⟩
mutual
def noL : PyData → Bool
  | .tuple ds => noLs ds
  | .list _ => false
  | .dict _ => false
  | _ => true
def noLs : List PyData → Bool
  | [] => true
  | d :: ds => noL d && noLs ds
end
mutual
theorem dp_del {K : PySem.W.Frag} {B : Hp} {r : Addr} {zs : List V} (e : B r = some (.lst zs)) : ∀ {v : V} {d : PyData}, Dp K B v d → noL d = true → Dp K (del1 B r) v d
  | _, _, .non, _ => .non
  | _, _, .bl b, _ => .bl b
  | _, _, .int i, _ => .int i
  | _, _, .str x, _ => .str x
  | _, _, .lst _ _, h => absurd h (by unfold noL; decide)
  | _, _, .tup h g, q => .tup (sqt_del e h) (dps_del e g (by unfold noL at q; exact q))
theorem dps_del {K : PySem.W.Frag} {B : Hp} {r : Addr} {zs : List V} (e : B r = some (.lst zs)) : ∀ {vs : List V} {ds : List PyData}, DpAll K B vs ds → noLs ds = true → DpAll K (del1 B r) vs ds
  | _, _, .nil, _ => .nil
  | _, _, .cons h g, q => by
    unfold noLs at q
    obtain ⟨q1, q2⟩ := Bool.and_eq_true_iff.mp q
    exact .cons (dp_del e h q1) (dps_del e g q2)
end
theorem noL_ints (l : List Int) : noLs (dints l) = true := by
  induction l with
  | nil => rfl
  | cons i l ih =>
    show (noL (.int i) && noLs (dints l)) = true
    rw [ih]
    rfl
theorem noL_shelves (l : List Shelf) : noLs (dshelves l) = true := by
  induction l with
  | nil => rfl
  | cons i l ih =>
    show (noL i.d && noLs (dshelves l)) = true
    rw [ih]
    rfl
theorem noL_wishes (l : List Wish) : noLs (dwishes l) = true := by
  induction l with
  | nil => rfl
  | cons x l ih =>
    show (noL x.d && noLs (dwishes l)) = true
    rw [ih]
    show ((true && (true && (true && (true && (true && (noLs (dints x.after) && true)))))) && true) = true
    rw [noL_ints]
    rfl
theorem sql_del {K : PySem.W.Frag} {B : Hp} {r l : Addr} {xs zs : List V} (e : B r = some (.lst zs)) (n : xs ≠ zs) (h : SqL K B l xs) : SqL K (del1 B r) l xs := by
  rcases h with (h | ⟨o, h⟩) | h
  · refine .inl (.inl ?_)
    rw [del1_ne (fun z => by
      rw [z, e] at h
      cases h
      exact n rfl)]
    exact h
  · refine .inl (.inr ⟨o, ?_⟩)
    rw [del1_ne (fun z => by rw [z, e] at h; cases h)]
    exact h
  · exact .inr h
theorem no_int_tup {K : PySem.W.Frag} {B : Hp} {i : Int} {ds : List PyData} (h : Dp K B (.int i) (.tuple ds)) : False := by cases h
theorem not_row1 {K : PySem.W.Frag} {B : Hp} {x : V} {i : Int} {r : List V} {ss : List Shelf} (h : DpAll K B (x :: .int i :: r) (dshelves ss)) : False := by
  cases ss with
  | nil => cases h
  | cons s ss =>
    cases ss with
    | nil =>
      cases h with
      | cons _ h => cases h
    | cons s2 ss =>
      cases h with
      | cons _ h =>
        cases h with
        | cons h _ => exact no_int_tup h
theorem not_row2 {K : PySem.W.Frag} {B : Hp} {x : V} {i : Int} {r : List V} {ss : List Wish} (h : DpAll K B (x :: .int i :: r) (dwishes ss)) : False := by
  cases ss with
  | nil => cases h
  | cons s ss =>
    cases ss with
    | nil =>
      cases h with
      | cons _ h => cases h
    | cons s2 ss =>
      cases h with
      | cons _ h =>
        cases h with
        | cons h _ => exact no_int_tup h
theorem ob_del {K : PySem.W.Frag} {C : Addr} {H : Hp} {r p : Addr} {x : V} {i j : Int} {S : Sto} (e : H r = some (.lst [x, .int i, .int j])) (h : Ob K C H p S) : Ob K C (del1 H r) p S := by
  obtain ⟨dx, l, m, xs, ys, o⟩ := h
  refine ⟨dx, l, m, xs, ys, ?_, sql_del e (fun z => ?_) o.l, dps_del e o.dx (noL_shelves _), sql_del e (fun z => ?_) o.m, dps_del e o.dy (noL_wishes _)⟩
  · rw [del1_ne (fun z => by
      have q := o.o
      rw [z, e] at q
      cases q)]
    exact o.o
  · have q := o.dx
    rw [z] at q
    exact not_row1 q
  · have q := o.dy
    rw [z] at q
    exact not_row2 q
/-- the row is known, B is all but it -/
theorem row_all {K : PySem.W.Frag} {ρ : RowP} {B H H' : Hp} (R : RowSt K ρ B H) (s : Same H H') : RowSt K ρ (del1 H' ρ.r) H' ∧ Same B (del1 H' ρ.r) := by
  obtain ⟨n1, n2, e, g⟩ := R.row
  have z := same_del (R.same.trans s) R.free
  exact ⟨⟨fun b o h => by
    by_cases hb : b = ρ.r
    · rw [hb, del1_same] at h
      cases h
    · rw [del1_ne hb] at h
      exact h, del1_same, Same.l z R.scr, n1, n2, s _ _ e, g⟩, z⟩

/-! ### expressions that only lay data down: what they give -/
def EvD (K : PySem.W.Frag) (σ : L2.St) (H : Hp) (t : TE) (d : PyData) : Prop := ∀ (H' : Hp) (Q : VK), Same H H' → (∀ v H'', Same H' H'' → Dp K H'' v d → Q v H'') → t σ H' Q
def Evs (K : PySem.W.Frag) (σ : L2.St) (H : Hp) (t : TA) (ds : List PyData) : Prop := ∀ (H' : Hp) (Q : List V → Hp → Prop), Same H H' → (∀ vs H'', Same H' H'' → DpAll K H'' vs ds → Q vs H'') → t σ H' Q
/-- a list of this walk's own -/
def EvR (K : PySem.W.Frag) (σ : L2.St) (H : Hp) (t : TE) (ds : List PyData) : Prop := ∀ (H' : Hp) (Q : VK), Same H H' → (∀ a xs H'', Same H' H'' → H'' a = some (.lst xs) → DpAll K H'' xs ds → Q (.ref a) H'') → t σ H' Q
/-- .. that is new -/
def EvL (K : PySem.W.Frag) (σ : L2.St) (H : Hp) (t : TE) (ds : List PyData) : Prop := ∀ (H' : Hp) (Q : VK), Same H H' → (∀ a xs H'', Same H' H'' → H' a = none → H'' a = some (.lst xs) → DpAll K H'' xs ds → Q (.ref a) H'') → t σ H' Q
section
variable {K : PySem.W.Frag} {σ : L2.St} {H : Hp}
theorem EvD.mono {H' : Hp} {t : TE} {d : PyData} (s : Same H H') (h : EvD K σ H t d) : EvD K σ H' t d := fun H2 Q s2 q => h H2 Q (s.trans s2) q
theorem ev_int {i : Int} : EvD K σ H (tC (.int i)) (.int i) := fun H' Q _ q => q _ H' (Same.refl _) (.int i)
theorem ev_str {i : Str} : EvD K σ H (tC (.str i)) (.str i) := fun H' Q _ q => q _ H' (Same.refl _) (.str i)
theorem ev_varI {k : Nat} {i : Int} (h : σ[k]? = some (some (.int i))) : EvD K σ H (tVar k) (.int i) := fun H' Q _ q => ⟨_, h, q _ H' (Same.refl _) (.int i)⟩
theorem ev_varS {k : Nat} {i : Str} (h : σ[k]? = some (some (.str i))) : EvD K σ H (tVar k) (.str i) := fun H' Q _ q => ⟨_, h, q _ H' (Same.refl _) (.str i)⟩
theorem ev_var {k : Nat} {v : V} {d : PyData} (h : σ[k]? = some (some v)) (hd : Dp K H v d) : EvD K σ H (tVar k) d := fun H' Q s q => ⟨_, h, q _ H' (Same.refl _) (dp_mono s hd)⟩
theorem ev_op {f : Int → Int → Int} {ta tb : TE} {i j : Int} (ha : EvD K σ H ta (.int i)) (hb : EvD K σ H tb (.int j)) : EvD K σ H (tOp (rI0 fun i j => V.int (f i j)) ta tb) (.int (f i j)) := fun H' Q s q => ha H' _ s fun v H1 s1 d1 => hb H1 _ (s.trans s1) fun u H2 s2 d2 => by
  rw [dp_int d1, dp_int d2]
  exact ⟨i, j, rfl, rfl, q _ H2 (s1.trans s2) (.int _)⟩
theorem ev_add {ta tb : TE} {i j : Int} (ha : EvD K σ H ta (.int i)) (hb : EvD K σ H tb (.int j)) : EvD K σ H (tOp (rI0 fun i j => V.int (i + j)) ta tb) (.int (i + j)) := ev_op (f := fun i j => i + j) ha hb
theorem ev_sub {ta tb : TE} {i j : Int} (ha : EvD K σ H ta (.int i)) (hb : EvD K σ H tb (.int j)) : EvD K σ H (tOp (rI0 fun i j => V.int (i - j)) ta tb) (.int (i - j)) := ev_op (f := fun i j => i - j) ha hb
theorem ev_neg {ta : TE} {i : Int} (ha : EvD K σ H ta (.int i)) : EvD K σ H (tUn (rU fun i => V.int (-i)) ta) (.int (-i)) := fun H' Q s q => ha H' _ s fun v H1 s1 d1 => by
  rw [dp_int d1]
  exact ⟨i, rfl, q _ H1 s1 (.int _)⟩
theorem evs_nil : Evs K σ H tNil [] := fun H' Q _ q => q [] H' (Same.refl _) .nil
theorem evs_cons {ta : TE} {tr : TA} {d : PyData} {ds : List PyData} (ha : EvD K σ H ta d) (hr : Evs K σ H tr ds) : Evs K σ H (tCons ta tr) (d :: ds) := fun H' Q s q => ha H' _ s fun v H1 s1 d1 => hr H1 _ (s.trans s1) fun vs H2 s2 d2 => q _ H2 (s1.trans s2) (.cons (dp_mono s2 d1) d2)
theorem ev_tup {ta : TA} {ds : List PyData} (ha : Evs K σ H ta ds) (hl : ds.length ≤ 1000 := by exact Nat.le_of_ble_eq_true rfl) : EvD K σ H (tTup ta) (.tuple ds) := fun H' Q s q => ha H' _ s fun vs H1 s1 d1 => ⟨small (by rw [dps_len d1]; exact hl), fun p np =>
  q _ _ (s1.trans (same_new np)) (.tup tup_new (dps_mono (same_new np) d1))⟩
theorem evl_lst {ta : TA} {ds : List PyData} (ha : Evs K σ H ta ds) (hl : ds.length ≤ 1000 := by exact Nat.le_of_ble_eq_true rfl) : EvL K σ H (tLst ta) ds := fun H' Q s q => ha H' _ s fun vs H1 s1 d1 => ⟨small (by rw [dps_len d1]; exact hl), fun p np =>
  q _ _ _ (s1.trans (same_new np)) (s1.free np) upd_same (dps_mono (same_new np) d1)⟩
theorem EvL.r {t : TE} {ds : List PyData} (h : EvL K σ H t ds) : EvR K σ H t ds := fun H' Q s q => h H' Q s fun a xs H'' s1 _ e d => q a xs H'' s1 e d
theorem EvL.d {t : TE} {ds : List PyData} (h : EvL K σ H t ds) : EvD K σ H t (.list ds) := fun H' Q s q => h H' Q s fun a xs H'' s1 _ e d => q _ H'' s1 (.lst (SqL.of e) d)
theorem evr_var {k : Nat} {a : Addr} {xs : List V} {ds : List PyData} (h : σ[k]? = some (some (.ref a))) (e : H a = some (.lst xs)) (hd : DpAll K H xs ds) : EvR K σ H (tVar k) ds := fun H' Q s q => ⟨_, h, q _ xs H' (Same.refl _) (s _ _ e) (dps_mono s hd)⟩
theorem evl_cat {ta tb : TE} {ds es : List PyData} (ha : EvR K σ H ta ds) (hb : EvR K σ H tb es) (hl : ds.length + es.length ≤ 1000) : EvL K σ H (tOp rCat ta tb) (ds ++ es) := fun H' Q s q => ha H' _ s fun a xs H1 s1 e1 d1 => hb H1 _ (s.trans s1) fun b ys H2 s2 e2 d2 =>
  ⟨a, b, xs, ys, rfl, rfl, s2 _ _ e1, e2, small (by rw [dps_len d1, dps_len d2]; exact hl), fun p np => q _ _ _ ((s1.trans s2).trans (same_new np)) ((s1.trans s2).free np) upd_same (dps_mono (same_new np) (dps_app (dps_mono s2 d1) d2))⟩
theorem dps_rep {H : Hp} {xs : List V} {ds : List PyData} (h : DpAll K H xs ds) : ∀ k : Nat, DpAll K H (List.replicate k xs).flatten (List.replicate k ds).flatten
  | 0 => .nil
  | k + 1 => by
    rw [List.replicate_succ, List.replicate_succ, List.flatten_cons, List.flatten_cons]
    exact dps_app h (dps_rep h k)
theorem evl_rep {ta tb : TE} {ds : List PyData} {k : Int} (ha : EvR K σ H ta ds) (hb : EvD K σ H tb (.int k)) (h0 : 0 ≤ k) (h1 : k ≤ 1000) (hl : ds.length * k.toNat ≤ 1000) : EvL K σ H (tOp rRep ta tb) (List.replicate k.toNat ds).flatten := fun H' Q s q => ha H' _ s fun a xs H1 s1 e1 d1 => hb H1 _ (s.trans s1) fun v H2 s2 d2 => by
  rw [dp_int d2]
  refine ⟨a, k, xs, rfl, rfl, s2 _ _ e1, by omega, by omega, small (by rw [dps_len d1]; exact hl), fun p np => q _ _ _ ((s1.trans s2).trans (same_new np)) ((s1.trans s2).free np) upd_same (dps_mono (s2.trans (same_new np)) (dps_rep d1 _))⟩
theorem evr_of {t : TE} {ds es : List PyData} (h : EvR K σ H t ds) (e : ds = es) : EvR K σ H t es := e ▸ h
theorem ev_of {t : TE} {d e : PyData} (h : EvD K σ H t d) (q : d = e) : EvD K σ H t e := q ▸ h
theorem EvL.go {t : TE} {ds : List PyData} {H' : Hp} {Q : VK} (h : EvL K σ H t ds) (s : Same H H') (q : ∀ a xs H'', Same H' H'' → H' a = none → H'' a = some (.lst xs) → DpAll K H'' xs ds → Q (.ref a) H'') : t σ H' Q := h H' Q s q
theorem EvD.go {t : TE} {d : PyData} {H' : Hp} {Q : VK} (h : EvD K σ H t d) (s : Same H H') (q : ∀ v H'', Same H' H'' → Dp K H'' v d → Q v H'') : t σ H' Q := h H' Q s q
theorem Evs.go {t : TA} {ds : List PyData} {H' : Hp} {Q : List V → Hp → Prop} (h : Evs K σ H t ds) (s : Same H H') (q : ∀ vs H'', Same H' H'' → DpAll K H'' vs ds → Q vs H'') : t σ H' Q := h H' Q s q
theorem EvL.set {t : TE} {ds : List PyData} {H' : Hp} {i : Nat} {tr : TS} {D : Ends} (h : EvL K σ H t ds) (s : Same H H') (q : ∀ a xs H'', Same H' H'' → H' a = none → H'' a = some (.lst xs) → DpAll K H'' xs ds → tr D (σ.set i (some (.ref a))) H'') : tSeq (tAsg t (gName i)) tr D σ H' := h H' _ s q
theorem EvL.asg {t : TE} {ds : List PyData} {H' : Hp} {i : Nat} {D : Ends} (h : EvL K σ H t ds) (s : Same H H') (q : ∀ a xs H'', Same H' H'' → H' a = none → H'' a = some (.lst xs) → DpAll K H'' xs ds → D.nx (σ.set i (some (.ref a))) H'') : tAsg t (gName i) D σ H' := h H' _ s q
theorem EvD.set {t : TE} {d : PyData} {H' : Hp} {i : Nat} {tr : TS} {D : Ends} (h : EvD K σ H t d) (s : Same H H') (q : ∀ v H'', Same H' H'' → Dp K H'' v d → tr D (σ.set i (some v)) H'') : tSeq (tAsg t (gName i)) tr D σ H' := h H' _ s q
theorem EvD.asg {t : TE} {d : PyData} {H' : Hp} {i : Nat} {D : Ends} (h : EvD K σ H t d) (s : Same H H') (q : ∀ v H'', Same H' H'' → Dp K H'' v d → D.nx (σ.set i (some v)) H'') : tAsg t (gName i) D σ H' := h H' _ s q
theorem EvD.ret {t : TE} {d : PyData} {H' : Hp} {D : Ends} (h : EvD K σ H t d) (s : Same H H') (q : ∀ v H'', Same H' H'' → Dp K H'' v d → D.rt v H'') : tRet t D σ H' := h H' _ s q
theorem ev_bool {b : Bool} : EvD K σ H (tC (.bl b)) (.bool b) := fun H' Q _ q => q _ H' (Same.refl _) (.bl b)
theorem cut_ft (xs : List V) (i j : Nat) : cutV xs (some (i : Int)) (some (j : Int)) = (xs.drop i).take (j - i) := by
  unfold cutV
  rw [HT.sIx_nat, HT.sIx_nat]
  refine List.ext_getElem? fun k => ?_
  rw [List.getElem?_take, List.getElem?_take, List.getElem?_drop, List.getElem?_drop]
  by_cases h1 : i ≤ xs.length
  · rw [Nat.min_eq_left h1]
    by_cases h2 : k < j - i
    · rw [if_pos h2]
      by_cases h3 : k < min j xs.length - i
      · rw [if_pos h3]
      · rw [if_neg h3, List.getElem?_eq_none (by omega)]
    · rw [if_neg h2, if_neg (by omega)]
  · rw [List.getElem?_eq_none (l := xs) (i := i + k) (by omega), if_neg (by omega)]
    split <;> rfl
theorem cut_t (xs : List V) (j : Nat) : cutV xs none (some (j : Int)) = xs.take j := by
  have e := cut_ft xs 0 j
  rw [List.drop_zero, Nat.sub_zero] at e
  rw [← e]
  unfold cutV
  rw [HT.sIx_none, HT.sIx_nat _ _ 0]
  simp
theorem dps_drop {vs : List V} {ds : List PyData} (h : DpAll K H vs ds) : ∀ n : Nat, DpAll K H (vs.drop n) (ds.drop n)
  | 0 => h
  | n + 1 => by
    cases ds with
    | nil =>
      rw [dps_nil h]
      exact .nil
    | cons d ds =>
      obtain ⟨x, r, rfl, _, hr⟩ := dps_cons h
      exact dps_drop hr n
/-- l[:j], l a list -/
theorem evl_to {k : Nat} {a : Addr} {xs : List V} {ds : List PyData} {j : Nat} {tj : TE} (h : σ[k]? = some (some (.ref a))) (hl : SqL K H a xs) (hd : DpAll K H xs ds) (hj : EvD K σ H tj (.int (j : Int))) : EvL K σ H (tSl (rSlL K) (tVar k) tNoPart (tPart tj)) (ds.take j) := fun H' Q s q =>
  ⟨_, h, hj H' _ s fun v H2 s2 d2 => ⟨(j : Int), dp_int d2, a, xs, rfl, Same.l (s.trans s2) hl, fun p np => by
    rw [cut_t]
    exact q p _ _ (s2.trans (same_new np)) (s2.free np) upd_same (dps_mono ((s.trans s2).trans (same_new np)) (dps_take hd j))⟩⟩
/-- l[i:j] -/
theorem evl_ft {k : Nat} {a : Addr} {xs : List V} {ds : List PyData} {i j : Nat} {ti tj : TE} (h : σ[k]? = some (some (.ref a))) (hl : SqL K H a xs) (hd : DpAll K H xs ds) (hi : EvD K σ H ti (.int (i : Int))) (hj : EvD K σ H tj (.int (j : Int))) : EvL K σ H (tSl (rSlL K) (tVar k) (tPart ti) (tPart tj)) ((ds.drop i).take (j - i)) := fun H' Q s q =>
  ⟨_, h, hi H' _ s fun u H1 s1 d1 => ⟨(i : Int), dp_int d1, hj H1 _ (s.trans s1) fun v H2 s2 d2 => ⟨(j : Int), dp_int d2, a, xs, rfl, Same.l ((s.trans s1).trans s2) hl, fun p np => by
    rw [cut_ft]
    exact q p _ _ ((s1.trans s2).trans (same_new np)) ((s1.trans s2).free np) upd_same (dps_mono (((s.trans s1).trans s2).trans (same_new np)) (dps_take (dps_drop hd i) _))⟩⟩⟩
/-- len(l) -/
theorem ev_len {k : Nat} {a : Addr} {xs : List V} {n : Int} (h : σ[k]? = some (some (.ref a))) (hl : SqL K H a xs) (e : (xs.length : Int) = n) : EvD K σ H (tCB (rLen K) (tCons (tVar k) tNil)) (.int n) := fun H' Q s q =>
  ⟨_, h, a, xs, rfl, .inl (Same.l s hl), by rw [e]; exact q _ H' (Same.refl _) (.int _)⟩
theorem ev_min {ta tb : TE} {i j : Int} (ha : EvD K σ H ta (.int i)) (hb : EvD K σ H tb (.int j)) : EvD K σ H (tCB (fun xs H Q => ∃ i j, xs = [V.int i, V.int j] ∧ Q (V.int (if j < i then j else i)) H) (tCons ta (tCons tb tNil))) (.int (min i j)) := fun H' Q s q => ha H' _ s fun v H1 s1 d1 => hb H1 _ (s.trans s1) fun u H2 s2 d2 => by
  rw [dp_int d1, dp_int d2]
  refine ⟨i, j, rfl, ?_⟩
  have e : (if j < i then j else i) = min i j := by split <;> omega
  rw [e]
  exact q _ H2 (s1.trans s2) (.int _)
theorem ev_eqI {ta tb : TE} {i j : Int} (ha : EvD K σ H ta (.int i)) (hb : EvD K σ H tb (.int j)) : EvD K σ H (tOp rEq ta tb) (.bool (decide (i = j))) := fun H' Q s q => ha H' _ s fun v H1 s1 d1 => hb H1 _ (s.trans s1) fun u H2 s2 d2 => by
  rw [dp_int d1, dp_int d2]
  refine ⟨rfl, ?_⟩
  have e : decide (V.int i = V.int j) = decide (i = j) := by
    by_cases h : i = j
    · rw [h, decide_eq_true rfl, decide_eq_true rfl]
    · rw [decide_eq_false h, decide_eq_false (ine h)]
  rw [e]
  exact q _ H2 (s1.trans s2) (.bl _)
theorem ev_ltI {ta tb : TE} {i j : Int} (ha : EvD K σ H ta (.int i)) (hb : EvD K σ H tb (.int j)) : EvD K σ H (tOp (rI0 fun i j => V.bl (decide (i < j))) ta tb) (.bool (decide (i < j))) := fun H' Q s q => ha H' _ s fun v H1 s1 d1 => hb H1 _ (s.trans s1) fun u H2 s2 d2 => by
  rw [dp_int d1, dp_int d2]
  exact ⟨i, j, rfl, rfl, q _ H2 (s1.trans s2) (.bl _)⟩
theorem ev_andB {ta tb : TE} {b c : Bool} (ha : EvD K σ H ta (.bool b)) (hb : EvD K σ H tb (.bool c)) : EvD K σ H (tAndV ta tb) (.bool (b && c)) := fun H' Q s q => ha H' _ s fun v H1 s1 d1 => by
  rw [dp_bool d1]
  refine ⟨b, rfl, ?_⟩
  cases b with
  | true => exact iteT (hb H1 _ (s.trans s1) fun u H2 s2 d2 => q _ H2 (s1.trans s2) d2)
  | false => exact iteF (q _ H1 s1 (.bl _))
theorem ev_intB {ta : TE} {b : Bool} (ha : EvD K σ H ta (.bool b)) : EvD K σ H (tCB (fun xs H Q => (∃ i, xs = [V.int i] ∧ Q (V.int i) H) ∨ ∃ k, xs = [V.bl k] ∧ Q (V.int (if k = true then 1 else 0)) H) (tCons ta tNil)) (.int (if b = true then 1 else 0)) := fun H' Q s q => ha H' _ s fun v H1 s1 d1 => by
  rw [dp_bool d1]
  exact .inr ⟨b, rfl, q _ H1 s1 (.int _)⟩
/-- (x,) * 6 and the like -/
theorem ev_repT {ta tb : TE} {ds : List PyData} {k : Int} (ha : EvD K σ H ta (.tuple ds)) (hb : EvD K σ H tb (.int k)) (h0 : 2 ≤ k) (h1 : k ≤ 1000) (ne : ds ≠ []) (hl : ds.length ≤ 1000) : EvD K σ H (tOp (rRepT K) ta tb) (.tuple (List.replicate k.toNat ds).flatten) := fun H' Q s q => ha H' _ s fun v H1 s1 d1 => hb H1 _ (s.trans s1) fun u H2 s2 d2 => by
  obtain ⟨a, xs, rfl, e1, dx⟩ := dp_tup d1
  rw [dp_int d2]
  have lx := dps_len dx
  refine ⟨a, k, xs, rfl, rfl, Same.t s2 e1, fun z => ne (List.eq_nil_of_length_eq_zero (by rw [← lx, z]; rfl)), h0, h1, by omega, fun p np => q _ _ ((s1.trans s2).trans (same_new np)) (.tup tup_new (dps_mono (s2.trans (same_new np)) (dps_rep dx _)))⟩
/-- [..][i], the list new -/
theorem ev_ixL {ta tb : TE} {ds : List PyData} {i : Int} {d : PyData} (ha : EvR K σ H ta ds) (hb : EvD K σ H tb (.int i)) (h0 : 0 ≤ i) (hd : ds[i.toNat]? = some d) : EvD K σ H (tOp (rIxL K) ta tb) d := fun H' Q s q => ha H' _ s fun a xs H1 s1 e1 d1 => hb H1 _ (s.trans s1) fun u H2 s2 d2 => by
  rw [dp_int d2]
  obtain ⟨x, hx, dx⟩ := dps_get d1 hd
  exact ⟨a, xs, i, x, rfl, rfl, SqL.of (s2 _ _ e1), at_of (j := i.toNat) (by omega) hx, q x H2 (s1.trans s2) (dp_mono s2 dx)⟩
theorem EvL.of {t : TE} {ds es : List PyData} (h : EvL K σ H t ds) (e : ds = es) : EvL K σ H t es := e ▸ h
theorem EvL.thn {t u : TE} {r : R2} {ds : List PyData} {H' : Hp} {Q : VK} (h : EvL K σ H t ds) (s : Same H H') (q : ∀ a xs H'', Same H' H'' → H' a = none → H'' a = some (.lst xs) → DpAll K H'' xs ds → u σ H'' (fun y H2 => r (.ref a) y H2 Q)) : tOp r t u σ H' Q := h H' _ s q
theorem EvL.cons {t : TE} {ds : List PyData} {H' : Hp} {tr : TA} {Q : List V → Hp → Prop} (h : EvL K σ H t ds) (s : Same H H') (q : ∀ a xs H'', Same H' H'' → H' a = none → H'' a = some (.lst xs) → DpAll K H'' xs ds → tr σ H'' fun vs H2 => Q (.ref a :: vs) H2) : tCons t tr σ H' Q := h H' _ s q
theorem EvD.cons {t : TE} {d : PyData} {H' : Hp} {tr : TA} {Q : List V → Hp → Prop} (h : EvD K σ H t d) (s : Same H H') (q : ∀ v H'', Same H' H'' → Dp K H'' v d → tr σ H'' fun vs H2 => Q (v :: vs) H2) : tCons t tr σ H' Q := h H' _ s q
/-- a draw, its bound an expression -/
theorem taken_go {ρ : RowP} {B : Hp} {k : Nat} {e : TE} {n : Int} {Q : VK} (R : RowSt K ρ B H) (hk : σ[k]? = some (some (.ref ρ.r))) (he : EvD K σ H e (.int n)) (hn : 0 < n) (q : ∀ z H', 0 ≤ z → z < n → RowSt K ρ B H' → Q (.int z) H') : tCall (spTaken K) [] E0 (tCons (tVar k) (tCons e tNil)) σ H Q :=
  ⟨_, hk, he H _ (Same.refl _) fun v H1 s1 d1 => by
    rw [dp_int d1]
    exact ⟨ρ, n, B, rfl, hn, R.pure s1, fun z H' z0 z1 R' => q z H' z0 z1 R'⟩⟩
/-- one of a new list, by a draw -/
theorem draw_ix {ρ : RowP} {B : Hp} {k : Nat} {t e : TE} {n : Int} {ds : List PyData} {Q : VK} (R : RowSt K ρ B H) (hk : σ[k]? = some (some (.ref ρ.r))) (h : EvL K σ H t ds) (he : EvD K σ H e (.int n)) (hn : n = ds.length) (hp : 0 < n) (nl : noLs ds = true)
    (q : ∀ (i : Nat) d v H', ds[i]? = some d → RowSt K ρ (del1 H' ρ.r) H' → Same B (del1 H' ρ.r) → Dp K (del1 H' ρ.r) v d → Q v H') : tOp (rIxL K) t (tCall (spTaken K) [] E0 (tCons (tVar k) (tCons e tNil))) σ H Q := by
  refine EvL.thn h (Same.refl _) fun a xs H1 s1 na e1 d1 => ?_
  obtain ⟨R1, s01⟩ := row_all R s1
  obtain ⟨n1, n2, er, _⟩ := (R.pure s1).row
  have hra := R.nr na
  refine ⟨_, hk, he H1 _ s1 fun v H2 s2 d2 => ?_⟩
  rw [dp_int d2]
  refine ⟨ρ, n, _, rfl, hp, R1.pure s2, fun z H3 z0 z1 R3 => ?_⟩
  have lx := dps_len d1
  obtain ⟨v, hat, hv, _⟩ := atI_mem (xs := xs) z0 (by omega)
  have d1' := dps_del er d1 nl
  obtain ⟨d, hd, dv⟩ := dps_of_get d1' hv
  obtain ⟨R4, s34⟩ := row_all R3 (Same.refl _)
  exact ⟨a, xs, z, v, rfl, rfl, SqL.of (R3.same _ _ (by rw [del1_ne (Ne.symm hra)]; exact e1)), hat, q z.toNat d v H3 hd R4 (s01.trans s34) (dp_mono s34 dv)⟩
theorem draw_cons {ρ : RowP} {B : Hp} {k : Nat} {t e : TE} {n : Int} {ds : List PyData} {tr : TA} {Q : List V → Hp → Prop} (R : RowSt K ρ B H) (hk : σ[k]? = some (some (.ref ρ.r))) (h : EvL K σ H t ds) (he : EvD K σ H e (.int n)) (hn : n = ds.length) (hp : 0 < n) (nl : noLs ds = true)
    (q : ∀ (i : Nat) d v H', ds[i]? = some d → RowSt K ρ (del1 H' ρ.r) H' → Same B (del1 H' ρ.r) → Dp K (del1 H' ρ.r) v d → tr σ H' fun vs H2 => Q (v :: vs) H2) : tCons (tOp (rIxL K) t (tCall (spTaken K) [] E0 (tCons (tVar k) (tCons e tNil)))) tr σ H Q :=
  draw_ix (Q := fun v H1 => tr σ H1 fun vs H2 => Q (v :: vs) H2) R hk h he hn hp nl q
theorem draw_asg {ρ : RowP} {B : Hp} {k i : Nat} {t e : TE} {n : Int} {ds : List PyData} {D : Ends} (R : RowSt K ρ B H) (hk : σ[k]? = some (some (.ref ρ.r))) (h : EvL K σ H t ds) (he : EvD K σ H e (.int n)) (hn : n = ds.length) (hp : 0 < n) (nl : noLs ds = true)
    (q : ∀ (j : Nat) d v H', ds[j]? = some d → RowSt K ρ (del1 H' ρ.r) H' → Same B (del1 H' ρ.r) → Dp K (del1 H' ρ.r) v d → D.nx (σ.set i (some v)) H') : tAsg (tOp (rIxL K) t (tCall (spTaken K) [] E0 (tCons (tVar k) (tCons e tNil)))) (gName i) D σ H :=
  draw_ix (Q := fun v H1 => D.nx (σ.set i (some v)) H1) R hk h he hn hp nl q
theorem taken_asg {ρ : RowP} {B : Hp} {k i : Nat} {e : TE} {n : Int} {D : Ends} (R : RowSt K ρ B H) (hk : σ[k]? = some (some (.ref ρ.r))) (he : EvD K σ H e (.int n)) (hn : 0 < n) (q : ∀ z H', 0 ≤ z → z < n → RowSt K ρ B H' → D.nx (σ.set i (some (.int z))) H') : tAsg (tCall (spTaken K) [] E0 (tCons (tVar k) (tCons e tNil))) (gName i) D σ H :=
  taken_go (Q := fun v H1 => D.nx (σ.set i (some v)) H1) R hk he hn q
end

/-! ### enumerate(list, start=c) -/
def IteS (K : PySem.W.Frag) (a : Addr) (c : Int) : It :=
  ⟨fun i H => ∃ (xs : List V) (x : V), SqL K H a xs ∧ xs[i]? = some x, fun i H v H' => ∃ T x, v = .ref T ∧ H T = none ∧ H' = upd H T (.tup [.int (c + (i : Nat)), x]) ∧ ∀ xs, SqL K H a xs → xs[i]? = some x, fun i H => ∃ xs : List V, SqL K H a xs ∧ xs.length ≤ i⟩
theorem turn_enumS {P : Program} {w : World} {K : PySem.W.Frag} {elts : List Expr} {kk : Nat} {tpos : Pos} (a e it : Addr) (c : Int) :
    Turn P w K (.Tuple elts kk tpos) (IteS K a c) [e, it] e (fun i h => (∃ old, IsEnum h e it (c + ((i : Nat) : Int)) old) ∧ h.IsListIter it a i ∧ e ≠ it ∧ a ≠ it ∧ e ≠ a) where
  mem := by simp
  obj := fun i h st b hb => by
    obtain ⟨⟨old, he⟩, ⟨o, ho, hc, hd⟩, _⟩ := st
    have e' : b = e ∨ b = it := by simpa using hb
    rcases e' with z | z
    · rw [z]; exact ⟨_, he, fun v q => nomatch q⟩
    · rw [z]; exact ⟨o, ho, fun v q => by rw [hd] at q; cases q⟩
  keep := fun i h h' st k => let ⟨⟨old, he⟩, hi, hne⟩ := st; ⟨⟨old, k e (by simp) _ he⟩, hi.at fun o q => k it (by simp) o q, hne⟩
  item := by
    intro X hP hw hK hc i pins s σ H E I hf st hg
    subst hP hw hK
    obtain ⟨⟨old, he⟩, hit, hne, hne2, hne3⟩ := st
    obtain ⟨xs, x, hq, hx⟩ := hg
    obtain ⟨its, rv, p, hz⟩ := I.list hq
    obtain ⟨u, hu, ru⟩ := rv.get hx
    have hel : e < s.heap.objs.size := Heap.lt_size he
    have hil : it < s.heap.objs.size := by obtain ⟨_, q, _⟩ := hit; exact Heap.lt_size q
    have hlt : i < its.toArray.size := by
      rw [List.size_toArray]
      exact (List.getElem?_eq_some_iff.mp hu).1
    refine wpAny_pyNext_enum_itemC (Draws.list (A := X.A.in1) (I.ok.hd hc) it a hne2 its.toArray) he ⟨hit, p.isList⟩ hlt hne (by simp [hne, hne3]) fun x' h' tk hP ho hst hT hsz hk => ?_
    have ex : x' = u := by
      rw [List.getElem?_toArray, hu] at hP
      exact (Option.some.inj hP).symm
    subst ex
    refine ⟨_, rfl, wpAny_letOwnedTupleGo_enum (s := { s with heap := h', toks := tk + 1 }) ho fun h'' he' sb => ?_⟩
    have hT2 : h''.get? s.heap.objs.size = some { cls := .type "tuple", data := .seq #[.int (c + (i : Int)) tk, x'] } := (sb.2 _ (Nat.ne_of_gt hel)).trans hT
    have new : ObjOk X.prog X.w (upd H s.heap.objs.size (.tup [.int (c + (i : Nat)), x])) h'' s.heap.objs.size (.tup [.int (c + (i : Nat)), x]) :=
      ⟨by show 2 ≤ sizeLine; decide, [.int (c + (i : Int)) tk, x'], .cons ⟨_, rfl⟩ (.cons ru .nil), ⟨_, hT2, rfl, _, rfl⟩⟩
    have I1 : Inv X pins σ (upd H s.heap.objs.size (.tup [.int (c + (i : Nat)), x])) { s with heap := h'', toks := tk + 1 } :=
      I.turnedNew (ch := [e, it]) (fun b ob hb q => (sb.2 b (fun z => hb (by simp [z]))).trans (hk b ob (fun z => hb (by simp [z])) (fun z => hb (by simp [z])) q)) hf (Nat.le_refl _) new
    refine ⟨.ref s.heap.objs.size, _, I1, rfl, ⟨_, x, rfl, I.hok.fresh (Nat.le_refl _), rfl, fun ys hy => by rw [I.list_inj hy hq]; exact hx⟩, ⟨⟨x', ?_⟩, hst.1.at fun o q => (sb.2 it (Ne.symm hne)).trans q, hne, hne2, hne3⟩, fun b hb => ?_⟩
    · have e1 : c + ((i + 1 : Nat) : Int) = c + (i : Int) + 1 := by omega
      rw [e1]; exact he'
    · have hb' : b < s.heap.objs.size := by
        have e' : b = e ∨ b = it := by simpa using hb
        rcases e' with z | z
        · rw [z]; exact hel
        · rw [z]; exact hil
      rw [upd_ne (Nat.ne_of_lt hb')]
      exact (hf b hb).1
  done := by
    intro X hP hw hK hc i pins s σ H E I hf st hg
    subst hP hw hK
    obtain ⟨⟨old, he⟩, hit, hne, hne2, hne3⟩ := st
    obtain ⟨xs, hq, hx⟩ := hg
    obtain ⟨its, rv, p, hz⟩ := I.list hq
    obtain ⟨f0, f1, f2, f3, f4, f5⟩ := hf it (by simp)
    have hl := rv.length
    have hN : its.toArray[i]? = none := by
      rw [List.getElem?_toArray]
      exact List.getElem?_eq_none_iff.mpr (by omega)
    have hT : s.TypeIs (.ref e) "enumerate" := ⟨_, he, rfl⟩
    unfold pyNext
    refine wpAny_bind (wpAny_attempt (wpAny_callSpecial?_slot (name := Str.ofString "__next__") hT F.slot_enumerate_next
      (wpAny_call_entry F.slot_enumerate_next hT F.entry_enumerate_next ?_ (F.args_enumerate_next_1 _))))
    show wpAny _ _ (field (.ref e) 2 >>= _) _ _ _
    refine wpAny_bind (wpAny_field he rfl (x := .ref it) rfl ?_)
    refine wpAny_bind (wpAny_nextOf_list_end (I.ok.hd hc) hit p.isList hN fun h' x eb hx' => ?_)
    obtain ⟨o, ho, hc2⟩ := hx'
    refine wpAny_bind (wpAny_isInstance (T := "StopIteration") (b := true) ⟨o, ho, hc2⟩ isSubtype_stop ?_)
    exact wpAny_pure ⟨rfl, I.turned (t' := s.toks) (fun b o hb q => eb b o hb q) f0 f1 f3 f4 f5⟩
  self := fun A i s Q E st h => let ⟨⟨_, he⟩, _⟩ := st; wpAny_pyIter_enum he h
section
variable {M : Model} {A : Around} {E : Value → Shared → Prop} {s : Shared} {env : Env}
theorem cw_type_kw {pos : Pos} {T : String} {e : Expr} {rest : List Expr} {kws : List Keyword} {Q : Value → Shared → Prop}
    (h : wpAny M A (spliced (backTo pos (starEach (e :: rest) env))) (fun vs s₁ => wpAny M A (evalAll ((backToKw pos (keywordEach kws env)).map (·.2)))
      (fun kvs s₂ => wpAny M A (call (.type T) vs (((backToKw pos (keywordEach kws env)).filterMap (·.1)).zip kvs)) Q E s₂) E s₁) E s)
    (he : backTo pos (starEach (e :: rest) env) = (false, eval e env) :: backTo pos (starEach rest env))
    (hplain : (backTo pos (starEach (e :: rest) env)).any (·.1) = false)
    (hall : (backToKw pos (keywordEach kws env)).all (·.1.isSome) = true)
    (hkw : (backToKw pos (keywordEach kws env)).any (·.1.isNone) = false) :
    wpAny M A (callWith pos (.type T) [] (backTo pos (starEach (e :: rest) env)) (backToKw pos (keywordEach kws env))) Q E s := by
  have h' : wpAny M A (evalArgs (.type T) true (backTo pos (starEach (e :: rest) env)) (backToKw pos (keywordEach kws env))) (fun a s₁ => wpAny M A (call (.type T) ([] ++ a.pos) a.kw) Q E s₁) E s := by
    rw [he] at h ⊢
    exact PyProof.Rows.evalArgs_kwB hall h
  unfold callWith
  refine wpAny_bind (wpAny_holding (wpAny_mono h' (fun a s₁ h₁ => wpAny_bind (wpAny_standAt ?_)) fun _ _ x => x))
  simp only [hplain, hkw, Bool.or_false]
  refine wpAny_bind (wpAny_pure ?_)
  exact wpAny_bind (wpAny_mono h₁ (fun r s₂ hr => wpAny_bind (wpAny_holding (wpAny_point (wpAny_pure hr)))) fun _ _ x => x)
end
def iEnumS (K : PySem.W.Frag) (ta tk : TA) : TI := fun σ H R => ta σ H fun vs H1 => tk σ H1 fun zs H2 => ∃ a xs c, vs = [.ref a] ∧ zs = [.int c] ∧ -(2 ^ 63) ≤ c ∧ c < 2 ^ 63 ∧ SqL K H2 a xs ∧ R (IteS K a c) H2
theorem pi_enumS {X : Cx} {K : PySem.W.Frag} {e : Expr} {ta tk : TA} {p pos tpos : Pos} {elts : List Expr} {kk : Nat} {kws : List Keyword} (hg : Gl X "enumerate") (hm : X.mg "enumerate" = none) (ha : PA X [e] ta) (hk : PK X kws tk) (eK : X.K = K := by rfl)
    (he : backTo pos (starEach [e] X.env) = (false, eval e X.env) :: backTo pos (starEach [] X.env) := by rfl) (hpl : (backTo pos (starEach [e] X.env)).any (·.1) = false := by rfl)
    (hall : (backToKw pos (keywordEach kws X.env)).all (·.1.isSome) = true := by rfl) (hnone : (backToKw pos (keywordEach kws X.env)).any (·.1.isNone) = false := by rfl) (hks : (backToKw pos (keywordEach kws X.env)).filterMap (·.1) = [Str.ofString "start"] := by rfl) :
    PI X (.Tuple elts kk tpos) (.Call (.Name "enumerate" p) [e] kws pos) (iEnumS K ta tk) := by
  subst eK
  refine ⟨fun pins s σ H R I h => ?_⟩
  refine wpAny_Call_Name_kw (ld_blt I hg hm boot_enumerate ?_)
  refine cw_type_kw (thn (ha.run pos pins s σ H _ I h) fun us s1 ⟨vs, H1, I1, r1, q1⟩ => thn (hk.run pos pins s1 σ H1 _ I1 q1) fun ws s2 ⟨zs, H2, I2, r2, q2⟩ => ?_) he hpl hall hnone
  rw [hks]
  obtain ⟨a, xs, c, rfl, rfl, hc0, hc1, hq, q⟩ := q2
  cases r1 with
  | cons r rr =>
    cases rr
    cases r
    cases r2 with
    | cons r' rr' =>
      cases rr'
      obtain ⟨tk, rfl⟩ := r'
      obtain ⟨its, rv, p', hz⟩ := I2.list hq
      refine enum_begins_start (begins_list a its.toArray) p'.isList hc0 hc1 fun h' he hit hsz hk => wpAny_pyIter_enum he ?_
      have I3 : Inv X pins σ H2 { s2 with heap := h' } := I2.kept (t' := s2.toks) hk
      have hla : a < s2.heap.objs.size := by
        obtain ⟨o, ho, _⟩ := p'.isList
        exact Heap.lt_size ho
      refine ⟨s2.heap.objs.size + 1, [s2.heap.objs.size + 1, s2.heap.objs.size], _, _, H2, rfl, I3, turn_enumS a (s2.heap.objs.size + 1) s2.heap.objs.size c, ⟨⟨.none, by rw [show c + ((0 : Nat) : Int) = c by omega]; exact he⟩, ⟨_, hit, rfl, rfl⟩, Nat.succ_ne_self _, Nat.ne_of_lt hla, Nat.ne_of_gt (Nat.lt_succ_of_lt hla)⟩, fun b hb => ?_, q⟩
      have e' : b = s2.heap.objs.size + 1 ∨ b = s2.heap.objs.size := by simpa using hb
      have hle : s2.heap.objs.size ≤ b := by
        rcases e' with z | z
        · rw [z]; exact Nat.le_add_right _ _
        · rw [z]; exact Nat.le_refl _
      exact I2.fpOk hle (I2.hok.fresh hle)
/-- for i, x in enumerate(xs, start=c) -/
theorem for_enumS {K : PySem.W.Frag} {a : Addr} {c : Int} {xs : List V} {g : TG} {tb : TS} {D : Ends} {σ : L2.St} {H : Hp} (Pv : Nat → L2.St → Hp → Prop) (h0 : Pv 0 σ H) (hl : ∀ i σ H, i ≤ xs.length → Pv i σ H → SqL K H a xs)
    (hs : ∀ i x σ H p, xs[i]? = some x → Pv i σ H → H p = none → g (.ref p) σ (upd H p (.tup [.int (c + (i : Nat)), x])) fun σ2 H2 => tb { D with nx := Pv (i + 1), ct := Pv (i + 1), bk := D.nx } σ2 H2)
    (hd : ∀ σ H, Pv xs.length σ H → D.nx σ H) :
    ∃ W : Nat → Nat → L2.St → Hp → Prop, (∃ m, W 0 m σ H) ∧ ∀ i m σ H, W i m σ H →
      ((IteS K a c).stop i H ∧ D.nx σ H) ∨ ((IteS K a c).go i H ∧ ∃ N : L2.St → Hp → Prop, (∀ σ' H', N σ' H' → ∃ m', m' < m ∧ W (i + 1) m' σ' H') ∧
        ∀ x H', (IteS K a c).yld i H x H' → g x σ H' fun σ2 H2 => tb { D with nx := N, ct := N, bk := D.nx } σ2 H2) := by
  refine ⟨fun i m σ H => m + i = xs.length ∧ Pv i σ H, ⟨xs.length, Nat.add_zero _, h0⟩, fun i m σ H ⟨em, hp⟩ => ?_⟩
  have hS := hl i σ H (by omega) hp
  cases m with
  | zero =>
    have e : i = xs.length := by omega
    subst e
    exact .inl ⟨⟨xs, hS, Nat.le_refl _⟩, hd σ H hp⟩
  | succ m =>
    have hi : i < xs.length := by omega
    have hx := List.getElem?_eq_getElem hi
    refine .inr ⟨⟨xs, _, hS, hx⟩, Pv (i + 1), fun σ' H' h => ⟨m, Nat.lt_succ_self m, by omega, h⟩, ?_⟩
    rintro x H' ⟨p, y, rfl, np, rfl, hy⟩
    exact hs i y σ H p (hy xs hS) hp np

/-! ## texts -/
def rJoinK (K : PySem.W.Frag) : V → List V → Hp → VK → Prop := fun x xs H Q => ∃ a p, ∃ ys : List Str, x = .str a ∧ xs = [.ref p] ∧ (SqL K H p (ys.map V.str) ∨ SqT K H p (ys.map V.str)) ∧ (ys.map (·.length)).sum + ys.length * a.length ≤ 16777216 ∧ Q (.str (Txt.join a ys)) H
def rSplitK : V → List V → Hp → VK → Prop := fun x xs H Q => ∃ a b, x = .str a ∧ xs = [.str b] ∧ (b.length == 0) = false ∧ a.length + 2 ≤ sizeLine ∧ rNewStrs (Txt.split a b) H Q
def rAddStr : R2 := fun x y H Q => ∃ i j, x = .str i ∧ y = .str j ∧ i.length + j.length ≤ sizeLine ∧ Q (.str (i ++ j)) H
def rStrInt : List V → Hp → VK → Prop := fun xs H Q => ∃ i, xs = [.int i] ∧ i.natAbs.log2 < 1920 ∧ Q (.str (toString i)) H
section
variable {X : Cx} {K : PySem.W.Frag} {o e : Expr} {to te : TE}
theorem kpe_join {apos pos : Pos} (ho : PE X o to) (he : PE X e te) (h : X.K = K := by rfl) (hs : starEach [e] X.env = [(false, eval e X.env)] := by rfl) (hbase : attributeBase o "join" X.env (eval o X.env) = eval o X.env := by rfl) (hline : (apos.endLine == pos.line) = true := by rfl) :
    PE X (.Call (.Attribute o "join" apos) [e] [] pos) (tM1 (rJoinK K) to te) := by subst h; exact pe_join ho he hs hbase hline
theorem kpe_split {apos pos : Pos} (ho : PE X o to) (he : PE X e te) (h : X.K = K := by rfl) (hs : starEach [e] X.env = [(false, eval e X.env)] := by rfl) (hbase : attributeBase o "split" X.env (eval o X.env) = eval o X.env := by rfl) (hline : (apos.endLine == pos.line) = true := by rfl) :
    PE X (.Call (.Attribute o "split" apos) [e] [] pos) (tM1 rSplitK to te) := pe_split ho he hs hbase hline
theorem kall (hc : X.calm = true) (h : X.K = K := by rfl) : CallR X (.builtin "all") (rAll K) := by subst h; exact cr_all hc
end
theorem boot_str : bootBuiltins "str" = some (.type "str") := by decide +kernel
/-- a number as a text -/
def fg (i : Int) : Str := toString i
theorem tl_fg {i : Int} (h0 : 0 ≤ i) (h9 : i ≤ 9) : TL.tl (fg i) = [48 + i.toNat] := by
  obtain ⟨n, rfl⟩ := Int.eq_ofNat_of_zero_le h0
  show TL.tl (Str.ofString (toString ((n : Nat) : Int))) = _
  rw [TL.tl_num, TL.numL_lt (by omega), Int.toNat_natCast]
theorem fg_int {i : Int} (h0 : 0 ≤ i) (h9 : i ≤ 9) : PySem.intText? (fg i) = some i := by
  obtain ⟨n, rfl⟩ := Int.eq_ofNat_of_zero_le h0
  exact TL.int_num (by rw [TL.numL_lt (by omega)]; simp)
theorem log_small {i : Int} (h0 : 0 ≤ i) (h9 : i ≤ 9) : i.natAbs.log2 < 1920 := by
  have h : i.natAbs ≤ 9 := by omega
  generalize i.natAbs = n at h
  have : n = 0 ∨ n = 1 ∨ n = 2 ∨ n = 3 ∨ n = 4 ∨ n = 5 ∨ n = 6 ∨ n = 7 ∨ n = 8 ∨ n = 9 := by omega
  rcases this with rfl | rfl | rfl | rfl | rfl | rfl | rfl | rfl | rfl | rfl <;> decide
def figs : List Str := ["0", "1", "2", "3", "4", "5", "6", "7", "8", "9"]
theorem figs_eq : figs = [fg 0, fg 1, fg 2, fg 3, fg 4, fg 5, fg 6, fg 7, fg 8, fg 9] := by decide +kernel
theorem mem_figs {x : Str} : x ∈ figs ↔ ∃ i : Int, 0 ≤ i ∧ i ≤ 9 ∧ x = fg i := by
  rw [figs_eq]
  constructor
  · intro h
    simp only [List.mem_cons, List.not_mem_nil, or_false] at h
    rcases h with h | h | h | h | h | h | h | h | h | h
    · exact ⟨0, by decide, by decide, h⟩
    · exact ⟨1, by decide, by decide, h⟩
    · exact ⟨2, by decide, by decide, h⟩
    · exact ⟨3, by decide, by decide, h⟩
    · exact ⟨4, by decide, by decide, h⟩
    · exact ⟨5, by decide, by decide, h⟩
    · exact ⟨6, by decide, by decide, h⟩
    · exact ⟨7, by decide, by decide, h⟩
    · exact ⟨8, by decide, by decide, h⟩
    · exact ⟨9, by decide, by decide, h⟩
  · rintro ⟨i, h0, h9, rfl⟩
    have : i = 0 ∨ i = 1 ∨ i = 2 ∨ i = 3 ∨ i = 4 ∨ i = 5 ∨ i = 6 ∨ i = 7 ∨ i = 8 ∨ i = 9 := by omega
    rcases this with rfl | rfl | rfl | rfl | rfl | rfl | rfl | rfl | rfl | rfl <;> simp
/-- the word for the numbers of after -/
def afterT (l : List Int) : Str := if l = [] then "-" else Txt.join "," (l.map fg)
def figV (x : Str) : Int := (PySem.intText? x).getD 0
theorem figV_fg {i : Int} (h0 : 0 ≤ i) (h9 : i ≤ 9) : figV (fg i) = i := by
  unfold figV
  rw [fg_int h0 h9]
  rfl
theorem figV_of {x : Str} (h : x ∈ figs) : PySem.intText? x = some (figV x) ∧ x.length ≤ 640 := by
  obtain ⟨i, h0, h9, rfl⟩ := mem_figs.mp h
  refine ⟨by rw [figV_fg h0 h9, fg_int h0 h9], ?_⟩
  rw [TL.len_tl, tl_fg h0 h9]
  simp
def figsB (l : List Str) : Bool := l.all fun x => decide (x ∈ figs)
theorem figsB_mem {l : List Str} (h : figsB l = true) {x : Str} (hx : x ∈ l) : x ∈ figs := of_decide_eq_true (List.all_eq_true.mp h x hx)
def isStoreRow : List Str → Bool
  | [a, b] => decide (a = "store") && figsB [b]
  | _ => false
def isShelfRow : List Str → Bool
  | [a, b, c, d] => decide (a = "shelf") && figsB [b, c, d]
  | _ => false
def isWishRow : List Str → Bool
  | [kd, sh, sd, cr, kp, af] => decide (kd = "fetch" ∨ kd = "bring") && (decide (sd = "left" ∨ sd = "right" ∨ sd = "any") && (figsB [sh, cr, kp] && (decide (af = "-") || figsB (Txt.split af ","))))
  | _ => false
def shelfOf : List Str → Shelf
  | [_, b, c, d] => ⟨figV b, figV c, figV d⟩
  | _ => ⟨0, 0, 0⟩
def afterOf (af : Str) : List Int := if af = "-" then [] else (Txt.split af ",").map figV
def wishOf : List Str → Wish
  | [kd, sh, sd, cr, kp, af] => ⟨kd, figV sh, sd, figV cr, figV kp, afterOf af⟩
  | _ => ⟨"", 0, "", 0, 0, []⟩
/-- the rows behind the first, from number k on -/
def scan : Nat → List (List Str) → List Shelf → List Wish → Nat ⊕ (List Shelf × List Wish)
  | _, [], ss, ws => .inr (ss, ws)
  | k, r :: rs, ss, ws => if isShelfRow r = true ∧ ws = [] then scan (k + 1) rs (ss ++ [shelfOf r]) ws else if isWishRow r = true then scan (k + 1) rs ss (ws ++ [wishOf r]) else .inl k
/-! ### what stays when a list is changed -/
section
variable {K : PySem.W.Frag} {H : Hp} {l a : Addr} {zs us : List V}
theorem sqt_put {xs : List V} (e : H l = some (.lst zs)) (h : SqT K H a xs) : SqT K (upd H l (.lst us)) a xs := by
  rcases h with (h | ⟨o, h⟩) | h
  · exact .inl (.inl (by rw [upd_ne (fun z => by rw [z, e] at h; cases h)]; exact h))
  · exact .inl (.inr ⟨o, by rw [upd_ne (fun z => by rw [z, e] at h; cases h)]; exact h⟩)
  · exact .inr h
mutual
theorem dp_put (e : H l = some (.lst zs)) : ∀ {v : V} {d : PyData}, Dp K H v d → noL d = true → Dp K (upd H l (.lst us)) v d
  | _, _, .non, _ => .non
  | _, _, .bl b, _ => .bl b
  | _, _, .int i, _ => .int i
  | _, _, .str x, _ => .str x
  | _, _, .lst _ _, h => absurd h (by unfold noL; decide)
  | _, _, .tup h g, q => .tup (sqt_put e h) (dps_put e g (by unfold noL at q; exact q))
theorem dps_put (e : H l = some (.lst zs)) : ∀ {vs : List V} {ds : List PyData}, DpAll K H vs ds → noLs ds = true → DpAll K (upd H l (.lst us)) vs ds
  | _, _, .nil, _ => .nil
  | _, _, .cons h g, q => by
    unfold noLs at q
    obtain ⟨q1, q2⟩ := Bool.and_eq_true_iff.mp q
    exact .cons (dp_put e h q1) (dps_put e g q2)
end
theorem Same.putL {B : Hp} (s : Same B H) (h : B l = none) : Same B (upd H l (.lst us)) := Same.put s h
end
theorem str_item {l : List Str} {i : Nat} {y : V} (h : (l.map V.str)[i]? = some y) : ∃ z, l[i]? = some z ∧ y = V.str z := by
  rw [List.getElem?_map] at h
  cases e : l[i]? with
  | none => rw [e] at h; cases h
  | some z => rw [e] at h; exact ⟨z, rfl, (Option.some.inj h).symm⟩
theorem cut1 {xs : List V} (h : 1 ≤ xs.length) : cutV xs (some 1) none = xs.drop 1 := by
  unfold cutV
  rw [show HT.sIx xs.length 0 (some 1) = min 1 xs.length from HT.sIx_nat _ _ 1, HT.sIx_none, Nat.min_eq_left h, List.take_of_length_le (by rw [List.length_drop]; exact Nat.le_refl _)]
theorem flat_strs (l : List Str) : (l.map V.str).all flatV = true := by
  induction l with
  | nil => rfl
  | cons y l ih => rw [List.map_cons, List.all_cons, ih]; rfl

/-! ## rows of a text -/
structure Tf (K : PySem.W.Frag) (mg : Str → Option Value) : Prop where
  c_FIGURES : ∃ a, mg "FIGURES" = some (.ref a) ∧ ∀ H, SqT K H a (figs.map V.str)
theorem inV_dec {x : Str} {l : List Str} : (if false = true then !inV (V.str x) (l.map V.str) else inV (V.str x) (l.map V.str)) = decide (x ∈ l) := by
  rw [if_neg Bool.false_ne_true]
  exact Bool.eq_iff_iff.mpr (inV_strs.trans decide_eq_true_iff.symm)
theorem ninV_dec {x : Str} {l : List Str} : (if true = true then !inV (V.str x) (l.map V.str) else inV (V.str x) (l.map V.str)) = !decide (x ∈ l) := by
  rw [if_pos rfl]
  have e : inV (V.str x) (l.map V.str) = decide (x ∈ l) := Bool.eq_iff_iff.mpr (inV_strs.trans decide_eq_true_iff.symm)
  rw [e]
theorem take_succ' {α : Type} {l : List α} {i : Nat} {x : α} (h : l[i]? = some x) : l.take (i + 1) = l.take i ++ [x] := by
  rw [List.take_succ, h]
  rfl
theorem len2 {α : Type} {l : List α} (h : l.length = 2) : ∃ a b, l = [a, b] := match l, h with | [a, b], _ => ⟨a, b, rfl⟩
theorem len4 {α : Type} {l : List α} (h : l.length = 4) : ∃ a b c d, l = [a, b, c, d] := match l, h with | [a, b, c, d], _ => ⟨a, b, c, d, rfl⟩
theorem len6 {α : Type} {l : List α} (h : l.length = 6) : ∃ a b c d e f, l = [a, b, c, d, e, f] := match l, h with | [a, b, c, d, e, f], _ => ⟨a, b, c, d, e, f, rfl⟩
section
variable {P : Program} {w : World} {K : PySem.W.Frag} {mg : Str → Option Value} {base : Heap}
/-- a list of texts, and what is told of it -/
def spWords (K : PySem.W.Frag) (g : List Str → Bool) : Sp := fun vs H Q _ => ∃ (a : Addr) (l : List Str), vs = [.ref a] ∧ SqL K H a (l.map V.str) ∧ l.length ≤ 900 ∧ ∀ H', Same H H' → Q (.bl (g l)) H'
/-! _are_figures: 0 words, 1 word -/
abbrev s__are_figures : Stmt := topS 24
abbrev N__are_figures : List Str := ["words", "word"]
theorem sc__are_figures : FnScope N__are_figures ["words"] (defScope s__are_figures) := ⟨rfl, rfl, rfl, by decide +kernel, rfl, by decide +kernel, by decide +kernel⟩
theorem ok__are_figures {f : Addr} {fd : FuncData} (D : Dfs K mg "_are_figures" s__are_figures ["words"] f fd) (T : Tx K mg) (Tg : Tf K mg) : Cal P w K mg base 1 "_are_figures" ["words"] (spWords K figsB) f fd := by
  obtain ⟨a_FIGURES, g_FIGURES, hF⟩ := Tg.c_FIGURES
  refine D.cal (D.F.ok sc__are_figures (fun vs H Q E h => ?_) (fun cdv A outer s H vs Q E hr h => ?_))
  · obtain ⟨a, l, rfl, _⟩ := h
    rfl
  · obtain ⟨a, l, rfl, hl, hn, q⟩ := h
    refine ⟨_, (pss_one (ps_ret (pe_callB (kall (K := K) rfl) (by rfl) T.n_all (by decide +kernel) (pa_cons (pe_lc (own := [("word", 1)]) (g := gName 1) rfl sc__are_figures.nd (pi_list (pv 0)) (blkOk_by (own := [("word", 1)]) (N := N__are_figures) (sc := defScope s__are_figures) (by decide +kernel)) (fun _ _ _ _ _ => (pg_name (i := 1) sc__are_figures.nd rfl (Or.inl rfl))) (fun _ _ _ _ _ => pts_nil) (fun _ _ _ _ _ => by exact (pe_cmpR (kin_seq (K := K)) (pv 1) (pe_glob (v := .ref a_FIGURES) (by rfl) g_FIGURES rfl) (by rfl)))) pa_nil)))), ?_⟩
    refine ⟨_, rfl, a, rfl, ⟨_, hl⟩, fun D1 nD1 => ?_⟩
    refine lc_list (K := K) (a := a) (xs := l.map V.str) (fun i H' => Same H H' ∧ H' D1 = some (.lst (((l.take i).map fun x => decide (x ∈ figs)).map V.bl))) ⟨same_new nD1, by rw [List.take_zero]; exact upd_same⟩ (fun i H' _ h => Same.l h.1 hl) ?_ ?_
    · rintro i y H' hy ⟨s1, e1⟩
      obtain ⟨z, hz, rfl⟩ := str_item hy
      refine ⟨rfl, _, rfl, a_FIGURES, _, rfl, .inr (hF _), rfl, flat_strs figs, _, e1, ?_, fun b o h => ?_, ?_⟩
      · rw [List.length_map, List.length_map, List.length_take]
        exact small1000 (by omega)
      · rw [upd_ne (ne_of_none h nD1)]
        exact s1 b o h
      · rw [upd_same, take_succ' hz, List.map_append, List.map_append, inV_dec]
        rfl
    · rintro H' ⟨s1, e1⟩
      rw [List.length_map, List.take_length] at e1
      refine ⟨D1, _, rfl, SqL.of e1, ?_⟩
      have e : (l.map fun x => decide (x ∈ figs)).all id = figsB l := by
        unfold figsB
        rw [List.all_map]
        rfl
      rw [e]
      exact q _ s1
/-! _is_store_row: 0 words -/
abbrev s__is_store_row : Stmt := topS 21
abbrev N__is_store_row : List Str := ["words"]
theorem sc__is_store_row : FnScope N__is_store_row ["words"] (defScope s__is_store_row) := ⟨rfl, rfl, rfl, by decide +kernel, rfl, by decide +kernel, by decide +kernel⟩
theorem ok__is_store_row {f f1 : Addr} {fd fd1 : FuncData} (D : Dfs K mg "_is_store_row" s__is_store_row ["words"] f fd) (T : Tx K mg) (C__are_figures : Cal P w K mg base 1 "_are_figures" ["words"] (spWords K figsB) f1 fd1) : Cal P w K mg base 2 "_is_store_row" ["words"] (spWords K isStoreRow) f fd := by
  refine D.cal (D.F.ok sc__is_store_row (fun vs H Q E h => ?_) (fun cdv A outer s H vs Q E hr h => ?_))
  · obtain ⟨a, l, rfl, _⟩ := h
    rfl
  · obtain ⟨a, l, rfl, hl, hn, q⟩ := h
    refine ⟨_, (pss_one (ps_ret (pe_and (pe_cmpR op_eq (pe_callB (klen (K := K)) (by rfl) T.n_len (by decide +kernel) (pa_cons (pv 0) pa_nil)) pe_int (nomark _)) (pe_and (pe_cmpR op_eq (pe_ix (kix_list (K := K)) (pv 0) pe_int (fun _ _ => rfl)) pe_str (nomark _)) (pe_one (pe_call C__are_figures.G (hr.mono (by decide)) (by rfl) C__are_figures.g C__are_figures.kp C__are_figures.b .nil pass0 (pa_cons (pe_slice (ksl_list (K := K)) (pv 0) (po_some pe_int) po_none) pa_nil))))))), ?_⟩
    refine ⟨_, rfl, a, _, rfl, .inl hl, rfl, _, rfl, ?_⟩
    by_cases hlen : l.length = 2
    · obtain ⟨x, y, rfl⟩ := len2 hlen
      refine itD rfl ⟨_, rfl, a, _, 0, .str x, rfl, rfl, hl, rfl, rfl, _, rfl, ?_⟩
      by_cases hx : x = "store"
      · refine itD (by rw [hx]) ⟨_, rfl, 1, rfl, a, _, rfl, hl, fun p np => ?_⟩
        have s1 := same_new (o := .lst [V.str y]) np
        refine ⟨p, [y], rfl, lst_new, by simp, fun H' s2 => ?_⟩
        have e : isStoreRow [x, y] = figsB [y] := by
          show (decide (x = "store") && figsB [y]) = _
          rw [decide_eq_true hx, Bool.true_and]
        rw [e] at q
        exact q _ (s1.trans s2)
      · refine itF (sne hx) ?_
        have e : isStoreRow [x, y] = false := by
          show (decide (x = "store") && figsB [y]) = _
          rw [decide_eq_false hx, Bool.false_and]
        rw [e] at q
        exact q _ (Same.refl H)
    · refine itF (fun z => hlen ?_) ?_
      · have := V.int.inj z
        rw [List.length_map] at this
        omega
      · have e : isStoreRow l = false := by
          unfold isStoreRow
          split
          · simp at hlen
          · rfl
        rw [e] at q
        exact q _ (Same.refl H)
/-! _is_shelf_row: 0 words -/
abbrev s__is_shelf_row : Stmt := topS 22
abbrev N__is_shelf_row : List Str := ["words"]
theorem sc__is_shelf_row : FnScope N__is_shelf_row ["words"] (defScope s__is_shelf_row) := ⟨rfl, rfl, rfl, by decide +kernel, rfl, by decide +kernel, by decide +kernel⟩
theorem ok__is_shelf_row {f f1 : Addr} {fd fd1 : FuncData} (D : Dfs K mg "_is_shelf_row" s__is_shelf_row ["words"] f fd) (T : Tx K mg) (C__are_figures : Cal P w K mg base 1 "_are_figures" ["words"] (spWords K figsB) f1 fd1) : Cal P w K mg base 2 "_is_shelf_row" ["words"] (spWords K isShelfRow) f fd := by
  refine D.cal (D.F.ok sc__is_shelf_row (fun vs H Q E h => ?_) (fun cdv A outer s H vs Q E hr h => ?_))
  · obtain ⟨a, l, rfl, _⟩ := h
    rfl
  · obtain ⟨a, l, rfl, hl, hn, q⟩ := h
    refine ⟨_, (pss_one (ps_ret (pe_and (pe_cmpR op_eq (pe_callB (klen (K := K)) (by rfl) T.n_len (by decide +kernel) (pa_cons (pv 0) pa_nil)) pe_int (nomark _)) (pe_and (pe_cmpR op_eq (pe_ix (kix_list (K := K)) (pv 0) pe_int (fun _ _ => rfl)) pe_str (nomark _)) (pe_one (pe_call C__are_figures.G (hr.mono (by decide)) (by rfl) C__are_figures.g C__are_figures.kp C__are_figures.b .nil pass0 (pa_cons (pe_slice (ksl_list (K := K)) (pv 0) (po_some pe_int) po_none) pa_nil))))))), ?_⟩
    refine ⟨_, rfl, a, _, rfl, .inl hl, rfl, _, rfl, ?_⟩
    by_cases hlen : l.length = 4
    · obtain ⟨x, y, z, u, rfl⟩ := len4 hlen
      refine itD rfl ⟨_, rfl, a, _, 0, .str x, rfl, rfl, hl, rfl, rfl, _, rfl, ?_⟩
      by_cases hx : x = "shelf"
      · refine itD (by rw [hx]) ⟨_, rfl, 1, rfl, a, _, rfl, hl, fun p np => ?_⟩
        have s1 := same_new (o := .lst [V.str y, V.str z, V.str u]) np
        refine ⟨p, [y, z, u], rfl, lst_new, by simp, fun H' s2 => ?_⟩
        have e : isShelfRow [x, y, z, u] = figsB [y, z, u] := by
          show (decide (x = "shelf") && figsB [y, z, u]) = _
          rw [decide_eq_true hx, Bool.true_and]
        rw [e] at q
        exact q _ (s1.trans s2)
      · refine itF (sne hx) ?_
        have e : isShelfRow [x, y, z, u] = false := by
          show (decide (x = "shelf") && figsB [y, z, u]) = _
          rw [decide_eq_false hx, Bool.false_and]
        rw [e] at q
        exact q _ (Same.refl H)
    · refine itF (fun z => hlen ?_) ?_
      · have := V.int.inj z
        rw [List.length_map] at this
        omega
      · have e : isShelfRow l = false := by
          unfold isShelfRow
          split
          · simp at hlen
          · rfl
        rw [e] at q
        exact q _ (Same.refl H)
def spWishRow (K : PySem.W.Frag) : Sp := fun vs H Q _ => ∃ (a : Addr) (l : List Str), vs = [.ref a] ∧ SqL K H a (l.map V.str) ∧ l.length ≤ 900 ∧ (∀ x ∈ l, x.length ≤ 800) ∧ ∀ H', Same H H' → Q (.bl (isWishRow l)) H'
/-! _is_wish_row: 0 words, 1 kind, 2 shelf, 3 side, 4 crew, 5 keep, 6 after -/
abbrev s__is_wish_row : Stmt := topS 23
abbrev N__is_wish_row : List Str := ["words", "kind", "shelf", "side", "crew", "keep", "after"]
theorem sc__is_wish_row : FnScope N__is_wish_row ["words"] (defScope s__is_wish_row) := ⟨rfl, rfl, rfl, by decide +kernel, rfl, by decide +kernel, by decide +kernel⟩
theorem ok__is_wish_row {f f1 : Addr} {fd fd1 : FuncData} (D : Dfs K mg "_is_wish_row" s__is_wish_row ["words"] f fd) (T : Tx K mg) (Tk : Tc K mg) (C__are_figures : Cal P w K mg base 1 "_are_figures" ["words"] (spWords K figsB) f1 fd1) : Cal P w K mg base 2 "_is_wish_row" ["words"] (spWishRow K) f fd := by
  obtain ⟨a_KINDS, g_KINDS, hK⟩ := Tk.c_KINDS
  obtain ⟨a_SIDES, g_SIDES, hS⟩ := Tk.c_SIDES
  refine D.cal (D.F.ok sc__is_wish_row (fun vs H Q E h => ?_) (fun cdv A outer s H vs Q E hr h => ?_))
  · obtain ⟨a, l, rfl, _⟩ := h
    rfl
  · obtain ⟨a, l, rfl, hl, hn, hlen6, q⟩ := h
    refine ⟨_, (pss_cons (ps_if (pt_cmpR op_ne (pe_callB (klen (K := K)) (by rfl) T.n_len (by decide +kernel) (pa_cons (pv 0) pa_nil)) pe_int (nomark _)) (pss_one (ps_ret pe_bl)) pss_nil)
      (pss_cons (ps_asg (pv 0) (pg_unl (by rfl) (pgs_cons (pg_name (i := 1) sc__is_wish_row.nd rfl (Or.inl rfl)) (pgs_cons (pg_name (i := 2) sc__is_wish_row.nd rfl (Or.inl rfl)) (pgs_cons (pg_name (i := 3) sc__is_wish_row.nd rfl (Or.inl rfl)) (pgs_cons (pg_name (i := 4) sc__is_wish_row.nd rfl (Or.inl rfl)) (pgs_cons (pg_name (i := 5) sc__is_wish_row.nd rfl (Or.inl rfl)) (pgs_cons (pg_name (i := 6) sc__is_wish_row.nd rfl (Or.inl rfl)) pgs_nil))))))))
      (pss_cons (ps_if (PW.pt (pw_or (pt_cmpR (knotIn_seq (K := K)) (pv 1) (pe_glob (v := .ref a_KINDS) (by rfl) g_KINDS rfl) (by rfl)) (pw_or (pt_cmpR (knotIn_seq (K := K)) (pv 3) (pe_glob (v := .ref a_SIDES) (by rfl) g_SIDES rfl) (by rfl)) (pw_or1 (pt_not (pt_val (pe_call C__are_figures.G (hr.mono (by decide)) (by rfl) C__are_figures.g C__are_figures.kp C__are_figures.b .nil pass0 (pa_cons (pe_lst (pa_cons (pv 2) (pa_cons (pv 4) (pa_cons (pv 5) pa_nil)))) pa_nil)))))))) (pss_one (ps_ret pe_bl)) pss_nil)
      (pss_one (ps_ret (pe_or (pe_cmpR op_eq (pv 6) pe_str (nomark _)) (pe_one (pe_call C__are_figures.G (hr.mono (by decide)) (by rfl) C__are_figures.g C__are_figures.kp C__are_figures.b .nil pass0 (pa_cons (kpe_split (K := K) (pv 6) pe_str) pa_nil))))))))), ?_⟩
    refine ⟨_, rfl, a, _, rfl, .inl hl, rfl, _, rfl, ?_⟩
    by_cases hlen : l.length = 6
    · obtain ⟨kd, sh, sd, cr, kp, af, rfl⟩ := len6 hlen
      refine itnB (decide_eq_true rfl) ?_
      refine ⟨_, rfl, a, _, rfl, hl, rfl, _, _, rfl, _, _, rfl, _, _, rfl, _, _, rfl, _, _, rfl, _, _, rfl, rfl, ?_⟩
      have e0 : isWishRow [kd, sh, sd, cr, kp, af] = (decide (kd ∈ [("fetch" : Str), "bring"]) && (decide (sd ∈ [("left" : Str), "right", "any"]) && (figsB [sh, cr, kp] && (decide (af = "-") || figsB (Txt.split af ","))))) := by
        show (decide (kd = "fetch" ∨ kd = "bring") && (decide (sd = "left" ∨ sd = "right" ∨ sd = "any") && _)) = _
        simp only [List.mem_cons, List.not_mem_nil, or_false]
      rw [e0] at q
      refine ⟨_, rfl, a_KINDS, _, rfl, .inr (hK _), rfl, flat_strs ["fetch", "bring"], _, rfl, ?_⟩
      rw [show [V.str "fetch", V.str "bring"] = [("fetch" : Str), "bring"].map V.str from rfl, ninV_dec]
      by_cases h1 : kd ∈ [("fetch" : Str), "bring"]
      · rw [decide_eq_true h1]
        refine iteF ?_
        refine ⟨_, rfl, a_SIDES, _, rfl, .inr (hS _), rfl, flat_strs ["left", "right", "any"], _, rfl, ?_⟩
        rw [show [V.str "left", V.str "right", V.str "any"] = [("left" : Str), "right", "any"].map V.str from rfl, ninV_dec]
        by_cases h2 : sd ∈ [("left" : Str), "right", "any"]
        · rw [decide_eq_true h2]
          rw [decide_eq_true h1, decide_eq_true h2, Bool.true_and, Bool.true_and] at q
          refine iteF ?_
          refine ⟨_, rfl, _, rfl, _, rfl, small (by simp), fun p np => ?_⟩
          have s1 := same_new (o := .lst [V.str sh, V.str cr, V.str kp]) np
          refine ⟨p, [sh, cr, kp], rfl, lst_new, by simp, fun H1 s2 => ⟨_, rfl, ?_⟩⟩
          have s12 := s1.trans s2
          cases h3 : figsB [sh, cr, kp] with
          | false =>
            rw [h3, Bool.false_and] at q
            exact iteT (q _ s12)
          | true =>
            rw [h3, Bool.true_and] at q
            refine iteF ?_
            refine ⟨_, rfl, rfl, _, rfl, ?_⟩
            by_cases h4 : af = "-"
            · rw [decide_eq_true h4, Bool.true_or] at q
              exact itD (by rw [h4]) (q _ s12)
            · rw [decide_eq_false h4, Bool.false_or] at q
              refine itF (sne h4) ?_
              have hz : af.length ≤ 800 := hlen6 af (by simp)
              refine ⟨_, rfl, ⟨_, rfl⟩, af, ",", rfl, rfl, by decide +kernel, ?_, fun p2 np2 => ?_⟩
              · rw [sizeLine_eq]
                omega
              · refine ⟨p2, Txt.split af ",", rfl, lst_new, ?_, fun H2 s3 => q _ ((s12.trans (same_new np2)).trans s3)⟩
                exact Nat.le_trans (PyProof.Rows.split_le af ",") (by omega)
        · rw [decide_eq_false h2, Bool.false_and, Bool.and_false] at q
          rw [decide_eq_false h2]
          exact iteT (iteT (q _ (Same.refl H)))
      · rw [decide_eq_false h1, Bool.false_and] at q
        rw [decide_eq_false h1]
        exact iteT (iteT (q _ (Same.refl H)))
    · refine itnF (fun z => hlen ?_) ?_
      · have := V.int.inj z
        rw [List.length_map] at this
        omega
      · have e : isWishRow l = false := by
          unfold isWishRow
          split
          · simp at hlen
          · rfl
        rw [e] at q
        exact q _ (Same.refl H)
end

/-! ## rows read -/
section
variable {P : Program} {w : World} {K : PySem.W.Frag} {mg : Str → Option Value} {base : Heap}
theorem shelfRow_form {l : List Str} (h : isShelfRow l = true) : ∃ b c d : Str, l = [("shelf" : Str), b, c, d] ∧ b ∈ figs ∧ c ∈ figs ∧ d ∈ figs := by
  unfold isShelfRow at h
  split at h
  · obtain ⟨h1, h2⟩ := Bool.and_eq_true_iff.mp h
    exact ⟨_, _, _, by rw [of_decide_eq_true h1], figsB_mem h2 (by simp), figsB_mem h2 (by simp), figsB_mem h2 (by simp)⟩
  · cases h
theorem storeRow_form {l : List Str} (h : isStoreRow l = true) : ∃ b : Str, l = [("store" : Str), b] ∧ b ∈ figs := by
  unfold isStoreRow at h
  split at h
  · obtain ⟨h1, h2⟩ := Bool.and_eq_true_iff.mp h
    exact ⟨_, by rw [of_decide_eq_true h1], figsB_mem h2 (by simp)⟩
  · cases h
theorem wishRow_form {l : List Str} (h : isWishRow l = true) : ∃ kd sh sd cr kp af : Str, l = [kd, sh, sd, cr, kp, af] ∧ sh ∈ figs ∧ cr ∈ figs ∧ kp ∈ figs ∧ (af ≠ "-" → figsB (Txt.split af ",") = true) := by
  unfold isWishRow at h
  split at h
  · obtain ⟨h1, h2⟩ := Bool.and_eq_true_iff.mp h
    obtain ⟨h3, h4⟩ := Bool.and_eq_true_iff.mp h2
    obtain ⟨h5, h6⟩ := Bool.and_eq_true_iff.mp h4
    refine ⟨_, _, _, _, _, _, rfl, figsB_mem h5 (by simp), figsB_mem h5 (by simp), figsB_mem h5 (by simp), fun ne => ?_⟩
    rcases Bool.or_eq_true_iff.mp h6 with z | z
    · exact absurd (of_decide_eq_true z) ne
    · exact z
  · cases h
def spShelfOf (K : PySem.W.Frag) : Sp := fun vs H Q _ => ∃ (a : Addr) (l : List Str), vs = [.ref a] ∧ SqL K H a (l.map V.str) ∧ isShelfRow l = true ∧ Ret K H Q (shelfOf l).d
/-! _shelf: 0 words, 1 room, 2 has, 3 sticks, 4 word -/
abbrev s__shelf : Stmt := topS 25
abbrev N__shelf : List Str := ["words", "room", "has", "sticks", "word"]
theorem sc__shelf : FnScope N__shelf ["words"] (defScope s__shelf) := ⟨rfl, rfl, rfl, by decide +kernel, rfl, by decide +kernel, by decide +kernel⟩
theorem ok__shelf {f : Addr} {fd : FuncData} (D : Dfs K mg "_shelf" s__shelf ["words"] f fd) (T : Tx K mg) : Cal P w K mg base 1 "_shelf" ["words"] (spShelfOf K) f fd := by
  refine D.cal (D.F.ok sc__shelf (fun vs H Q E h => ?_) (fun cdv A outer s H vs Q E hr h => ?_))
  · obtain ⟨a, l, rfl, _⟩ := h
    rfl
  · obtain ⟨a, l, rfl, hl, hi, q⟩ := h
    obtain ⟨b, c, d, rfl, hb, hc, hd⟩ := shelfRow_form hi
    refine ⟨_, (pss_cons (ps_asg (pe_lc (own := [("word", 4)]) (g := gName 4) rfl sc__shelf.nd (pi_list (by exact (pe_slice (ksl_list (K := K)) (pv 0) (po_some pe_int) po_none))) (blkOk_by (own := [("word", 4)]) (N := N__shelf) (sc := defScope s__shelf) (by decide +kernel)) (fun _ _ _ _ _ => (pg_name (i := 4) sc__shelf.nd rfl (Or.inl rfl))) (fun _ _ _ _ _ => pts_nil) (fun _ _ _ _ _ => by exact (pe_callTy call_int_str (by rfl) T.n_int (by decide +kernel) (pa_cons (pv 4) pa_nil)))) (pg_unl (by rfl) (pgs_cons (pg_name (i := 1) sc__shelf.nd rfl (Or.inl rfl)) (pgs_cons (pg_name (i := 2) sc__shelf.nd rfl (Or.inl rfl)) (pgs_cons (pg_name (i := 3) sc__shelf.nd rfl (Or.inl rfl)) pgs_nil)))))
      (pss_one (ps_ret (pe_tup (pa_cons (pv 1) (pa_cons (pv 2) (pa_cons (pv 3) pa_nil))))))), ?_⟩
    refine ⟨_, rfl, 1, rfl, a, _, rfl, hl, fun p np => ?_⟩
    have s1 := same_new (o := .lst [V.str b, V.str c, V.str d]) np
    have hp : SqL K (upd H p (.lst [V.str b, V.str c, V.str d])) p ([b, c, d].map V.str) := lst_new
    rw [show cutV (List.map V.str [("shelf" : Str), b, c, d]) (some 1) none = [V.str b, V.str c, V.str d] from rfl]
    generalize upd H p (.lst [V.str b, V.str c, V.str d]) = H1 at s1 hp
    refine ⟨p, rfl, ⟨_, hp⟩, fun D1 nD1 => ?_⟩
    refine lc_list (K := K) (a := p) (xs := [b, c, d].map V.str) (fun i H' => Same H1 H' ∧ H' D1 = some (.lst ((([b, c, d].take i).map figV).map V.int))) ⟨same_new nD1, by rw [List.take_zero]; exact upd_same⟩ (fun i H' _ h => Same.l h.1 hp) ?_ ?_
    · rintro i y H' hy ⟨s2, e1⟩
      obtain ⟨z, hz, rfl⟩ := str_item hy
      have hzf : z ∈ figs := by
        have := List.mem_of_getElem? hz
        simp only [List.mem_cons, List.not_mem_nil, or_false] at this
        rcases this with rfl | rfl | rfl <;> assumption
      obtain ⟨g1, g2⟩ := figV_of hzf
      refine ⟨rfl, _, rfl, z, _, rfl, g1, g2, _, e1, ?_, fun b o h => ?_, ?_⟩
      · rw [List.length_map, List.length_map, List.length_take]
        exact small1000 (by simp; omega)
      · rw [upd_ne (ne_of_none h nD1)]
        exact s2 b o h
      · rw [upd_same, take_succ' hz, List.map_append, List.map_append]
        rfl
    · rintro H' ⟨s2, e1⟩
      rw [List.length_map, List.take_length] at e1
      refine ⟨D1, _, rfl, SqL.of e1, rfl, _, _, rfl, _, _, rfl, _, _, rfl, rfl, ?_⟩
      refine ⟨_, rfl, _, rfl, _, rfl, small (by simp), fun t nt => q _ _ ((s1.trans s2).trans (same_new nt)) (at_shelf (s := shelfOf ["shelf", b, c, d]) tup_new)⟩
def spAfterRead (K : PySem.W.Frag) : Sp := fun vs H Q _ => ∃ (af : Str), vs = [.str af] ∧ af.length ≤ 800 ∧ (af ≠ "-" → figsB (Txt.split af ",") = true) ∧ Ret K H Q (.tuple (dints (afterOf af)))
/-! _after_read: 0 word, 1 number -/
abbrev s__after_read : Stmt := topS 27
abbrev N__after_read : List Str := ["word", "number"]
theorem sc__after_read : FnScope N__after_read ["word"] (defScope s__after_read) := ⟨rfl, rfl, rfl, by decide +kernel, rfl, by decide +kernel, by decide +kernel⟩
theorem ok__after_read {f : Addr} {fd : FuncData} (D : Dfs K mg "_after_read" s__after_read ["word"] f fd) (T : Tx K mg) : Cal P w K mg base 1 "_after_read" ["word"] (spAfterRead K) f fd := by
  refine D.cal (D.F.ok sc__after_read (fun vs H Q E h => ?_) (fun cdv A outer s H vs Q E hr h => ?_))
  · obtain ⟨af, rfl, _⟩ := h
    rfl
  · obtain ⟨af, rfl, hz, hf, q⟩ := h
    refine ⟨_, (pss_cons (ps_if (pt_cmpR op_eq (pv 0) pe_str (nomark _)) (pss_one (ps_ret (pe_tup pa_nil))) pss_nil)
      (pss_one (ps_ret (pe_callTy (ktuple_of (K := K)) (by rfl) T.n_tuple (by decide +kernel) (pa_cons (pe_lc (own := [("number", 1)]) (g := gName 1) rfl sc__after_read.nd (pi_list (by exact (kpe_split (K := K) (pv 0) pe_str))) (blkOk_by (own := [("number", 1)]) (N := N__after_read) (sc := defScope s__after_read) (by decide +kernel)) (fun _ _ _ _ _ => (pg_name (i := 1) sc__after_read.nd rfl (Or.inl rfl))) (fun _ _ _ _ _ => pts_nil) (fun _ _ _ _ _ => by exact (pe_callTy call_int_str (by rfl) T.n_int (by decide +kernel) (pa_cons (pv 1) pa_nil)))) pa_nil))))), ?_⟩
    refine ⟨_, rfl, rfl, _, rfl, ?_⟩
    by_cases h1 : af = "-"
    · refine itD (by rw [h1]) ⟨small (by simp), fun t nt => ?_⟩
      have e : afterOf af = [] := if_pos h1
      rw [e] at q
      exact q _ _ (same_new nt) (.tup tup_new .nil)
    · refine itF (sne h1) ?_
      have hf := hf h1
      have e : afterOf af = (Txt.split af ",").map figV := if_neg h1
      rw [e] at q
      refine ⟨_, rfl, ⟨_, rfl⟩, af, ",", rfl, rfl, by decide +kernel, by rw [sizeLine_eq]; omega, fun p np => ?_⟩
      have s1 := same_new (o := .lst ((Txt.split af ",").map V.str)) np
      have hp : SqL K (upd H p (.lst ((Txt.split af ",").map V.str))) p ((Txt.split af ",").map V.str) := lst_new
      have hn : (Txt.split af ",").length ≤ 900 := Nat.le_trans (PyProof.Rows.split_le af ",") (by omega)
      generalize upd H p (.lst ((Txt.split af ",").map V.str)) = H1 at s1 hp
      generalize Txt.split af "," = l at *
      refine ⟨p, rfl, ⟨_, hp⟩, fun D1 nD1 => ?_⟩
      refine lc_list (K := K) (a := p) (xs := l.map V.str) (fun i H' => Same H1 H' ∧ H' D1 = some (.lst (((l.take i).map figV).map V.int))) ⟨same_new nD1, by rw [List.take_zero]; exact upd_same⟩ (fun i H' _ h => Same.l h.1 hp) ?_ ?_
      · rintro i y H' hy ⟨s2, e1⟩
        obtain ⟨z, hz, rfl⟩ := str_item hy
        obtain ⟨g1, g2⟩ := figV_of (figsB_mem hf (List.mem_of_getElem? hz))
        refine ⟨rfl, _, rfl, z, _, rfl, g1, g2, _, e1, ?_, fun b o h => ?_, ?_⟩
        · rw [List.length_map, List.length_map, List.length_take]
          exact small1000 (by omega)
        · rw [upd_ne (ne_of_none h nD1)]
          exact s2 b o h
        · rw [upd_same, take_succ' hz, List.map_append, List.map_append]
          rfl
      · rintro H' ⟨s2, e1⟩
        rw [List.length_map, List.take_length] at e1
        refine ⟨D1, _, rfl, .inl ⟨SqL.of e1, fun t nt => q _ _ ((s1.trans s2).trans (same_new nt)) (.tup tup_new (ints_dps _))⟩⟩
def spWishOf (K : PySem.W.Frag) : Sp := fun vs H Q _ => ∃ (a : Addr) (l : List Str), vs = [.ref a] ∧ SqL K H a (l.map V.str) ∧ isWishRow l = true ∧ (∀ x ∈ l, x.length ≤ 800) ∧ Ret K H Q (wishOf l).d
/-! _wish: 0 words, 1 kind, 2 shelf, 3 side, 4 crew, 5 keep, 6 after -/
abbrev s__wish : Stmt := topS 26
abbrev N__wish : List Str := ["words", "kind", "shelf", "side", "crew", "keep", "after"]
theorem sc__wish : FnScope N__wish ["words"] (defScope s__wish) := ⟨rfl, rfl, rfl, by decide +kernel, rfl, by decide +kernel, by decide +kernel⟩
theorem ok__wish {f f1 : Addr} {fd fd1 : FuncData} (D : Dfs K mg "_wish" s__wish ["words"] f fd) (T : Tx K mg) (C__after_read : Cal P w K mg base 1 "_after_read" ["word"] (spAfterRead K) f1 fd1) : Cal P w K mg base 2 "_wish" ["words"] (spWishOf K) f fd := by
  refine D.cal (D.F.ok sc__wish (fun vs H Q E h => ?_) (fun cdv A outer s H vs Q E hr h => ?_))
  · obtain ⟨a, l, rfl, _⟩ := h
    rfl
  · obtain ⟨a, l, rfl, hl, hi, hz, q⟩ := h
    obtain ⟨kd, sh, sd, cr, kp, af, rfl, g1, g2, g3, g4⟩ := wishRow_form hi
    refine ⟨_, (pss_cons (ps_asg (pv 0) (pg_unl (by rfl) (pgs_cons (pg_name (i := 1) sc__wish.nd rfl (Or.inl rfl)) (pgs_cons (pg_name (i := 2) sc__wish.nd rfl (Or.inl rfl)) (pgs_cons (pg_name (i := 3) sc__wish.nd rfl (Or.inl rfl)) (pgs_cons (pg_name (i := 4) sc__wish.nd rfl (Or.inl rfl)) (pgs_cons (pg_name (i := 5) sc__wish.nd rfl (Or.inl rfl)) (pgs_cons (pg_name (i := 6) sc__wish.nd rfl (Or.inl rfl)) pgs_nil))))))))
      (pss_one (ps_ret (pe_tup (pa_cons (pv 1) (pa_cons (pe_callTy call_int_str (by rfl) T.n_int (by decide +kernel) (pa_cons (pv 2) pa_nil)) (pa_cons (pv 3) (pa_cons (pe_callTy call_int_str (by rfl) T.n_int (by decide +kernel) (pa_cons (pv 4) pa_nil)) (pa_cons (pe_callTy call_int_str (by rfl) T.n_int (by decide +kernel) (pa_cons (pv 5) pa_nil)) (pa_cons (pe_call C__after_read.G (hr.mono (by decide)) (by rfl) C__after_read.g C__after_read.kp C__after_read.b .nil pass0 (pa_cons (pv 6) pa_nil)) pa_nil)))))))))), ?_⟩
    obtain ⟨a1, b1⟩ := figV_of g1
    obtain ⟨a2, b2⟩ := figV_of g2
    obtain ⟨a3, b3⟩ := figV_of g3
    refine ⟨_, rfl, a, _, rfl, hl, rfl, _, _, rfl, _, _, rfl, _, _, rfl, _, _, rfl, _, _, rfl, _, _, rfl, rfl, ?_⟩
    refine ⟨_, rfl, _, rfl, sh, _, rfl, a1, b1, _, rfl, _, rfl, cr, _, rfl, a2, b2, _, rfl, kp, _, rfl, a3, b3, ?_⟩
    refine ⟨_, rfl, af, rfl, hz af (by simp), g4, fun v H1 s1 d1 => ?_⟩
    obtain ⟨t, rfl, ht⟩ := dp_ints d1
    refine ⟨small (by simp), fun pt npt => q _ _ (s1.trans (same_new npt)) (at_wish (s := wishOf [kd, sh, sd, cr, kp, af]) tup_new (Same.t (same_new npt) ht))⟩
def spAfterWritten (K : PySem.W.Frag) : Sp := fun vs H Q _ => ∃ (t : Addr) (l : List Int), vs = [.ref t] ∧ SqT K H t (l.map V.int) ∧ (∀ i ∈ l, 0 ≤ i ∧ i ≤ 9) ∧ l.length ≤ 5 ∧ ∀ H', Same H H' → Q (.str (afterT l)) H'
end

/-! ## the text of a store -/
def rowT (ws : List Str) : Str := Txt.join " " ws
def rowStore (a : Int) : List Str := ["store", fg a]
def rowShelf (s : Shelf) : List Str := ["shelf", fg s.room, fg s.has, fg s.sticks]
def rowWish (x : Wish) : List Str := [x.kind, fg x.shelf, x.side, fg x.crew, fg x.keep, afterT x.after]
def rowsW (S : Sto) : List (List Str) := rowStore S.aisle :: (S.shelves.map rowShelf ++ S.wishes.map rowWish)
def textS (S : Sto) : Str := Txt.join "\n" ((rowsW S).map rowT)
theorem tl_blank : TL.tl (" " : Str) = [32] := by decide +kernel
theorem tl_line : TL.tl ("\n" : Str) = [10] := by decide +kernel
theorem tl_comma : TL.tl ("," : Str) = [44] := by decide +kernel
theorem tl_dash : TL.tl ("-" : Str) = [45] := by decide +kernel
theorem tl_empty : TL.tl Str.empty = [] := by decide +kernel
theorem tl_store_ : TL.tl ("store " : Str) = TL.tl ("store" : Str) ++ [32] := by decide +kernel
theorem tl_shelf_ : TL.tl ("shelf " : Str) = TL.tl ("shelf" : Str) ++ [32] := by decide +kernel
theorem tl_rowT (ws : List Str) : TL.tl (rowT ws) = TL.joinL [32] (ws.map TL.tl) := by
  unfold rowT
  rw [TL.join_eq, TL.tl_join, tl_blank]
theorem fs_store (x : Str) : Str.empty ++ ("store " : Str) ++ x = rowT ["store", x] := by
  refine TL.ext_tl ?_
  rw [tl_rowT, TL.tl_append, TL.tl_append, tl_empty, tl_store_]
  simp [TL.joinL]
theorem fs_store2 (x : Str) : ("store " : Str) ++ x = rowT ["store", x] := by
  refine TL.ext_tl ?_
  rw [tl_rowT, TL.tl_append, tl_store_]
  simp [TL.joinL]
theorem fs_shelf (x y z : Str) : Str.empty ++ ("shelf " : Str) ++ x ++ (" " : Str) ++ y ++ (" " : Str) ++ z = rowT ["shelf", x, y, z] := by
  refine TL.ext_tl ?_
  rw [tl_rowT]
  simp only [TL.tl_append, tl_empty, tl_shelf_, tl_blank]
  simp [TL.joinL]
theorem fs_shelf2 (x y z : Str) : ("shelf " : Str) ++ Txt.join " " [x, y, z] = rowT ["shelf", x, y, z] := by
  refine TL.ext_tl ?_
  rw [tl_rowT, TL.tl_append, tl_shelf_, TL.join_eq, TL.tl_join, tl_blank]
  simp [TL.joinL]
theorem fs_wish (a b c d e f : Str) : Str.empty ++ a ++ (" " : Str) ++ b ++ (" " : Str) ++ c ++ (" " : Str) ++ d ++ (" " : Str) ++ e ++ (" " : Str) ++ f = rowT [a, b, c, d, e, f] := by
  refine TL.ext_tl ?_
  rw [tl_rowT]
  simp only [TL.tl_append, tl_empty, tl_blank]
  simp [TL.joinL]
theorem len_fg {i : Int} (h0 : 0 ≤ i) (h9 : i ≤ 9) : (fg i).length = 1 := by
  rw [TL.len_tl, tl_fg h0 h9]
  rfl
/-! ### sizes -/
theorem sum_le {ys : List Str} {n : Nat} (h : ∀ y ∈ ys, y.length ≤ n) : (ys.map (·.length)).sum ≤ ys.length * n := by
  induction ys with
  | nil => exact Nat.zero_le _
  | cons y r ih =>
    have h1 := h y List.mem_cons_self
    have h2 := ih fun z hz => h z (List.mem_cons_of_mem _ hz)
    rw [List.map_cons, List.sum_cons, List.length_cons, Nat.succ_mul]
    omega
theorem join_small {ys : List Str} {a : Str} (h : ∀ y ∈ ys, y.length ≤ 900) (hn : ys.length ≤ 900) (ha : a.length ≤ 1) : (ys.map (·.length)).sum + ys.length * a.length ≤ 16777216 := by
  have h1 := sum_le h
  have h2 : ys.length * 900 ≤ 900 * 900 := Nat.mul_le_mul_right _ hn
  have h3 : ys.length * a.length ≤ 900 * 1 := Nat.mul_le_mul hn ha
  omega
theorem joinL_len {S : List Nat} {n m : Nat} (hS : S.length ≤ m) : ∀ {ps : List (List Nat)}, (∀ p ∈ ps, p.length ≤ n) → (TL.joinL S ps).length ≤ ps.length * (n + m)
  | [], _ => Nat.zero_le _
  | [p], h => by
    have := h p List.mem_cons_self
    show p.length ≤ 1 * (n + m)
    omega
  | p :: q :: r, h => by
    have h1 := h p List.mem_cons_self
    have h2 := joinL_len hS (ps := q :: r) fun z hz => h z (List.mem_cons_of_mem _ hz)
    show (p ++ (S ++ TL.joinL S (q :: r))).length ≤ _
    rw [List.length_append, List.length_append, List.length_cons, Nat.succ_mul]
    omega
theorem mem_joinL {S : List Nat} {c : Nat} : ∀ {ps : List (List Nat)}, c ∈ TL.joinL S ps → c ∈ S ∨ ∃ p ∈ ps, c ∈ p
  | [], h => absurd h (by simp [TL.joinL])
  | [p], h => .inr ⟨p, List.mem_cons_self, h⟩
  | p :: q :: r, h => by
    rcases List.mem_append.mp h with h | h
    · exact .inr ⟨p, List.mem_cons_self, h⟩
    · rcases List.mem_append.mp h with h | h
      · exact .inl h
      · rcases mem_joinL (ps := q :: r) h with h | ⟨z, hz, h⟩
        · exact .inl h
        · exact .inr ⟨z, List.mem_cons_of_mem _ hz, h⟩
theorem afterT_signs {l : List Int} (h : ∀ i ∈ l, 0 ≤ i ∧ i ≤ 9) : ∀ c ∈ TL.tl (afterT l), c = 44 ∨ c = 45 ∨ (48 ≤ c ∧ c ≤ 57) := by
  intro c hc
  unfold afterT at hc
  split at hc
  · rw [tl_dash, List.mem_singleton] at hc
    exact .inr (.inl hc)
  · rw [TL.join_eq, TL.tl_join, tl_comma] at hc
    rcases mem_joinL hc with hc | ⟨p, hp, hc⟩
    · exact .inl (List.mem_singleton.mp hc)
    · obtain ⟨x, hx, rfl⟩ := List.mem_map.mp hp
      obtain ⟨i, hi, rfl⟩ := List.mem_map.mp hx
      obtain ⟨h0, h9⟩ := h i hi
      rw [tl_fg h0 h9, List.mem_singleton] at hc
      omega
theorem afterT_len {l : List Int} (h : ∀ i ∈ l, 0 ≤ i ∧ i ≤ 9) (hn : l.length ≤ 5) : (afterT l).length ≤ 20 := by
  rw [TL.len_tl]
  unfold afterT
  split
  · rw [tl_dash]
    decide
  · rw [TL.join_eq, TL.tl_join, tl_comma]
    refine Nat.le_trans (joinL_len (n := 1) (m := 1) (Nat.le_refl _) fun p hp => ?_) ?_
    · obtain ⟨x, hx, rfl⟩ := List.mem_map.mp hp
      obtain ⟨i, hi, rfl⟩ := List.mem_map.mp hx
      obtain ⟨h0, h9⟩ := h i hi
      rw [tl_fg h0 h9]
      exact Nat.le_refl _
    · rw [List.length_map, List.length_map]
      omega
/-- no sign of a word parts words or rows -/
def Wd (x : Str) : Prop := 32 ∉ TL.tl x ∧ 10 ∉ TL.tl x ∧ x.length ≤ 20
theorem wd_fg {i : Int} (h0 : 0 ≤ i) (h9 : i ≤ 9) : Wd (fg i) := by
  refine ⟨?_, ?_, by rw [len_fg h0 h9]; decide⟩ <;> rw [tl_fg h0 h9, List.mem_singleton] <;> omega
theorem wd_lit {x : Str} (h : (decide (32 ∉ TL.tl x) && decide (10 ∉ TL.tl x) && decide (x.length ≤ 20)) = true) : Wd x := by
  simp only [Bool.and_eq_true, decide_eq_true_eq] at h
  exact ⟨h.1.1, h.1.2, h.2⟩
theorem wd_after {l : List Int} (h : ∀ i ∈ l, 0 ≤ i ∧ i ≤ 9) (hn : l.length ≤ 5) : Wd (afterT l) := by
  refine ⟨fun z => ?_, fun z => ?_, afterT_len h hn⟩
  · have := afterT_signs h _ z
    omega
  · have := afterT_signs h _ z
    omega
theorem wd_kind {n m : Int} {x : Wish} (h : WishOk n m x) : Wd x.kind := by
  rcases h.kind with e | e <;> rw [e] <;> exact wd_lit (by decide +kernel)
theorem wd_side {n m : Int} {x : Wish} (h : WishOk n m x) : Wd x.side := by
  rcases h.side with e | e | e <;> rw [e] <;> exact wd_lit (by decide +kernel)
theorem Rising.lenI {lo m : Int} : ∀ {l : List Int}, Rising lo m l → (l.length : Int) ≤ max (m - lo) 0
  | [], _ => by
    show (0 : Int) ≤ max (m - lo) 0
    omega
  | i :: r, h => by
    have := Rising.lenI (l := r) h.2.2
    have h1 := h.1
    have h2 := h.2.1
    rw [List.length_cons]
    omega
structure WishNums (x : Wish) : Prop where
  shelf : 0 ≤ x.shelf ∧ x.shelf ≤ 9
  crew : 0 ≤ x.crew ∧ x.crew ≤ 9
  keep : 0 ≤ x.keep ∧ x.keep ≤ 9
  after : ∀ i ∈ x.after, 0 ≤ i ∧ i ≤ 9
  len : x.after.length ≤ 5
theorem WishOk.nums {n m : Int} {x : Wish} (h : WishOk n m x) (hn : n ≤ 5) (hm : m ≤ 5) : WishNums x := by
  have h1 := h.s0
  have h2 := h.s1
  have h3 := h.crew
  have h4 := h.k0
  have h5 := h.k3
  have h6 := h.after.lenI
  exact ⟨by omega, by omega, by omega, fun i hi => by have := h.after.mem hi; omega, by omega⟩
structure ShelfNums (s : Shelf) : Prop where
  room : 0 ≤ s.room ∧ s.room ≤ 9
  has : 0 ≤ s.has ∧ s.has ≤ 9
  sticks : 0 ≤ s.sticks ∧ s.sticks ≤ 9
theorem ShelfOk.nums {s : Shelf} (h : ShelfOk s) : ShelfNums s := by
  have h1 := h.h0
  have h2 := h.h1
  have h3 := h.h2
  have h4 := h.st
  exact ⟨by omega, by omega, by omega⟩
theorem StoOk.wnums {S : Sto} (ok : StoOk S) {x : Wish} (h : x ∈ S.wishes) : WishNums x := (ok.ws x h).nums (by have := ok.n5; omega) (by have := ok.w5; omega)
theorem wd_rowShelf {s : Shelf} (h : ShelfNums s) : ∀ x ∈ rowShelf s, Wd x := by
  intro x hx
  simp only [rowShelf, List.mem_cons, List.not_mem_nil, or_false] at hx
  rcases hx with rfl | rfl | rfl | rfl
  · exact wd_lit (by decide +kernel)
  · exact wd_fg h.room.1 h.room.2
  · exact wd_fg h.has.1 h.has.2
  · exact wd_fg h.sticks.1 h.sticks.2
theorem wd_rowStore {a : Int} (h0 : 0 ≤ a) (h9 : a ≤ 9) : ∀ x ∈ rowStore a, Wd x := by
  intro x hx
  simp only [rowStore, List.mem_cons, List.not_mem_nil, or_false] at hx
  rcases hx with rfl | rfl
  · exact wd_lit (by decide +kernel)
  · exact wd_fg h0 h9
theorem wd_rowWish {n m : Int} {x : Wish} (h : WishOk n m x) (g : WishNums x) : ∀ y ∈ rowWish x, Wd y := by
  intro y hy
  simp only [rowWish, List.mem_cons, List.not_mem_nil, or_false] at hy
  rcases hy with rfl | rfl | rfl | rfl | rfl | rfl
  · exact wd_kind h
  · exact wd_fg g.shelf.1 g.shelf.2
  · exact wd_side h
  · exact wd_fg g.crew.1 g.crew.2
  · exact wd_fg g.keep.1 g.keep.2
  · exact wd_after g.after g.len
/-- a row of words: its signs and its length -/
theorem row_ok {ws : List Str} (h : ∀ x ∈ ws, Wd x) (hn : ws.length ≤ 6) : 10 ∉ TL.tl (rowT ws) ∧ (rowT ws).length ≤ 126 := by
  constructor
  · intro z
    rw [tl_rowT] at z
    rcases mem_joinL z with z | ⟨p, hp, z⟩
    · rw [List.mem_singleton] at z
      omega
    · obtain ⟨x, hx, rfl⟩ := List.mem_map.mp hp
      exact (h x hx).2.1 z
  · rw [TL.len_tl, tl_rowT]
    refine Nat.le_trans (joinL_len (n := 20) (m := 1) (Nat.le_refl _) fun p hp => ?_) ?_
    · obtain ⟨x, hx, rfl⟩ := List.mem_map.mp hp
      rw [← TL.len_tl]
      exact (h x hx).2.2
    · rw [List.length_map]
      omega
theorem row_split {ws : List Str} (h : ∀ x ∈ ws, Wd x) (hne : ws ≠ []) : Txt.split (rowT ws) " " = ws := TL.split_join (s := 32) (S := []) tl_blank (by decide +kernel) hne fun p hp => (h p hp).1
theorem rows_wd {S : Sto} (ok : StoOk S) : ∀ r ∈ rowsW S, (∀ x ∈ r, Wd x) ∧ r.length ≤ 6 ∧ r ≠ [] := by
  intro r hr
  have n5 := ok.n5
  have a0 := ok.a0
  have a1 := ok.a1
  rcases List.mem_cons.mp hr with rfl | hr
  · exact ⟨wd_rowStore a0 (by omega), by simp [rowStore], by unfold rowStore; simp⟩
  · rcases List.mem_append.mp hr with hr | hr
    · obtain ⟨s, hs, rfl⟩ := List.mem_map.mp hr
      exact ⟨wd_rowShelf (ok.sh s hs).nums, by simp [rowShelf], by unfold rowShelf; simp⟩
    · obtain ⟨x, hx, rfl⟩ := List.mem_map.mp hr
      exact ⟨wd_rowWish (ok.ws x hx) (ok.wnums hx), by simp [rowWish], by unfold rowWish; simp⟩
theorem rows_len {S : Sto} (ok : StoOk S) : (rowsW S).length ≤ 11 := by
  have n5 := ok.n5
  have w5 := ok.w5
  unfold rowsW
  rw [List.length_cons, List.length_append, List.length_map, List.length_map]
  omega
theorem text_split {S : Sto} (ok : StoOk S) : (Txt.split (textS S) "\n").map (fun r => Txt.split r " ") = rowsW S := by
  have e : Txt.split (textS S) "\n" = (rowsW S).map rowT := TL.split_join (s := 10) (S := []) tl_line (by decide +kernel) (by unfold rowsW; simp) fun p hp => by
    obtain ⟨r, hr, rfl⟩ := List.mem_map.mp hp
    obtain ⟨h1, h2, _⟩ := rows_wd ok r hr
    exact (row_ok h1 h2).1
  rw [e, List.map_map]
  refine (List.map_congr_left fun r hr => ?_).trans (List.map_id _)
  obtain ⟨h1, _, h3⟩ := rows_wd ok r hr
  exact row_split h1 h3
theorem text_len {S : Sto} (ok : StoOk S) : (textS S).length ≤ 1500 := by
  rw [TL.len_tl]
  unfold textS
  rw [TL.join_eq, TL.tl_join, tl_line]
  refine Nat.le_trans (joinL_len (n := 126) (m := 1) (Nat.le_refl _) fun p hp => ?_) ?_
  · obtain ⟨x, hx, rfl⟩ := List.mem_map.mp hp
    obtain ⟨r, hr, rfl⟩ := List.mem_map.mp hx
    obtain ⟨h1, h2, _⟩ := rows_wd ok r hr
    rw [← TL.len_tl]
    exact (row_ok h1 h2).2
  · have := rows_len ok
    rw [List.length_map, List.length_map]
    omega

/-! ## BadText: an own error of one field -/
structure Xi1 (P : Program) (w : World) (K : PySem.W.Frag) (mg : Str → Option Value) (base : Heap) (C fI : Addr) (fd : FuncData) (f1 : Str) (sp : Sp) : Prop where
  T : OexC K C
  D : ExD K C
  iC : PySem.W.findIn K (.ref C) "__init__" = some (some (.ref fI))
  tI : PySem.W.typeIn K (.ref fI) = some (.type "function")
  n1 : PySem.W.findIn K (.ref C) f1 = some none
  b : Binds K fd ["self", f1] []
  G : FnOk P w K mg base CX0 1 fI fd ["self", f1] sp
def spX1 (K : PySem.W.Frag) (C : Addr) (f1 : Str) : Sp := fun vs H Q _ => ∃ (a : Addr) (x : V), vs = [.ref a, x] ∧ OexC K C ∧ H a = some (exo a C none) ∧ ∀ dx, H dx = none → dx ≠ a → Q .non (upd (upd H dx (exd dx [(f1, x)])) a (exo a C (some dx)))
theorem mk1 {K : PySem.W.Frag} {C : Addr} {f1 : Str} {H : Hp} {x : V} {Q : XK} (T : OexC K C) (q : ∀ d H', Same H H' → H d = none → H' d = some (.xd [(f1, x)]) → Q (.ref C) (some d) H') :
    [x].length ≤ 1000 ∧ ∀ a, H a = none → spX1 K C f1 (.ref a :: ([x] ++ [])) (upd H a (exo a C none))
      (fun v H2 => v = .non ∧ ∃ (d : Addr) (fs : List (Str × V)), H2 a = some (exo a C (some d)) ∧ H2 d = some (exd d fs) ∧ H d = none ∧ Q (.ref C) (some d) (upd (L2.del H2 a) d (.xd fs))) (fun _ _ _ => False) := by
  refine ⟨by simp, fun a na => ⟨a, x, rfl, T, upd_same, fun dx ndx ne => ⟨rfl, dx, [(f1, x)], upd_same, ?_, ?_, q dx _ ?_ ?_ upd_same⟩⟩⟩
  · rw [upd_ne ne, upd_same]
  · rw [upd_ne ne] at ndx
    exact ndx
  · intro b o h
    have h1 : b ≠ a := ne_of_none h na
    have h2 : b ≠ dx := fun z => by
      rw [z] at h
      rw [upd_ne ne, h] at ndx
      cases ndx
    rw [upd_ne h2, del_ne h1, upd_ne h1, upd_ne h2, upd_ne h1]
    exact h
  · rw [upd_ne ne] at ndx
    exact ndx
def Out1 (E : XK) (H : Hp) (C : Addr) (f1 : Str) (x : V) : Prop := ∀ d H', Same H H' → H d = none → H' d = some (.xd [(f1, x)]) → E (.ref C) (some d) H'
theorem Out1.mono {E : XK} {H H' : Hp} {C : Addr} {f1 : Str} {x : V} (s : Same H H') (h : Out1 E H C f1 x) : Out1 E H' C f1 x := fun d H2 s2 n e => h d H2 (s.trans s2) (s.free n) e
section
variable {P : Program} {w : World} {K : PySem.W.Frag} {mg : Str → Option Value} {base : Heap}
/-! BadText.__init__: 0 self, 1 row -/
abbrev s_BadText___init__ : Stmt := inClass (topS 5) 0
abbrev N_BadText___init__ : List Str := ["self", "row"]
theorem sc_BadText___init__ : FnScope N_BadText___init__ ["self", "row"] (defScope s_BadText___init__) := ⟨rfl, rfl, rfl, by decide +kernel, rfl, by decide +kernel, by decide +kernel⟩
theorem ok_BadText_init {f CT : Addr} {fd : FuncData} (F : Fun K "__init__" "BadText.__init__" s_BadText___init__ f fd) (n1 : PySem.W.findIn K (.ref CT) "row" = some none) :
    FnOk P w K mg base CX0 1 f fd ["self", "row"] (spX1 K CT "row") := by
  refine F.ok sc_BadText___init__ (fun vs H Q E h => ?_) (fun cdv A outer s H vs Q E hr h => ?_)
  · obtain ⟨a, x, rfl, _⟩ := h
    rfl
  · obtain ⟨a, x, rfl, T, ea, q⟩ := h
    refine ⟨_, (pss_one (ps_ost (pv 0) (pv 1) rfl)), ?_⟩
    refine ⟨_, rfl, _, rfl, a, CT, rfl, T, n1, .inl ⟨ea, fun dx ndx ne => ?_⟩⟩
    exact q dx ndx ne
end

/-! ## a store read -/
def dstrs (l : List Str) : List PyData := l.map .str
theorem strs_dps {K : PySem.W.Frag} {H : Hp} : ∀ l : List Str, DpAll K H (l.map V.str) (dstrs l)
  | [] => .nil
  | x :: l => .cons (.str x) (strs_dps l)
theorem dps_strs {K : PySem.W.Frag} {H : Hp} {vs : List V} {l : List Str} (h : DpAll K H vs (dstrs l)) : vs = l.map V.str := by
  induction l generalizing vs with
  | nil => exact dps_nil h
  | cons i l ih =>
    obtain ⟨x, r, rfl, h0, hr⟩ := dps_cons h
    rw [dp_str h0, ih hr]
    rfl
def dwords (l : List (List Str)) : List PyData := l.map fun ws => .list (dstrs ws)
theorem words_get {K : PySem.W.Frag} {H : Hp} {xs : List V} {l : List (List Str)} (h : DpAll K H xs (dwords l)) {i : Nat} {ws : List Str} (e : l[i]? = some ws) : ∃ a, xs[i]? = some (.ref a) ∧ SqL K H a (ws.map V.str) := by
  obtain ⟨x, h1, h2⟩ := dps_get h (i := i) (d := .list (dstrs ws)) (by unfold dwords; rw [List.getElem?_map, e]; rfl)
  obtain ⟨a, vs, rfl, h3, h4⟩ := dp_lst h2
  rw [dps_strs h4] at h3
  exact ⟨a, h1, h3⟩
theorem scan_step {k : Nat} {rs : List (List Str)} {i : Nat} {r : List Str} {ss : List Shelf} {ws : List Wish} (h : rs[i]? = some r) : scan k (rs.drop i) ss ws =
    if isShelfRow r = true ∧ ws = [] then scan (k + 1) (rs.drop (i + 1)) (ss ++ [shelfOf r]) ws else if isWishRow r = true then scan (k + 1) (rs.drop (i + 1)) ss (ws ++ [wishOf r]) else .inl k := by
  obtain ⟨h1, h2⟩ := List.getElem?_eq_some_iff.mp h
  rw [List.drop_eq_getElem_cons h1, h2]
  rfl
theorem small1000' {n : Nat} (h : n < 1000) : n < sizeLine := small1000 (by omega)
structure TextOk (t : Str) (r0 : List Str) (rs : List (List Str)) : Prop where
  e : (Txt.split t "\n").map (fun r => Txt.split r " ") = r0 :: rs
  len : t.length ≤ 100000
  row : ∀ r ∈ Txt.split t "\n", r.length ≤ 800
  many : rs.length ≤ 800
  ws : ∀ l ∈ r0 :: rs, l.length ≤ 900 ∧ ∀ x ∈ l, x.length ≤ 800
section
variable {P : Program} {w : World} {K : PySem.W.Frag} {mg : Str → Option Value} {base : Heap}
def spRead (K : PySem.W.Frag) (C CB CT : Addr) : Sp := fun vs H Q E => ∃ (t : Str) (r0 : List Str) (rs : List (List Str)), vs = [.str t] ∧ TextOk t r0 rs ∧
  (isStoreRow r0 = false → Out1 E H CT "row" (.int 0)) ∧ (isStoreRow r0 = true → (∀ k : Nat, scan 1 rs [] [] = .inl k → Out1 E H CT "row" (.int k)) ∧
    ∀ ss ws, scan 1 rs [] [] = .inr (ss, ws) → ∃ r, Bad ss (figV (r0.getD 1 "")) ws ws.length r ∧ (r = none → ∀ p H', Same H H' → H p = none → Ob K C H' p ⟨ss, figV (r0.getD 1 ""), ws⟩ → Q (.ref p) H') ∧
      ∀ x n, r = some (x, n) → Out2 E H CB "word" "number" (.str x) (.int n))
/-! read: 0 text, 1 rows, 2 shelves, 3 wishes, 4 number, 5 words, 6 row -/
abbrev s_read : Stmt := topS 20
abbrev N_read : List Str := ["text", "rows", "shelves", "wishes", "number", "words", "row"]
theorem sc_read : FnScope N_read ["text"] (defScope s_read) := ⟨rfl, rfl, rfl, by decide +kernel, rfl, by decide +kernel, by decide +kernel⟩
theorem ok_read {f f1 f2 f3 f4 f5 C CB CT fI fS fW fT : Addr} {fd fd1 fd2 fd3 fd4 fd5 fdI fdS fdW fdT : FuncData} (D : Dfs K mg "read" s_read ["text"] f fd) (T : Tx K mg) (TS : TSx K mg C fI fS fW fdI fdS fdW) (G_init : FnOk P w K mg base (L2.CX P w) 4 fI fdI ["self", "shelves", "aisle", "wishes"] (spInitX K C CB))
    (X_BadText : Xi1 P w K mg base CT fT fdT "row" (spX1 K CT "row")) (N_BadText : Xn K mg "BadText" CT) (C__is_store_row : Cal P w K mg base 2 "_is_store_row" ["words"] (spWords K isStoreRow) f1 fd1) (C__is_shelf_row : Cal P w K mg base 2 "_is_shelf_row" ["words"] (spWords K isShelfRow) f2 fd2)
    (C__is_wish_row : Cal P w K mg base 2 "_is_wish_row" ["words"] (spWishRow K) f3 fd3) (C__shelf : Cal P w K mg base 1 "_shelf" ["words"] (spShelfOf K) f4 fd4) (C__wish : Cal P w K mg base 2 "_wish" ["words"] (spWishOf K) f5 fd5) :
    CalX P w K mg base 6 "read" ["text"] (spRead K C CB CT) f fd := by
  refine D.calX (D.F.okX sc_read (fun vs H Q E h => ?_) (fun cdv A outer s H vs Q E hr h => ?_))
  · obtain ⟨t, r0, rs, rfl, _⟩ := h
    rfl
  · obtain ⟨t, r0, rs, rfl, tk, o0, q⟩ := h
    refine ⟨_, (pss_cons (ps_setLc (i := 1) (own := [("row", 6)]) (g := gName 6) rfl sc_read.nd rfl rfl (sw_true rfl rfl rfl (by decide +kernel)) (pi_list (by exact (kpe_split (K := K) (pv 0) pe_str))) (blkOk_by (own := [("row", 6)]) (N := N_read) (sc := defScope s_read) (by decide +kernel)) (fun _ _ _ _ _ => (pg_name (i := 6) sc_read.nd rfl (Or.inl rfl))) (fun _ _ _ _ _ => pts_nil) (fun _ _ _ _ _ => by exact (kpe_split (K := K) (pv 6) pe_str)))
      (pss_cons (ps_if (pt_not (pt_val (pe_call C__is_store_row.G (hr.mono (by decide)) (by rfl) C__is_store_row.g C__is_store_row.kp C__is_store_row.b .nil pass0 (pa_cons (pe_ix (kix_list (K := K)) (pv 1) pe_int (fun _ _ => rfl)) pa_nil)))) (pss_one (ps_raise rfl (takes_of rfl rfl rfl rfl) (pmk_oex X_BadText.T X_BadText.iC X_BadText.tI X_BadText.G (hr.mono (by decide)) X_BadText.b .nil pass0 (by rfl) N_BadText.g (pa_cons pe_int pa_nil)))) pss_nil)
      (pss_cons (ps_set (i := 2) sc_read.nd rfl (Or.inl rfl) (pe_lst pa_nil))
      (pss_cons (ps_set (i := 3) sc_read.nd rfl (Or.inl rfl) (pe_lst pa_nil))
      (pss_cons (ps_for (passes_of rfl) rfl (pi_enumS (K := K) (by rfl) T.n_enumerate (pa_cons (pe_slice (ksl_list (K := K)) (pv 1) (po_some pe_int) po_none) pa_nil) (pk_cons pe_int pk_nil)) (pg_tup (by rfl) (pgs_cons (pg_name (i := 4) sc_read.nd rfl (Or.inl rfl)) (pgs_cons (pg_name (i := 5) sc_read.nd rfl (Or.inl rfl)) pgs_nil))) (pss_one (ps_if (PW.pt (pw_and (pt_val (pe_call C__is_shelf_row.G (hr.mono (by decide)) (by rfl) C__is_shelf_row.g C__is_shelf_row.kp C__is_shelf_row.b .nil pass0 (pa_cons (pv 5) pa_nil))) (pw_and1 (pt_cmpR op_eq (pe_callB (klen (K := K)) (by rfl) T.n_len (by decide +kernel) (pa_cons (pv 3) pa_nil)) pe_int (nomark _))))) (pss_one (ps_expr (pe_bm PySem.F.plainAttrs_list PySem.F.slot_list_append PySem.F.type_list_append mt_append (pv 2) (pa_cons (pe_call C__shelf.G (hr.mono (by decide)) (by rfl) C__shelf.g C__shelf.kp C__shelf.b .nil pass0 (pa_cons (pv 5) pa_nil)) pa_nil)))) (pss_one (ps_if (pt_val (pe_call C__is_wish_row.G (hr.mono (by decide)) (by rfl) C__is_wish_row.g C__is_wish_row.kp C__is_wish_row.b .nil pass0 (pa_cons (pv 5) pa_nil))) (pss_one (ps_expr (pe_bm PySem.F.plainAttrs_list PySem.F.slot_list_append PySem.F.type_list_append mt_append (pv 3) (pa_cons (pe_call C__wish.G (hr.mono (by decide)) (by rfl) C__wish.g C__wish.kp C__wish.b .nil pass0 (pa_cons (pv 5) pa_nil)) pa_nil)))) (pss_one (ps_raise rfl (takes_of rfl rfl rfl rfl) (pmk_oex X_BadText.T X_BadText.iC X_BadText.tI X_BadText.G (hr.mono (by decide)) X_BadText.b .nil pass0 (by rfl) N_BadText.g (pa_cons (pv 4) pa_nil)))))))))
      (pss_one (ps_ret (pe_make TS.mkS G_init (hr.mono (by decide)) rfl TS.g TS.b_init .nil (passes_call (takes_of rfl rfl rfl rfl) (fun _ _ _ _ h => h)) (pa_cons (pv 2) (pa_cons (pe_callTy call_int_str (by rfl) T.n_int (by decide +kernel) (pa_cons (pe_ix (kix_list (K := K)) (pe_ix (kix_list (K := K)) (pv 1) pe_int (fun _ _ => rfl)) pe_int (fun _ _ => rfl)) pa_nil)) (pa_cons (pv 3) pa_nil))))))))))), ?_⟩
    -- rows = [row.split(' ') for row in text.split('\n')]
    refine ⟨_, rfl, ⟨_, rfl⟩, t, "\n", rfl, rfl, by decide +kernel, by have := tk.len; rw [sizeLine_eq]; omega, fun l0 nl0 => ?_⟩
    have s0 := same_new (o := .lst ((Txt.split t "\n").map V.str)) nl0
    have hl0 : SqL K (upd H l0 (.lst ((Txt.split t "\n").map V.str))) l0 ((Txt.split t "\n").map V.str) := lst_new
    generalize upd H l0 (.lst ((Txt.split t "\n").map V.str)) = H0 at s0 hl0
    have hn : (Txt.split t "\n").length = rs.length + 1 := by
      have := congrArg List.length tk.e
      rw [List.length_map, List.length_cons] at this
      exact this
    have hmany := tk.many
    have hlr := tk.row
    have he := tk.e
    generalize Txt.split t "\n" = L at *
    refine ⟨l0, rfl, ⟨_, hl0⟩, fun D1 nD1 => ?_⟩
    refine lc_list (K := K) (a := l0) (xs := L.map V.str) (fun i H' => ∃ B us, Acq K H0 B H' D1 us (dwords ((L.take i).map fun r => Txt.split r " "))) ⟨H0, [], by rw [List.take_zero]; exact Acq.start (Same.refl _) (Same.refl _) nD1⟩ (fun i H' _ ⟨B, us, A⟩ => Same.l (A.s.trans A.R) hl0) ?_ ?_
    · rintro i y H' hy ⟨B, us, A⟩
      obtain ⟨z, hz, rfl⟩ := str_item hy
      have hzl := hlr z (List.mem_of_getElem? hz)
      refine ⟨rfl, _, rfl, ⟨_, rfl⟩, z, " ", rfl, rfl, by decide +kernel, by rw [sizeLine_eq]; omega, fun p np => ?_⟩
      have A2 := A.grow (o := .lst ((Txt.split z " ").map V.str)) np
      have A3 := A2.app (v := .ref p) (d := .list (dstrs (Txt.split z " "))) (.lst lst_new (strs_dps _))
      refine ⟨us, A2.el, ?_, upd B p (.lst ((Txt.split z " ").map V.str)), us ++ [.ref p], ?_⟩
      · have e := dps_len A2.dx
        unfold dwords at e
        rw [List.length_map, List.length_map, List.length_take] at e
        exact small1000 (by omega)
      · rw [take_succ' hz, List.map_append]
        have ed : dwords ((L.take i).map (fun r => Txt.split r " ") ++ [z].map (fun r => Txt.split r " ")) = dwords ((L.take i).map fun r => Txt.split r " ") ++ [.list (dstrs (Txt.split z " "))] := by
          unfold dwords
          rw [List.map_append]
          rfl
        rw [ed]
        exact A3
    rintro H1 ⟨B, us, A⟩
    rw [List.length_map, List.take_length, he] at A
    obtain ⟨s1, hD, dU⟩ := A.all
    have lu : us.length = rs.length + 1 := by
      rw [dps_len dU]
      unfold dwords
      rw [List.length_map, List.length_cons]
    have s01 := s0.trans s1
    clear A
    obtain ⟨a0, ha0, hr0⟩ := words_get dU (i := 0) (ws := r0) rfl
    have hw0 := tk.ws r0 List.mem_cons_self
    -- if not _is_store_row(rows[0])
    refine ⟨_, rfl, D1, us, 0, .ref a0, rfl, rfl, hD, at_of (j := 0) rfl ha0, a0, r0, rfl, hr0, hw0.1, fun H2 s2 => ⟨_, rfl, ?_⟩⟩
    have s02 := s01.trans s2
    cases hS : isStoreRow r0 with
    | false =>
      refine iteT ?_
      exact mk1 X_BadText.T ((o0 hS).mono s02)
    | true =>
    obtain ⟨qa, qb⟩ := q hS
    refine iteF ?_
    have hD2 := Same.l s2 hD
    have dU2 := dps_mono s2 dU
    -- shelves = [], wishes = []
    refine ⟨small (by simp), fun ls nls => ?_⟩
    refine ⟨small (by simp), fun lw nlw => ?_⟩
    have nsw : ls ≠ lw := ne_of_none upd_same nlw
    have sg : Same H2 (upd (upd H2 ls (.lst [])) lw (.lst [])) := Same.new (same_new nls) nlw
    have els : (upd (upd H2 ls (.lst [])) lw (.lst [])) ls = some (.lst []) := by
      rw [upd_ne nsw]
      exact upd_same
    have elw : (upd (upd H2 ls (.lst [])) lw (.lst [])) lw = some (.lst []) := upd_same
    have blw : H2 lw = none := (same_new (o := .lst []) nls).free nlw
    generalize upd (upd H2 ls (.lst [])) lw (.lst []) = H3 at sg els elw
    -- for number, words in enumerate(rows[1:], start=1)
    refine ⟨_, rfl, 1, rfl, D1, us, rfl, Same.l sg hD2, fun l3 nl3 => ?_⟩
    rw [cut1 (by omega)]
    have ns3 : ls ≠ l3 := ne_of_none els nl3
    have nw3 : lw ≠ l3 := ne_of_none elw nl3
    have sB : Same (upd H2 l3 (.lst (us.drop 1))) (upd H3 l3 (.lst (us.drop 1))) := Same.grow sg nl3
    have hB3 : SqL K (upd H2 l3 (.lst (us.drop 1))) l3 (us.drop 1) := lst_new
    have bs : (upd H2 l3 (.lst (us.drop 1))) ls = none := by
      rw [upd_ne ns3]
      exact nls
    have bw : (upd H2 l3 (.lst (us.drop 1))) lw = none := by
      rw [upd_ne nw3]
      exact blw
    have sHB : Same H2 (upd H2 l3 (.lst (us.drop 1))) := same_new (sg.free nl3)
    have e4s : (upd H3 l3 (.lst (us.drop 1))) ls = some (.lst []) := by
      rw [upd_ne ns3]
      exact els
    have e4w : (upd H3 l3 (.lst (us.drop 1))) lw = some (.lst []) := by
      rw [upd_ne nw3]
      exact elw
    generalize upd H3 l3 (.lst (us.drop 1)) = H4 at sB e4s e4w
    generalize upd H2 l3 (.lst (us.drop 1)) = B at sB hB3 bs bw sHB
    have dUB := dps_mono sHB dU2
    have ld : (us.drop 1).length = rs.length := by
      rw [List.length_drop, lu]
      omega
    refine ⟨l3, us.drop 1, 1, rfl, rfl, by decide, by decide, Same.l sB hB3, for_enumS (K := K) (a := l3) (c := 1) (xs := us.drop 1) (fun i σ H' => ∃ (xs ys : List V) (ss : List Shelf) (ws : List Wish) (v4 v5 : Option V), Same B H' ∧ H' ls = some (.lst xs) ∧ H' lw = some (.lst ys) ∧ DpAll K H' xs (dshelves ss) ∧ DpAll K H' ys (dwishes ws) ∧ ss.length ≤ i ∧ ws.length ≤ i ∧ scan 1 rs [] [] = scan (1 + i) (rs.drop i) ss ws ∧ σ = [some (.str t), some (.ref D1), some (.ref ls), some (.ref lw), v4, v5, none])
      ⟨[], [], [], [], none, none, sB, e4s, e4w, .nil, .nil, Nat.le_refl _, Nat.le_refl _, rfl, rfl⟩ (fun i σ H' _ ⟨_, _, _, _, _, _, h, _⟩ => Same.l h hB3) ?_ ?_⟩
    · rintro i y σ H' pt hy ⟨xs, ys, ss, ws, v4, v5, s5, es, ew, ds, dw, ls1, ls2, esc, rfl⟩ npt
      have hi : i < rs.length := by
        rw [← ld]
        exact (List.getElem?_eq_some_iff.mp hy).1
      have hri := List.getElem?_eq_getElem hi
      have hmem := List.getElem_mem hi
      generalize rs[i] = rw at hri hmem
      obtain ⟨ar, har, hrw⟩ := words_get dUB (i := i + 1) (ws := rw) (by rw [List.getElem?_cons_succ]; exact hri)
      rw [List.getElem?_drop, Nat.add_comm 1 i, har] at hy
      cases hy
      have hww := tk.ws rw (List.mem_cons_of_mem _ hmem)
      rw [scan_step hri] at esc
      have s6 := Same.new (o := .tup [.int (1 + ((i : Nat) : Int)), .ref ar]) s5 npt
      have es6 : (upd H' pt (.tup [.int (1 + ((i : Nat) : Int)), .ref ar])) ls = some (.lst xs) := same_new npt _ _ es
      have ew6 : (upd H' pt (.tup [.int (1 + ((i : Nat) : Int)), .ref ar])) lw = some (.lst ys) := same_new npt _ _ ew
      have ds6 := dps_mono (same_new (o := .tup [.int (1 + ((i : Nat) : Int)), .ref ar]) npt) ds
      have dw6 := dps_mono (same_new (o := .tup [.int (1 + ((i : Nat) : Int)), .ref ar]) npt) dw
      refine ⟨pt, _, rfl, tup_new, rfl, _, _, rfl, _, _, rfl, rfl, ?_⟩
      generalize upd H' pt (.tup [.int (1 + ((i : Nat) : Int)), .ref ar]) = H6 at s6 es6 ew6 ds6 dw6
      refine ⟨_, rfl, ar, rw, rfl, Same.l s6 hrw, hww.1, fun H7 s7 => ⟨_, rfl, ?_⟩⟩
      have lw' : ys.length = ws.length := (dps_len dw).trans (List.length_map ..)
      have lx' : xs.length = ss.length := (dps_len ds).trans (List.length_map ..)
      have es7 := s7 _ _ es6
      have ew7 := s7 _ _ ew6
      have s67 := s6.trans s7
      have ds7 := dps_mono s7 ds6
      have dw7 := dps_mono s7 dw6
      by_cases hc : isShelfRow rw = true ∧ ws = []
      · rw [if_pos hc] at esc
        rw [hc.1]
        refine iteT ⟨_, rfl, lw, ys, rfl, .inl (SqL.of ew7), rfl, _, rfl, itD (by rw [lw', hc.2]; rfl) ?_⟩
        refine ⟨_, rfl, .inl ⟨rfl, _, SqL.of es7⟩, _, rfl, ar, rw, rfl, Same.l s67 hrw, hc.1, fun v H8 s8 d8 => ?_⟩
        have es8 := s8 _ _ es7
        have ew8 := s8 _ _ ew7
        have eS : dshelves (ss ++ [shelfOf rw]) = dshelves ss ++ [(shelfOf rw).d] := List.map_append ..
        refine ⟨ls, xs, v, rfl, rfl, es8, small1000' (by omega), xs ++ [v], ys, ss ++ [shelfOf rw], ws, _, _, Same.putL (s67.trans s8) bs, upd_same, by rw [upd_ne (Ne.symm nsw)]; exact ew8, ?_, dps_put es8 (dps_mono s8 dw7) (noL_wishes _), by rw [List.length_append]; exact Nat.succ_le_succ ls1, by omega, esc, rfl⟩
        rw [eS]
        exact dps_put es8 (dps_app (dps_mono s8 ds7) (.cons d8 .nil)) (by rw [← eS]; exact noL_shelves _)
      rw [if_neg hc] at esc
      cases hb : isShelfRow rw
      case' false => refine iteF ?_
      case' true => refine iteT ⟨_, rfl, lw, ys, rfl, .inl (SqL.of ew7), rfl, _, rfl, itF (fun z => hc ⟨hb, List.length_eq_zero_iff.mp (by have := V.int.inj z; omega)⟩) ?_⟩
      all_goals
        refine ⟨_, rfl, ar, rw, rfl, Same.l s67 hrw, hww.1, hww.2, fun H8 s8 => ⟨_, rfl, ?_⟩⟩
        have s68 := s67.trans s8
        have es8 := s8 _ _ es7
        have ew8 := s8 _ _ ew7
        cases hb2 : isWishRow rw with
        | true =>
          rw [hb2, if_pos rfl] at esc
          refine iteT ⟨_, rfl, .inl ⟨rfl, _, SqL.of ew8⟩, _, rfl, ar, rw, rfl, Same.l s68 hrw, hb2, hww.2, fun v H9 s9 d9 => ?_⟩
          have es9 := s9 _ _ es8
          have ew9 := s9 _ _ ew8
          have eW : dwishes (ws ++ [wishOf rw]) = dwishes ws ++ [(wishOf rw).d] := List.map_append ..
          refine ⟨lw, ys, v, rfl, rfl, ew9, small1000' (by omega), xs, ys ++ [v], ss, ws ++ [wishOf rw], _, _, Same.putL (s68.trans s9) bw, by rw [upd_ne nsw]; exact es9, upd_same, dps_put ew9 (dps_mono (s8.trans s9) ds7) (noL_shelves _), ?_, by omega, by rw [List.length_append]; exact Nat.succ_le_succ ls2, esc, rfl⟩
          rw [eW]
          exact dps_put ew9 (dps_app (dps_mono (s8.trans s9) dw7) (.cons d9 .nil)) (by rw [← eW]; exact noL_wishes _)
        | false =>
          rw [hb2, if_neg Bool.false_ne_true] at esc
          have oo := qa (1 + i) esc
          rw [show (((1 + i : Nat) : Nat) : Int) = 1 + ((i : Nat) : Int) by omega] at oo
          refine iteF ⟨_, rfl, ?_⟩
          exact mk1 X_BadText.T (oo.mono ((s02.trans sHB).trans s68))
    · rintro σ H5 ⟨xs, ys, ss, ws, v4, v5, s5, es, ew, ds, dw, l1, l2, esc, rfl⟩
      rw [ld, List.drop_length] at esc
      obtain ⟨b, rfl, hb⟩ := storeRow_form hS
      obtain ⟨r, bad, qn, qx⟩ := qb ss ws esc
      obtain ⟨b1, b2⟩ := figV_of hb
      have lw' : ys.length = ws.length := (dps_len dw).trans (List.length_map ..)
      have s25 := (s2.trans sHB).trans s5
      refine ⟨_, rfl, _, rfl, D1, us, 0, .ref a0, rfl, rfl, Same.l s25 hD, at_of (j := 0) rfl ha0, a0, _, 1, .str b, rfl, rfl, Same.l s25 hr0, rfl, b, _, rfl, b1, b2, _, rfl, fun p dx np ndx nex => ?_⟩
      have sH5 := (s02.trans sHB).trans s5
      have s6 := (same_new (o := .own p) ndx).trans (Same.new (p := p) (o := .ins C dx []) (Same.refl _) (by rw [upd_ne (fun z => nex z.symm)]; exact np))
      rw [← lw'] at bad
      exact ⟨p, dx, ls, lw, figV b, xs, ys, ss, ws, r, H5, rfl, upd_same, s6, np, SqL.of es, ds, SqL.of ew, fun _ => dw, bad, fun er H' _ _ _ _ _ s7 ob _ _ => ⟨rfl, qn er p H' (sH5.trans s7) (sH5.free np) ⟨_, _, _, _, _, ob⟩⟩, fun x n er => (qx x n er).mono sH5⟩
end

/-- all own errors, by their classes; what isinstance and except say of BadStore's -/
structure Kin (K : PySem.W.Frag) (mg : Str → Option Value) (cA cB cS cT cR : Addr) : Prop where
  A : Xn K mg "AisleError" cA
  B : Xn K mg "BadStore" cB
  S : Xn K mg "BadStep" cS
  T : Xn K mg "BadText" cT
  R : Xn K mg "Barred" cR
theorem boot_VE : bootBuiltins "ValueError" = some (.type "ValueError") := by decide +kernel

/-! ### _law_refused: what is told of the error -/
structure KinB (K : PySem.W.Frag) (cA cB cS cT cR : Addr) : Prop where
  sA : PySem.W.subIn K (.ref cB) (.ref cA) = some true
  sB : PySem.W.subIn K (.ref cB) (.ref cB) = some true
  sS : PySem.W.subIn K (.ref cB) (.ref cS) = some false
  sT : PySem.W.subIn K (.ref cB) (.ref cT) = some false
  sR : PySem.W.subIn K (.ref cB) (.ref cR) = some false
  sV : PySem.W.subIn K (.ref cB) (.type "ValueError") = some true
structure KinT (K : PySem.W.Frag) (cA cB cS cT cR : Addr) : Prop where
  sA : PySem.W.subIn K (.ref cT) (.ref cA) = some true
  sB : PySem.W.subIn K (.ref cT) (.ref cB) = some false
  sS : PySem.W.subIn K (.ref cT) (.ref cS) = some false
  sT : PySem.W.subIn K (.ref cT) (.ref cT) = some true
  sR : PySem.W.subIn K (.ref cT) (.ref cR) = some false
  sV : PySem.W.subIn K (.ref cT) (.type "ValueError") = some true
theorem look1 {x y : V} {f g : Str} : [(f, x), (g, y)].lookup f = some x := by
  rw [lookup_put, if_pos rfl]
theorem look2 {x y : V} : [(("number" : Str), x), (("word" : Str), y)].lookup ("word" : Str) = some y := by
  rw [lookup_put, if_neg (by decide +kernel), lookup_put, if_pos rfl]
theorem look0 {x : V} {f : Str} : [(f, x)].lookup f = some x := by
  rw [lookup_put, if_pos rfl]
def ts10 (K : PySem.W.Frag) (cB cS cT cR : Addr) (a : Addr) (cls : Value) (d : Option Addr) : TS :=
  tSeq (tIfS (tOr (tB (tCB (rIsXT K a cls d) (tCons (tVar 1) (tCons (tTup (tCons (tC (.ref cS)) (tCons (tC (.ref cR)) tNil))) tNil)))) (tNot (tB (tCB (rIsX K a cls d) (tCons (tVar 1) (tCons (tC (.ty "ValueError")) tNil)))))) (tRet (tC .non)) tNext)
    (tSeq (tIfS (tB (tCB (rIsX K a cls d) (tCons (tVar 1) (tCons (tC (.ref cT)) tNil)))) (tRet (tIf (tB (tCB (rIsX K a cls d) (tCons (tVar 1) (tCons (tC (.ref cB)) tNil)))) (tC .non) (tXf a cls d cT "row" (tVar 1)))) tNext)
      (tRet (tTup (tCons (tXf a cls d cB "word" (tVar 1)) (tCons (tXf a cls d cB "number" (tVar 1)) tNil)))))
inductive Outc : List Str → List (List Str) → PyData → Prop
  | head {r0 : List Str} {rs : List (List Str)} (h : isStoreRow r0 = false) : Outc r0 rs (.int 0)
  | row {r0 : List Str} {rs : List (List Str)} {k : Nat} (h : isStoreRow r0 = true) (e : scan 1 rs [] [] = .inl k) : Outc r0 rs (.int k)
  | store {r0 : List Str} {rs : List (List Str)} {ss : List Shelf} {ws : List Wish} {x : Str} {n : Int} (h : isStoreRow r0 = true) (e : scan 1 rs [] [] = .inr (ss, ws)) (b : Bad ss (figV (r0.getD 1 "")) ws ws.length (some (x, n))) : Outc r0 rs (.tuple [.str x, .int n])
structure RowsOk (l : List Str) (r0 : List Str) (rs : List (List Str)) : Prop where
  e : l.map (fun r => Txt.split r " ") = r0 :: rs
  row : ∀ r ∈ l, 10 ∉ TL.tl r ∧ r.length ≤ 200
  many : l.length ≤ 100
theorem spl_small {s : Nat} {S : List Nat} : ∀ (n : Nat) (l acc : List Nat), l.length ≤ n → ∀ p ∈ TL.spl (s :: S) 0 acc l, p.length ≤ acc.length + l.length
  | _, [], acc, _, p, hp => by
    rw [TL.spl_nil, List.mem_singleton] at hp
    rw [hp]
    exact Nat.le_add_right _ _
  | 0, c :: r, acc, h, p, hp => absurd h (by simp)
  | n + 1, c :: r, acc, h, p, hp => by
    rw [List.length_cons] at h ⊢
    cases e : TL.pre (s :: S) (c :: r) with
    | true =>
      rw [TL.spl_hit e, TL.spl_pass] at hp
      rcases List.mem_cons.mp hp with rfl | hp
      · omega
      · have h1 := spl_small n (r.drop ((s :: S).length - 1)) [] (by rw [List.length_drop]; omega) p hp
        rw [List.length_drop] at h1
        have h2 : ([] : List Nat).length = 0 := rfl
        omega
    | false =>
      rw [TL.spl_miss e] at hp
      have h1 := spl_small n r (acc ++ [c]) (by omega) p hp
      rw [List.length_append, List.length_singleton] at h1
      omega
theorem split_small {r : Str} {n : Nat} (h : r.length ≤ n) : (Txt.split r " ").length ≤ n + 2 ∧ ∀ x ∈ Txt.split r " ", x.length ≤ n + 2 := by
  refine ⟨Nat.le_trans (PyProof.Rows.split_le r " ") (by omega), fun x hx => ?_⟩
  have e := TL.split_spl r " " (by rw [tl_blank]; simp) (TL.kind_ok (by decide +kernel))
  have hm : TL.tl x ∈ (Txt.split r " ").map TL.tl := List.mem_map_of_mem hx
  rw [e, tl_blank] at hm
  have h1 := spl_small _ _ _ (Nat.le_refl _) _ hm
  rw [← TL.len_tl, ← TL.len_tl] at h1
  have h2 : ([] : List Nat).length = 0 := rfl
  omega
theorem RowsOk.text {l : List Str} {r0 : List Str} {rs : List (List Str)} (h : RowsOk l r0 rs) : TextOk (Txt.join "\n" l) r0 rs := by
  have hne : l ≠ [] := fun z => by
    have e := h.e
    rw [z] at e
    cases e
  have es : Txt.split (Txt.join "\n" l) "\n" = l := TL.split_join (s := 10) (S := []) tl_line (by decide +kernel) hne fun p hp => (h.row p hp).1
  have hl : l.length = rs.length + 1 := by
    have := congrArg List.length h.e
    rw [List.length_map, List.length_cons] at this
    exact this
  have hm := h.many
  refine ⟨by rw [es]; exact h.e, ?_, fun r hr => ?_, by omega, fun ws hw => ?_⟩
  · rw [TL.len_tl, TL.join_eq, TL.tl_join, tl_line]
    refine Nat.le_trans (joinL_len (n := 200) (m := 1) (Nat.le_refl _) fun p hp => ?_) ?_
    · obtain ⟨x, hx, rfl⟩ := List.mem_map.mp hp
      rw [← TL.len_tl]
      exact (h.row x hx).2
    · rw [List.length_map]
      omega
  · rw [es] at hr
    exact Nat.le_trans (h.row r hr).2 (by decide)
  · rw [← h.e] at hw
    obtain ⟨r, hr, rfl⟩ := List.mem_map.mp hw
    obtain ⟨h1, h2⟩ := split_small (h.row r hr).2
    exact ⟨by omega, fun x hx => by have := h2 x hx; omega⟩
section
variable {P : Program} {w : World} {K : PySem.W.Frag} {mg : Str → Option Value} {base : Heap}
def spRefused10 (K : PySem.W.Frag) : Sp := fun vs H Q _ => ∃ (a : Addr) (l : List Str) (r0 : List Str) (rs : List (List Str)) (d : PyData), vs = [.ref a] ∧ SqL K H a (l.map V.str) ∧ RowsOk l r0 rs ∧ Outc r0 rs d ∧ Ret K H Q d
/-! _law_refused: 0 _law_rows, 1 e -/
abbrev s__law_refused : Stmt := topS 33
abbrev N__law_refused : List Str := ["_law_rows", "e"]
theorem sc__law_refused : FnScope N__law_refused ["_law_rows"] (defScope s__law_refused) := ⟨rfl, rfl, rfl, by decide +kernel, rfl, by decide +kernel, by decide +kernel⟩
theorem ok__law_refused {f f1 fB fT C cA cB cS cT cR : Addr} {fd fd1 fdB fdT : FuncData} (D : Dfs K mg "_law_refused" s__law_refused ["_law_rows"] f fd) (T : Tx K mg) (Kn : Kin K mg cA cB cS cT cR) (KB : KinB K cA cB cS cT cR) (KT : KinT K cA cB cS cT cR) (X_BadStore : Xi2 P w K mg base cB fB fdB "word" "number" (spX2 K cB "word" "number"))
    (X_BadText : Xi1 P w K mg base cT fT fdT "row" (spX1 K cT "row")) (C_read : CalX P w K mg base 6 "read" ["text"] (spRead K C cB cT) f1 fd1) : Cal P w K mg base 7 "_law_refused" ["_law_rows"] (spRefused10 K) f fd := by
  have BD := X_BadStore.D
  have TD := X_BadText.D
  refine D.cal (D.F.ok sc__law_refused (fun vs H Q E h => ?_) (fun cdv A outer s H vs Q E hr h => ?_))
  · obtain ⟨a, l, r0, rs, d, rfl, _⟩ := h
    rfl
  · obtain ⟨a, l, r0, rs, d, rfl, hl, ro, oc, q⟩ := h
    refine ⟨_, pss_cons (ps_try_as (i := 1) (tb := fun W => tDrop (tCallS (spRead K C cB cT) (WE W) (tCons (tM1 (rJoinK K) (tC (.str "\n")) (tVar 0)) tNil))) (ts := ts10 K cB cS cT cR) (Wout := fun _ _ _ _ => False) rfl rfl sc__law_refused.nd rfl rfl ⟨rfl, by decide, Or.inl Kn.A.g⟩ takes0
        (fun W pn xe tk _ => pss_one (ps_expr (by exact (pe_callS C_read.G (hr.mono (by decide)) rfl C_read.g C_read.kp C_read.b (fun σ => passAt tk σ) (by exact (pa_cons (kpe_join (K := K) pe_str (pv 0)) pa_nil))))))
        (fun a oe cls d pn hz hf => pss_cons (ps_if (by exact (PW.pt (pw_or (pt_val (pe_callB (call_isXT hz hf) (by rfl) T.n_isinstance (by decide +kernel) (pa_cons (pv 1) (pa_cons (pe_tup (pa_cons (pe_glob (v := .ref cS) (by rfl) Kn.S.g rfl) (pa_cons (pe_glob (v := .ref cR) (by rfl) Kn.R.g rfl) pa_nil))) pa_nil))))
              (pw_or1 (pt_not (pt_val (pe_callB (call_isX hz hf) (by rfl) T.n_isinstance (by decide +kernel) (pa_cons (pv 1) (pa_cons (pe_bltn (v := .ty "ValueError") (by rfl) T.n_ValueError boot_VE rfl) pa_nil))))))))) (pss_one (ps_ret pe_non)) pss_nil)
          (pss_cons (ps_if (by exact (pt_val (pe_callB (call_isX hz hf) (by rfl) T.n_isinstance (by decide +kernel) (pa_cons (pv 1) (pa_cons (pe_glob (v := .ref cT) (by rfl) Kn.T.g rfl) pa_nil)))))
              (pss_one (ps_ret (by exact (pe_ifExp (pt_val (pe_callB (call_isX hz hf) (by rfl) T.n_isinstance (by decide +kernel) (pa_cons (pv 1) (pa_cons (pe_glob (v := .ref cB) (by rfl) Kn.B.g rfl) pa_nil)))) pe_non (pe_xf TD.xf X_BadText.n1 hz hf (pv 1)))))) pss_nil)
          (pss_one (ps_ret (by exact (pe_tup (pa_cons (pe_xf BD.xf X_BadStore.n1 hz hf (pv 1)) (pa_cons (pe_xf BD.xf X_BadStore.n2 hz hf (pv 1)) pa_nil)))))))))
      (pss_one (ps_ret pe_non)), ?_⟩
    have jn := join_small (ys := l) (a := "\n") (fun y hy => Nat.le_trans (ro.row y hy).2 (by decide)) (Nat.le_trans ro.many (by decide)) (by decide +kernel)
    have kSB := kit_own Kn.S.isC Kn.S.tyC KB.sS KB.sB
    have kRB := kit_own Kn.R.isC Kn.R.tyC KB.sR KB.sB
    have kST := kit_own Kn.S.isC Kn.S.tyC KT.sS KT.sT
    have kRT := kit_own Kn.R.isC Kn.R.tyC KT.sR KT.sT
    have kAB : PySem.W.kitAny K (.ref cB) [.ref cS, .ref cR] = some false := by
      unfold PySem.W.kitAny
      rw [kSB]
      unfold PySem.W.kitAny
      rw [kRB]
      rfl
    have kAT : PySem.W.kitAny K (.ref cT) [.ref cS, .ref cR] = some false := by
      unfold PySem.W.kitAny
      rw [kST]
      unfold PySem.W.kitAny
      rw [kRT]
      rfl
    have q0 : isStoreRow r0 = false → Ret K H Q (.int 0) := fun h => by
      cases oc with
      | head _ => exact q
      | row h' _ => exact nomatch h.symm.trans h'
      | store h' _ _ => exact nomatch h.symm.trans h'
    have qk : ∀ k : Nat, isStoreRow r0 = true → scan 1 rs [] [] = .inl k → Ret K H Q (.int k) := fun k h e => by
      cases oc with
      | head h' => exact nomatch h'.symm.trans h
      | row _ e' => cases e.symm.trans e'; exact q
      | store _ e' _ => exact nomatch e.symm.trans e'
    have qs : ∀ ss ws, isStoreRow r0 = true → scan 1 rs [] [] = .inr (ss, ws) → ∃ x n, Bad ss (figV (r0.getD 1 "")) ws ws.length (some (x, n)) ∧ Ret K H Q (.tuple [.str x, .int n]) := fun ss ws h e => by
      cases oc with
      | head h' => exact nomatch h'.symm.trans h
      | row _ e' => exact nomatch e.symm.trans e'
      | store _ e' b => cases e.symm.trans e'; exact ⟨_, _, b, q⟩
    refine ⟨⟨_, rfl⟩, _, rfl, "\n", a, l, rfl, rfl, .inl hl, jn, _, r0, rs, rfl, ro.text, ?ta, fun hS => ⟨?tb, fun ss ws e => ?ts⟩⟩
    case' ta =>
      intro h dd H' s2 nd e1
      have q1 := q0 h
    case' tb =>
      intro k e dd H' s2 nd e1
      have q1 := qk k hS e
    case ts =>
      obtain ⟨x, n, bad, q1⟩ := qs ss ws hS e
      refine ⟨some (x, n), bad, (fun z => nomatch z), fun x' n' z => ?_⟩
      cases z
      intro dd H' s2 nd e1
      refine ⟨true, exm_own Kn.A.exC Kn.A.isC Kn.A.tyC KB.sA, fun _ e ne => ?_, fun z => by cases z⟩
      refine ⟨_, rfl, small (by simp), fun tp ntp => ?_⟩
      have s3 := same_new (o := .tup [.ref cS, .ref cR]) ntp
      have e3 := s3 _ _ e1
      refine ⟨tp, _, _, cB, false, rfl, upd_same, .cons (.own _) (.cons (.own _) .nil), rfl, BD, .inr ⟨dd, _, rfl, e3⟩, kAB, _, rfl, iteF ?_⟩
      refine ⟨_, rfl, _, _, cB, true, rfl, .ty _, rfl, BD, .inr ⟨dd, _, rfl, e3⟩, kit_typ KB.sV, _, rfl, iteF ?_⟩
      refine ⟨_, rfl, _, _, cB, false, rfl, .own _, rfl, BD, .inr ⟨dd, _, rfl, e3⟩, kit_own Kn.T.isC Kn.T.tyC KB.sT KB.sB, _, rfl, iteF ?_⟩
      refine ⟨_, rfl, rfl, rfl, dd, _, .str x, rfl, e3, look2, ?_⟩
      refine ⟨_, rfl, rfl, rfl, dd, _, .int n, rfl, e3, look1, small (by simp), fun p np => ?_⟩
      exact q1 _ _ ((s2.trans s3).trans (same_new np)) (.tup tup_new (.cons (.str _) (.cons (.int _) .nil)))
    all_goals
      refine ⟨true, exm_own Kn.A.exC Kn.A.isC Kn.A.tyC KT.sA, fun _ e ne => ?_, fun z => by cases z⟩
      refine ⟨_, rfl, small (by simp), fun tp ntp => ?_⟩
      have s3 := same_new (o := .tup [.ref cS, .ref cR]) ntp
      have e3 := s3 _ _ e1
      refine ⟨tp, _, _, cT, false, rfl, upd_same, .cons (.own _) (.cons (.own _) .nil), rfl, TD, .inr ⟨dd, _, rfl, e3⟩, kAT, _, rfl, iteF ?_⟩
      refine ⟨_, rfl, _, _, cT, true, rfl, .ty _, rfl, TD, .inr ⟨dd, _, rfl, e3⟩, kit_typ KT.sV, _, rfl, iteF ?_⟩
      refine ⟨_, rfl, _, _, cT, true, rfl, .own _, rfl, TD, .inr ⟨dd, _, rfl, e3⟩, kit_own Kn.T.isC Kn.T.tyC KT.sT KT.sT, _, rfl, iteT ?_⟩
      refine ⟨_, rfl, _, _, cT, false, rfl, .own _, rfl, TD, .inr ⟨dd, _, rfl, e3⟩, kit_own Kn.B.isC Kn.B.tyC KT.sB KT.sT, _, rfl, iteF ?_⟩
      refine ⟨_, rfl, rfl, rfl, dd, _, _, rfl, e3, look0, ?_⟩
      exact q1 _ _ (s2.trans s3) (.int _)
end

/-! ## what is written is read to the same store -/
theorem fg_figs {i : Int} (h : 0 ≤ i ∧ i ≤ 9) : fg i ∈ figs := mem_figs.mpr ⟨i, h.1, h.2, rfl⟩
theorem figsB_of {l : List Str} (h : ∀ x ∈ l, x ∈ figs) : figsB l = true := List.all_eq_true.mpr fun x hx => decide_eq_true (h x hx)
theorem afterT_ne {l : List Int} (h : ∀ i ∈ l, 0 ≤ i ∧ i ≤ 9) (hne : l ≠ []) : afterT l ≠ "-" := by
  intro z
  have e := congrArg TL.tl z
  unfold afterT at e
  rw [if_neg hne, TL.join_eq, TL.tl_join, tl_comma, tl_dash] at e
  have hm : 45 ∈ TL.joinL [44] ((l.map fg).map TL.tl) := by
    rw [e]
    exact List.mem_singleton.mpr rfl
  rcases mem_joinL hm with hc | ⟨p, hp, hc⟩
  · rw [List.mem_singleton] at hc
    omega
  · obtain ⟨x, hx, rfl⟩ := List.mem_map.mp hp
    obtain ⟨i, hi, rfl⟩ := List.mem_map.mp hx
    obtain ⟨h0, h9⟩ := h i hi
    rw [tl_fg h0 h9, List.mem_singleton] at hc
    omega
theorem after_split {l : List Int} (h : ∀ i ∈ l, 0 ≤ i ∧ i ≤ 9) (hne : l ≠ []) : Txt.split (afterT l) "," = l.map fg := by
  unfold afterT
  rw [if_neg hne]
  refine TL.split_join (s := 44) (S := []) tl_comma (by decide +kernel) (fun e => hne (List.map_eq_nil_iff.mp e)) fun p hp => ?_
  obtain ⟨i, hi, rfl⟩ := List.mem_map.mp hp
  obtain ⟨h0, h9⟩ := h i hi
  rw [tl_fg h0 h9, List.mem_singleton]
  omega
theorem after_back {l : List Int} (h : ∀ i ∈ l, 0 ≤ i ∧ i ≤ 9) : afterOf (afterT l) = l ∧ (decide (afterT l = "-") || figsB (Txt.split (afterT l) ",")) = true := by
  by_cases e : l = []
  · subst e
    exact ⟨rfl, rfl⟩
  · constructor
    · unfold afterOf
      rw [if_neg (afterT_ne h e), after_split h e, List.map_map]
      refine (List.map_congr_left fun i hi => ?_).trans (List.map_id _)
      exact figV_fg (h i hi).1 (h i hi).2
    · rw [after_split h e, figsB_of (fun x hx => by obtain ⟨i, hi, rfl⟩ := List.mem_map.mp hx; exact fg_figs (h i hi)), Bool.or_true]
theorem store_back {a : Int} (h : 0 ≤ a ∧ a ≤ 9) : isStoreRow (rowStore a) = true ∧ figV ((rowStore a).getD 1 "") = a := by
  refine ⟨?_, figV_fg h.1 h.2⟩
  show (decide (("store" : Str) = "store") && figsB [fg a]) = true
  rw [decide_eq_true rfl, figsB_of (fun x hx => by rw [List.mem_singleton.mp hx]; exact fg_figs h)]
  rfl
theorem shelf_back {s : Shelf} (h : ShelfNums s) : isShelfRow (rowShelf s) = true ∧ shelfOf (rowShelf s) = s := by
  constructor
  · show (decide (("shelf" : Str) = "shelf") && figsB [fg s.room, fg s.has, fg s.sticks]) = true
    rw [decide_eq_true rfl, figsB_of]
    · rfl
    · intro x hx
      simp only [List.mem_cons, List.not_mem_nil, or_false] at hx
      rcases hx with rfl | rfl | rfl
      · exact fg_figs h.room
      · exact fg_figs h.has
      · exact fg_figs h.sticks
  · show (⟨figV (fg s.room), figV (fg s.has), figV (fg s.sticks)⟩ : Shelf) = s
    rw [figV_fg h.room.1 h.room.2, figV_fg h.has.1 h.has.2, figV_fg h.sticks.1 h.sticks.2]
theorem wish_back {n m : Int} {x : Wish} (h : WishOk n m x) (g : WishNums x) : isShelfRow (rowWish x) = false ∧ isWishRow (rowWish x) = true ∧ wishOf (rowWish x) = x := by
  obtain ⟨a1, a2⟩ := after_back g.after
  refine ⟨rfl, ?_, ?_⟩
  · show (decide (x.kind = "fetch" ∨ x.kind = "bring") && (decide (x.side = "left" ∨ x.side = "right" ∨ x.side = "any") && (figsB [fg x.shelf, fg x.crew, fg x.keep] && (decide (afterT x.after = "-") || figsB (Txt.split (afterT x.after) ","))))) = true
    rw [decide_eq_true h.kind, decide_eq_true h.side, a2, figsB_of]
    · rfl
    · intro y hy
      simp only [List.mem_cons, List.not_mem_nil, or_false] at hy
      rcases hy with rfl | rfl | rfl
      · exact fg_figs g.shelf
      · exact fg_figs g.crew
      · exact fg_figs g.keep
  · show (⟨x.kind, figV (fg x.shelf), x.side, figV (fg x.crew), figV (fg x.keep), afterOf (afterT x.after)⟩ : Wish) = x
    rw [figV_fg g.shelf.1 g.shelf.2, figV_fg g.crew.1 g.crew.2, figV_fg g.keep.1 g.keep.2, a1]
theorem scan_wishes {ss : List Shelf} : ∀ {l : List Wish} {ws : List Wish} {k : Nat} {rest : List (List Str)}, (∀ x ∈ l, ∃ n m, WishOk n m x ∧ WishNums x) → scan k (l.map rowWish ++ rest) ss ws = scan (k + l.length) rest ss (ws ++ l)
  | [], ws, k, rest, _ => by rw [List.append_nil]; rfl
  | x :: l, ws, k, rest, h => by
    obtain ⟨n, m, h1, h2⟩ := h x List.mem_cons_self
    obtain ⟨b1, b2, b3⟩ := wish_back h1 h2
    show (if isShelfRow (rowWish x) = true ∧ ws = [] then _ else if isWishRow (rowWish x) = true then scan (k + 1) (l.map rowWish ++ rest) ss (ws ++ [wishOf (rowWish x)]) else _) = _
    rw [if_neg (fun z => by rw [b1] at z; exact absurd z.1 Bool.false_ne_true), if_pos b2, b3, scan_wishes (l := l) fun y hy => h y (List.mem_cons_of_mem _ hy), List.append_assoc, List.length_cons]
    rw [show k + 1 + l.length = k + (l.length + 1) by omega]
    rfl
theorem scan_shelves : ∀ {l : List Shelf} {ss : List Shelf} {k : Nat} {rest : List (List Str)}, (∀ x ∈ l, ShelfNums x) → scan k (l.map rowShelf ++ rest) ss [] = scan (k + l.length) rest (ss ++ l) []
  | [], ss, k, rest, _ => by rw [List.append_nil]; rfl
  | x :: l, ss, k, rest, h => by
    obtain ⟨b1, b2⟩ := shelf_back (h x List.mem_cons_self)
    show (if isShelfRow (rowShelf x) = true ∧ ([] : List Wish) = [] then scan (k + 1) (l.map rowShelf ++ rest) (ss ++ [shelfOf (rowShelf x)]) [] else _) = _
    rw [if_pos ⟨b1, rfl⟩, b2, scan_shelves (l := l) fun y hy => h y (List.mem_cons_of_mem _ hy), List.append_assoc, List.length_cons]
    rw [show k + 1 + l.length = k + (l.length + 1) by omega]
    rfl
theorem scan_store {S : Sto} (ok : StoOk S) : scan 1 (S.shelves.map rowShelf ++ S.wishes.map rowWish) [] [] = .inr (S.shelves, S.wishes) := by
  rw [scan_shelves fun x hx => (ok.sh x hx).nums, List.nil_append]
  have e := scan_wishes (l := S.wishes) (ws := []) (k := 1 + S.shelves.length) (rest := []) (ss := S.shelves) fun x hx => ⟨_, _, ok.ws x hx, ok.wnums hx⟩
  rw [List.append_nil] at e
  rw [e]
  rfl
theorem textOk {S : Sto} (ok : StoOk S) : TextOk (textS S) (rowStore S.aisle) (S.shelves.map rowShelf ++ S.wishes.map rowWish) := by
  have e := text_split ok
  have es : Txt.split (textS S) "\n" = (rowsW S).map rowT := TL.split_join (s := 10) (S := []) tl_line (by decide +kernel) (by unfold rowsW; simp) fun p hp => by
    obtain ⟨r, hr, rfl⟩ := List.mem_map.mp hp
    obtain ⟨h1, h2, _⟩ := rows_wd ok r hr
    exact (row_ok h1 h2).1
  refine ⟨e, Nat.le_trans (text_len ok) (by decide), fun r hr => ?_, ?_, fun l hl => ?_⟩
  · rw [es] at hr
    obtain ⟨ws, hw, rfl⟩ := List.mem_map.mp hr
    obtain ⟨h1, h2, _⟩ := rows_wd ok ws hw
    exact Nat.le_trans (row_ok h1 h2).2 (by decide)
  · have := rows_len ok
    unfold rowsW at this
    rw [List.length_cons] at this
    omega
  · obtain ⟨h1, h2, _⟩ := rows_wd ok l hl
    exact ⟨Nat.le_trans h2 (by decide), fun x hx => Nat.le_trans (h1 x hx).2.2 (by decide)⟩

/-! ## texts of none -/
def oddL : List Str := (["", " ", "shelf", "shelf 1 1", "shelf 1 1 0 0", "shelf 1 x 0", "shelf 10 1 0"] : List Str) ++ (["shelf 01 1 0", "shelf 1 -1 0", "shelf  1 0", "shelf 1 1 0 ", " shelf 1 1 0"] : List Str) ++ (["Shelf 1 1 0", "shelf 1 +1 0", "fetch", "fetch 0 any 0 0", "fetch 0 any 0 0 - -"] : List Str) ++
  (["fetch 0 up 0 0 -", "fetch x any 0 0 -", "bring 0 any 10 0 -", "bring 0 any 0 -1 -"] : List Str) ++ (["bring 0 any 0 0 0,", "bring 0 any 0 0 0 1", "bring 0 any 0 0 0;1", "take 0 any 0 0 -"] : List Str) ++ (["store 1", "bring 0 any 0 0 ", "bring 0 Any 0 0 -", "bring 0 any 0 0 --"] : List Str) ++ (["bring 0 any 0 0 11"] : List Str)
def headL : List Str := (["", "store", "store 1 2", "store x", "store 10", "store 01", "Store 1", "store  1", "store 1 "] : List Str) ++ (["shelf 1 1 0"] : List Str)
def sp (r : Str) : List Str := Txt.split r " "
theorem nft {b : Bool} (h : b = false) : ¬ b = true := fun z => by rw [h] at z; cases z
theorem odd_bad : ∀ o ∈ oddL, isShelfRow (sp o) = false ∧ isWishRow (sp o) = false ∧ 10 ∉ TL.tl o ∧ o.length ≤ 200 := by decide +kernel
theorem head_bad : ∀ o ∈ headL, isStoreRow (sp o) = false ∧ 10 ∉ TL.tl o ∧ o.length ≤ 200 := by decide +kernel
def laterL : List Str := ["", "x"]
theorem later_ok : ∀ o ∈ laterL, 10 ∉ TL.tl o ∧ o.length ≤ 200 := by decide +kernel
def rowsT (S : Sto) : List Str := (rowsW S).map rowT
theorem rowsT_text {S : Sto} (ok : StoOk S) : Txt.split (textS S) "\n" = rowsT S := TL.split_join (s := 10) (S := []) tl_line (by decide +kernel) (by unfold rowsW; simp) fun p hp => by
  obtain ⟨r, hr, rfl⟩ := List.mem_map.mp hp
  obtain ⟨h1, h2, _⟩ := rows_wd ok r hr
  exact (row_ok h1 h2).1
theorem rowsT_sp {S : Sto} (ok : StoOk S) : (rowsT S).map sp = rowsW S := by
  have e := text_split ok
  rw [rowsT_text ok] at e
  exact e
theorem rowsT_row {S : Sto} (ok : StoOk S) : ∀ r ∈ rowsT S, 10 ∉ TL.tl r ∧ r.length ≤ 200 := fun r hr => by
  obtain ⟨ws, hw, rfl⟩ := List.mem_map.mp hr
  obtain ⟨h1, h2, _⟩ := rows_wd ok ws hw
  exact ⟨(row_ok h1 h2).1, Nat.le_trans (row_ok h1 h2).2 (by decide)⟩
theorem rowsT_len {S : Sto} (ok : StoOk S) : (rowsT S).length = 1 + S.shelves.length + S.wishes.length ∧ (rowsT S).length ≤ 11 := by
  constructor
  · unfold rowsT rowsW
    rw [List.length_map, List.length_cons, List.length_append, List.length_map, List.length_map]
    omega
  · unfold rowsT
    rw [List.length_map]
    exact rows_len ok
theorem scan_bad {o : List Str} {k : Nat} {X : List (List Str)} {ss : List Shelf} {ws : List Wish} (h1 : isShelfRow o = false) (h2 : isWishRow o = false) : scan k (o :: X) ss ws = .inl k := by
  show (if isShelfRow o = true ∧ ws = [] then _ else if isWishRow o = true then _ else (Sum.inl k : Nat ⊕ (List Shelf × List Wish))) = _
  rw [if_neg (fun z => nft h1 z.1), if_neg (nft h2)]
theorem scan_pre {rest X : List (List Str)} : ∀ {pre : List (List Str)} {k : Nat} {ss : List Shelf} {ws : List Wish} {r : List Shelf × List Wish}, scan k (pre ++ rest) ss ws = .inr r → ∃ ss' ws', scan k (pre ++ X) ss ws = scan (k + pre.length) X ss' ws'
  | [], k, ss, ws, r, _ => ⟨ss, ws, rfl⟩
  | o :: pre, k, ss, ws, r, h => by
    have el : k + (o :: pre).length = k + 1 + pre.length := by
      rw [List.length_cons]
      omega
    rw [el]
    have h' : (if isShelfRow o = true ∧ ws = [] then scan (k + 1) (pre ++ rest) (ss ++ [shelfOf o]) ws else if isWishRow o = true then scan (k + 1) (pre ++ rest) ss (ws ++ [wishOf o]) else .inl k) = .inr r := h
    show ∃ ss' ws', (if isShelfRow o = true ∧ ws = [] then scan (k + 1) (pre ++ X) (ss ++ [shelfOf o]) ws else if isWishRow o = true then scan (k + 1) (pre ++ X) ss (ws ++ [wishOf o]) else .inl k) = _
    by_cases h1 : isShelfRow o = true ∧ ws = []
    · rw [if_pos h1] at h' ⊢
      exact scan_pre h'
    · rw [if_neg h1] at h' ⊢
      by_cases h2 : isWishRow o = true
      · rw [if_pos h2] at h' ⊢
        exact scan_pre h'
      · rw [if_neg h2] at h'
        cases h'
/-- a row that is none, put in behind the first -/
theorem odd_out {S : Sto} (ok : StoOk S) {o : Str} (ho : o ∈ oddL) {n : Nat} (h1 : 1 ≤ n) (h2 : n ≤ (rowsT S).length) {la : List Str} (hla : ∀ x ∈ la, x ∈ laterL) (hll : la.length ≤ 2) :
    ∃ r0 rs, RowsOk ((rowsT S).take n ++ [o] ++ (rowsT S).drop n ++ la) r0 rs ∧ Outc r0 rs (.int (n : Int)) := by
  obtain ⟨o1, o2, o3, o4⟩ := odd_bad o ho
  obtain ⟨m, rfl⟩ : ∃ m, n = m + 1 := ⟨n - 1, by omega⟩
  have e := rowsT_sp ok
  have el := (rowsT_len ok).2
  have n5 := ok.n5
  have a0 := ok.a0
  have a1 := ok.a1
  refine ⟨rowStore S.aisle, (S.shelves.map rowShelf ++ S.wishes.map rowWish).take m ++ (sp o :: ((S.shelves.map rowShelf ++ S.wishes.map rowWish).drop m ++ la.map sp)), ⟨?_, fun r hr => ?_, ?_⟩, ?_⟩
  · show List.map sp _ = _
    rw [List.map_append, List.map_append, List.map_append, List.map_take, List.map_drop, e]
    simp only [rowsW, List.take_succ_cons, List.drop_succ_cons, List.map_cons, List.map_nil, List.cons_append, List.append_assoc, List.nil_append]
  · rcases List.mem_append.mp hr with hr | hr
    · rcases List.mem_append.mp hr with hr | hr
      · rcases List.mem_append.mp hr with hr | hr
        · exact rowsT_row ok r (List.mem_of_mem_take hr)
        · rw [List.mem_singleton.mp hr]
          exact ⟨o3, o4⟩
      · exact rowsT_row ok r (List.mem_of_mem_drop hr)
    · exact later_ok r (hla r hr)
  · rw [List.length_append, List.length_append, List.length_append, List.length_take, List.length_drop, List.length_singleton]
    omega
  · obtain ⟨b1, b2⟩ := store_back (a := S.aisle) ⟨a0, by omega⟩
    have sc := scan_store ok
    rw [← List.take_append_drop m (S.shelves.map rowShelf ++ S.wishes.map rowWish)] at sc
    obtain ⟨ss', ws', es⟩ := scan_pre (X := sp o :: ((S.shelves.map rowShelf ++ S.wishes.map rowWish).drop m ++ la.map sp)) sc
    rw [scan_bad o1 o2, List.length_take] at es
    have hm : 1 + min m (S.shelves.map rowShelf ++ S.wishes.map rowWish).length = m + 1 := by
      have := (rowsT_len ok).1
      rw [List.length_append, List.length_map, List.length_map]
      omega
    rw [hm] at es
    exact .row b1 es
/-- another first row -/
theorem head_out {S : Sto} (ok : StoOk S) {o : Str} (ho : o ∈ headL) {la : List Str} (hla : ∀ x ∈ la, x ∈ laterL) (hll : la.length ≤ 2) :
    ∃ r0 rs, RowsOk ([o] ++ (rowsT S).drop 1 ++ la) r0 rs ∧ Outc r0 rs (.int 0) := by
  obtain ⟨o1, o3, o4⟩ := head_bad o ho
  have el := (rowsT_len ok).2
  refine ⟨sp o, ((rowsT S).drop 1).map sp ++ la.map sp, ⟨?_, fun r hr => ?_, ?_⟩, .head o1⟩
  · show List.map sp _ = _
    rw [List.map_append, List.map_append]
    rfl
  · rcases List.mem_append.mp hr with hr | hr
    · rcases List.mem_append.mp hr with hr | hr
      · rw [List.mem_singleton.mp hr]
        exact ⟨o3, o4⟩
      · exact rowsT_row ok r (List.mem_of_mem_drop hr)
    · exact later_ok r (hla r hr)
  · rw [List.length_append, List.length_append, List.length_drop, List.length_singleton]
    omega
theorem two_bad : isShelfRow (sp "fetch 0 any 0 0 -") = false ∧ isWishRow (sp "fetch 0 any 0 0 -") = true ∧ isWishRow (sp "shelf 1 1 0") = false ∧ ∀ o ∈ [("fetch 0 any 0 0 -" : Str), "shelf 1 1 0"], 10 ∉ TL.tl o ∧ o.length ≤ 200 := by decide +kernel
/-- a shelf behind a wish -/
theorem shelf_out {S : Sto} (ok : StoOk S) {la : List Str} (hla : ∀ x ∈ la, x ∈ laterL) (hll : la.length ≤ 2) :
    ∃ r0 rs, RowsOk (rowsT S ++ [("fetch 0 any 0 0 -" : Str), "shelf 1 1 0"] ++ la) r0 rs ∧ Outc r0 rs (.int (((rowsT S).length : Nat) + 1)) := by
  obtain ⟨t1, t2, t3, t4⟩ := two_bad
  have e := rowsT_sp ok
  obtain ⟨el1, el⟩ := rowsT_len ok
  have n5 := ok.n5
  have a0 := ok.a0
  have a1 := ok.a1
  refine ⟨rowStore S.aisle, (S.shelves.map rowShelf ++ (S.wishes.map rowWish ++ (sp "fetch 0 any 0 0 -" :: sp "shelf 1 1 0" :: la.map sp))), ⟨?_, fun r hr => ?_, ?_⟩, ?_⟩
  · show List.map sp _ = _
    rw [List.map_append, List.map_append, e]
    simp only [rowsW, List.map_cons, List.map_nil, List.cons_append, List.append_assoc, List.nil_append]
  · rcases List.mem_append.mp hr with hr | hr
    · rcases List.mem_append.mp hr with hr | hr
      · exact rowsT_row ok r hr
      · exact t4 r hr
    · exact later_ok r (hla r hr)
  · rw [List.length_append, List.length_append]
    show _ + 2 + _ ≤ 100
    omega
  · obtain ⟨b1, b2⟩ := store_back (a := S.aisle) ⟨a0, by omega⟩
    have e1 : scan 1 (S.shelves.map rowShelf ++ (S.wishes.map rowWish ++ (sp "fetch 0 any 0 0 -" :: sp "shelf 1 1 0" :: la.map sp))) [] [] = .inl ((rowsT S).length + 1) := by
      rw [scan_shelves fun x hx => (ok.sh x hx).nums, scan_wishes fun x hx => ⟨_, _, ok.ws x hx, ok.wnums hx⟩]
      generalize hk : 1 + S.shelves.length + S.wishes.length = k
      rw [el1, hk]
      show (if isShelfRow (sp "fetch 0 any 0 0 -") = true ∧ _ then _ else if isWishRow (sp "fetch 0 any 0 0 -") = true then scan (k + 1) (sp "shelf 1 1 0" :: la.map sp) _ _ else _) = _
      rw [if_neg (fun z => nft t1 z.1), if_pos t2]
      show (if isShelfRow (sp "shelf 1 1 0") = true ∧ _ then _ else if isWishRow (sp "shelf 1 1 0") = true then _ else (Sum.inl (k + 1) : Nat ⊕ (List Shelf × List Wish))) = _
      rw [if_neg (fun z => by have z2 := z.2; simp at z2), if_neg (nft t3)]
    exact .row b1 e1

/-! ## rows of no store -/
theorem shelf110 : ShelfOk ⟨1, 1, 0⟩ := ⟨by decide, by decide, by decide, .inl rfl⟩
theorem only_shelf : ∀ x ∈ ([⟨1, 1, 0⟩] : List Shelf), ShelfOk x := fun x hx => by
  rw [List.mem_singleton.mp hx]
  exact shelf110
theorem first_shelf {l : List Shelf} : ∀ j x, j < 1 → (⟨1, 1, 0⟩ :: l)[j]? = some x → ShelfOk x := fun j x hj e => by
  have hj0 : j = 0 := by omega
  subst hj0
  cases e
  exact shelf110
theorem first_wish {l : List Wish} : ∀ j y, j < 1 → (⟨"bring", 0, "any", 0, 0, []⟩ :: l)[j]? = some y → WishOk (([⟨1, 1, 0⟩] : List Shelf).length) 2 y := fun j x hj e => by
  have hj0 : j = 0 := by omega
  subst hj0
  cases e
  exact ⟨.inr rfl, by decide, by decide, .inr (.inr rfl), .inl rfl, by decide, by decide, trivial⟩
def text0 : List Str := [("store 0" : Str)]
def text1 : List Str := [("store 0" : Str), ("shelf 1 1 0" : Str), ("shelf 1 1 0" : Str), ("shelf 1 1 0" : Str), ("shelf 1 1 0" : Str), ("shelf 1 1 0" : Str), ("shelf 1 1 0" : Str)]
def text2 : List Str := [("store 2" : Str), ("shelf 1 1 0" : Str)]
def text3 : List Str := [("store 9" : Str), ("shelf 1 1 0" : Str), ("shelf 1 2 0" : Str)]
def text4 : List Str := [("store 0" : Str), ("shelf 1 1 2" : Str)]
def text5 : List Str := [("store 0" : Str), ("shelf 1 1 0" : Str), ("fetch 0 any 0 0 -" : Str), ("fetch 0 any 0 0 -" : Str), ("fetch 0 any 0 0 -" : Str), ("fetch 0 any 0 0 -" : Str), ("fetch 0 any 0 0 -" : Str), ("fetch 0 any 0 0 -" : Str)]
def text6 : List Str := [("store 0" : Str), ("shelf 1 1 0" : Str), ("bring 0 any 0 0 -" : Str), ("fetch 1 any 0 0 -" : Str)]
def text7 : List Str := [("store 0" : Str), ("shelf 1 1 0" : Str), ("bring 0 any 0 0 -" : Str), ("fetch 0 any 2 0 -" : Str)]
def text8 : List Str := [("store 0" : Str), ("shelf 1 1 0" : Str), ("bring 0 any 0 0 -" : Str), ("bring 0 any 0 4 -" : Str)]
def text9 : List Str := [("store 0" : Str), ("shelf 1 1 0" : Str), ("bring 0 any 0 0 -" : Str), ("bring 0 left 0 0 2" : Str)]
def text10 : List Str := [("store 0" : Str), ("shelf 1 1 0" : Str), ("bring 0 any 0 0 -" : Str), ("fetch 0 any 0 0 1,0" : Str)]
def casesL : List (List Str × Str × Int) := [(text0, "shelves", 0), (text1, "shelves", 0), (text2, "aisle", 0), (text3, "shelf", 1), (text4, "shelf", 0), (text5, "wishes", 0), (text6, "wish", 1), (text7, "wish", 1), (text8, "wish", 1), (text9, "wish", 1), (text10, "wish", 1)]
structure CaseOk (c : List Str × Str × Int) (r0 : List Str) (rs : List (List Str)) (ss : List Shelf) (ws : List Wish) : Prop where
  e : c.1.map sp = r0 :: rs
  row : ∀ r ∈ c.1, 10 ∉ TL.tl r ∧ r.length ≤ 200
  many : c.1.length ≤ 20
  h : isStoreRow r0 = true
  sc : scan 1 rs [] [] = .inr (ss, ws)
  bad : Bad ss (figV (r0.getD 1 "")) ws ws.length (some (c.2.1, c.2.2))
def ss0 : List Shelf := []
def ws0 : List Wish := []
theorem case0 : CaseOk (text0, "shelves", 0) [("store" : Str), ("0" : Str)] [] ss0 ws0 := by
  refine ⟨by decide +kernel, by decide +kernel, by decide, by decide +kernel, by kernel_rfl, ?_⟩
  rw [show figV (([("store" : Str), ("0" : Str)] : List Str).getD 1 "") = 0 by decide +kernel]
  exact .shelves (.inl (by decide))
def ss1 : List Shelf := [⟨1, 1, 0⟩, ⟨1, 1, 0⟩, ⟨1, 1, 0⟩, ⟨1, 1, 0⟩, ⟨1, 1, 0⟩, ⟨1, 1, 0⟩]
def ws1 : List Wish := []
theorem case1 : CaseOk (text1, "shelves", 0) [("store" : Str), ("0" : Str)] [[("shelf" : Str), ("1" : Str), ("1" : Str), ("0" : Str)], [("shelf" : Str), ("1" : Str), ("1" : Str), ("0" : Str)], [("shelf" : Str), ("1" : Str), ("1" : Str), ("0" : Str)], [("shelf" : Str), ("1" : Str), ("1" : Str), ("0" : Str)], [("shelf" : Str), ("1" : Str), ("1" : Str), ("0" : Str)], [("shelf" : Str), ("1" : Str), ("1" : Str), ("0" : Str)]] ss1 ws1 := by
  refine ⟨by decide +kernel, by decide +kernel, by decide, by decide +kernel, by kernel_rfl, ?_⟩
  rw [show figV (([("store" : Str), ("0" : Str)] : List Str).getD 1 "") = 0 by decide +kernel]
  exact .shelves (.inr (by decide))
def ss2 : List Shelf := [⟨1, 1, 0⟩]
def ws2 : List Wish := []
theorem case2 : CaseOk (text2, "aisle", 0) [("store" : Str), ("2" : Str)] [[("shelf" : Str), ("1" : Str), ("1" : Str), ("0" : Str)]] ss2 ws2 := by
  refine ⟨by decide +kernel, by decide +kernel, by decide, by decide +kernel, by kernel_rfl, ?_⟩
  rw [show figV (([("store" : Str), ("2" : Str)] : List Str).getD 1 "") = 2 by decide +kernel]
  exact .aisle (by decide) (by decide) only_shelf (.inr (by decide))
def ss3 : List Shelf := [⟨1, 1, 0⟩, ⟨1, 2, 0⟩]
def ws3 : List Wish := []
theorem case3 : CaseOk (text3, "shelf", 1) [("store" : Str), ("9" : Str)] [[("shelf" : Str), ("1" : Str), ("1" : Str), ("0" : Str)], [("shelf" : Str), ("1" : Str), ("2" : Str), ("0" : Str)]] ss3 ws3 := by
  refine ⟨by decide +kernel, by decide +kernel, by decide, by decide +kernel, by kernel_rfl, ?_⟩
  rw [show figV (([("store" : Str), ("9" : Str)] : List Str).getD 1 "") = 9 by decide +kernel]
  exact .shelf (i := 1) (by decide) (by decide) first_shelf rfl (fun z => absurd z.h1 (by decide))
def ss4 : List Shelf := [⟨1, 1, 2⟩]
def ws4 : List Wish := []
theorem case4 : CaseOk (text4, "shelf", 0) [("store" : Str), ("0" : Str)] [[("shelf" : Str), ("1" : Str), ("1" : Str), ("2" : Str)]] ss4 ws4 := by
  refine ⟨by decide +kernel, by decide +kernel, by decide, by decide +kernel, by kernel_rfl, ?_⟩
  rw [show figV (([("store" : Str), ("0" : Str)] : List Str).getD 1 "") = 0 by decide +kernel]
  exact .shelf (i := 0) (by decide) (by decide) (fun j x hj => absurd hj (Nat.not_lt_zero _)) rfl (fun z => by rcases z.st with h | h <;> exact absurd h (by decide))
def ss5 : List Shelf := [⟨1, 1, 0⟩]
def ws5 : List Wish := [⟨"fetch", 0, "any", 0, 0, []⟩, ⟨"fetch", 0, "any", 0, 0, []⟩, ⟨"fetch", 0, "any", 0, 0, []⟩, ⟨"fetch", 0, "any", 0, 0, []⟩, ⟨"fetch", 0, "any", 0, 0, []⟩, ⟨"fetch", 0, "any", 0, 0, []⟩]
theorem case5 : CaseOk (text5, "wishes", 0) [("store" : Str), ("0" : Str)] [[("shelf" : Str), ("1" : Str), ("1" : Str), ("0" : Str)], [("fetch" : Str), ("0" : Str), ("any" : Str), ("0" : Str), ("0" : Str), ("-" : Str)], [("fetch" : Str), ("0" : Str), ("any" : Str), ("0" : Str), ("0" : Str), ("-" : Str)], [("fetch" : Str), ("0" : Str), ("any" : Str), ("0" : Str), ("0" : Str), ("-" : Str)], [("fetch" : Str), ("0" : Str), ("any" : Str), ("0" : Str), ("0" : Str), ("-" : Str)], [("fetch" : Str), ("0" : Str), ("any" : Str), ("0" : Str), ("0" : Str), ("-" : Str)], [("fetch" : Str), ("0" : Str), ("any" : Str), ("0" : Str), ("0" : Str), ("-" : Str)]] ss5 ws5 := by
  refine ⟨by decide +kernel, by decide +kernel, by decide, by decide +kernel, by kernel_rfl, ?_⟩
  rw [show figV (([("store" : Str), ("0" : Str)] : List Str).getD 1 "") = 0 by decide +kernel]
  exact .wishes (by decide) (by decide) only_shelf (by decide) (by decide) (by decide)
def ss6 : List Shelf := [⟨1, 1, 0⟩]
def ws6 : List Wish := [⟨"bring", 0, "any", 0, 0, []⟩, ⟨"fetch", 1, "any", 0, 0, []⟩]
theorem case6 : CaseOk (text6, "wish", 1) [("store" : Str), ("0" : Str)] [[("shelf" : Str), ("1" : Str), ("1" : Str), ("0" : Str)], [("bring" : Str), ("0" : Str), ("any" : Str), ("0" : Str), ("0" : Str), ("-" : Str)], [("fetch" : Str), ("1" : Str), ("any" : Str), ("0" : Str), ("0" : Str), ("-" : Str)]] ss6 ws6 := by
  refine ⟨by decide +kernel, by decide +kernel, by decide, by decide +kernel, by kernel_rfl, ?_⟩
  rw [show figV (([("store" : Str), ("0" : Str)] : List Str).getD 1 "") = 0 by decide +kernel]
  exact .wish (i := 1) (by decide) (by decide) only_shelf (by decide) (by decide) (by decide) first_wish rfl (fun z => absurd z.s1 (by decide))
def ss7 : List Shelf := [⟨1, 1, 0⟩]
def ws7 : List Wish := [⟨"bring", 0, "any", 0, 0, []⟩, ⟨"fetch", 0, "any", 2, 0, []⟩]
theorem case7 : CaseOk (text7, "wish", 1) [("store" : Str), ("0" : Str)] [[("shelf" : Str), ("1" : Str), ("1" : Str), ("0" : Str)], [("bring" : Str), ("0" : Str), ("any" : Str), ("0" : Str), ("0" : Str), ("-" : Str)], [("fetch" : Str), ("0" : Str), ("any" : Str), ("2" : Str), ("0" : Str), ("-" : Str)]] ss7 ws7 := by
  refine ⟨by decide +kernel, by decide +kernel, by decide, by decide +kernel, by kernel_rfl, ?_⟩
  rw [show figV (([("store" : Str), ("0" : Str)] : List Str).getD 1 "") = 0 by decide +kernel]
  exact .wish (i := 1) (by decide) (by decide) only_shelf (by decide) (by decide) (by decide) first_wish rfl (fun z => by rcases z.crew with h | h <;> exact absurd h (by decide))
def ss8 : List Shelf := [⟨1, 1, 0⟩]
def ws8 : List Wish := [⟨"bring", 0, "any", 0, 0, []⟩, ⟨"bring", 0, "any", 0, 4, []⟩]
theorem case8 : CaseOk (text8, "wish", 1) [("store" : Str), ("0" : Str)] [[("shelf" : Str), ("1" : Str), ("1" : Str), ("0" : Str)], [("bring" : Str), ("0" : Str), ("any" : Str), ("0" : Str), ("0" : Str), ("-" : Str)], [("bring" : Str), ("0" : Str), ("any" : Str), ("0" : Str), ("4" : Str), ("-" : Str)]] ss8 ws8 := by
  refine ⟨by decide +kernel, by decide +kernel, by decide, by decide +kernel, by kernel_rfl, ?_⟩
  rw [show figV (([("store" : Str), ("0" : Str)] : List Str).getD 1 "") = 0 by decide +kernel]
  exact .wish (i := 1) (by decide) (by decide) only_shelf (by decide) (by decide) (by decide) first_wish rfl (fun z => absurd z.k3 (by decide))
def ss9 : List Shelf := [⟨1, 1, 0⟩]
def ws9 : List Wish := [⟨"bring", 0, "any", 0, 0, []⟩, ⟨"bring", 0, "left", 0, 0, [2]⟩]
theorem case9 : CaseOk (text9, "wish", 1) [("store" : Str), ("0" : Str)] [[("shelf" : Str), ("1" : Str), ("1" : Str), ("0" : Str)], [("bring" : Str), ("0" : Str), ("any" : Str), ("0" : Str), ("0" : Str), ("-" : Str)], [("bring" : Str), ("0" : Str), ("left" : Str), ("0" : Str), ("0" : Str), ("2" : Str)]] ss9 ws9 := by
  refine ⟨by decide +kernel, by decide +kernel, by decide, by decide +kernel, by kernel_rfl, ?_⟩
  rw [show figV (([("store" : Str), ("0" : Str)] : List Str).getD 1 "") = 0 by decide +kernel]
  exact .wish (i := 1) (by decide) (by decide) only_shelf (by decide) (by decide) (by decide) first_wish rfl (fun z => absurd z.after.2.1 (by decide))
def ss10 : List Shelf := [⟨1, 1, 0⟩]
def ws10 : List Wish := [⟨"bring", 0, "any", 0, 0, []⟩, ⟨"fetch", 0, "any", 0, 0, [1, 0]⟩]
theorem case10 : CaseOk (text10, "wish", 1) [("store" : Str), ("0" : Str)] [[("shelf" : Str), ("1" : Str), ("1" : Str), ("0" : Str)], [("bring" : Str), ("0" : Str), ("any" : Str), ("0" : Str), ("0" : Str), ("-" : Str)], [("fetch" : Str), ("0" : Str), ("any" : Str), ("0" : Str), ("0" : Str), ("1,0" : Str)]] ss10 ws10 := by
  refine ⟨by decide +kernel, by decide +kernel, by decide, by decide +kernel, by kernel_rfl, ?_⟩
  rw [show figV (([("store" : Str), ("0" : Str)] : List Str).getD 1 "") = 0 by decide +kernel]
  exact .wish (i := 1) (by decide) (by decide) only_shelf (by decide) (by decide) (by decide) first_wish rfl (fun z => absurd z.after.2.2.1 (by decide))
theorem cases_ok : ∀ c ∈ casesL, ∃ r0 rs ss ws, CaseOk c r0 rs ss ws := by
  intro c hc
  simp only [casesL, List.mem_cons, List.not_mem_nil, or_false] at hc
  rcases hc with rfl | rfl | rfl | rfl | rfl | rfl | rfl | rfl | rfl | rfl | rfl
  · exact ⟨_, _, _, _, case0⟩
  · exact ⟨_, _, _, _, case1⟩
  · exact ⟨_, _, _, _, case2⟩
  · exact ⟨_, _, _, _, case3⟩
  · exact ⟨_, _, _, _, case4⟩
  · exact ⟨_, _, _, _, case5⟩
  · exact ⟨_, _, _, _, case6⟩
  · exact ⟨_, _, _, _, case7⟩
  · exact ⟨_, _, _, _, case8⟩
  · exact ⟨_, _, _, _, case9⟩
  · exact ⟨_, _, _, _, case10⟩
theorem x_bad : isShelfRow (sp "x") = false ∧ isWishRow (sp "x") = false ∧ 10 ∉ TL.tl ("x" : Str) ∧ ("x" : Str).length ≤ 200 := by decide +kernel
theorem case_out {c : List Str × Str × Int} (hc : c ∈ casesL) : ∃ r0 rs, RowsOk c.1 r0 rs ∧ Outc r0 rs (.tuple [.str c.2.1, .int c.2.2]) := by
  obtain ⟨r0, rs, ss, ws, h⟩ := cases_ok c hc
  exact ⟨r0, rs, ⟨h.e, h.row, Nat.le_trans h.many (by decide)⟩, .store h.h h.sc h.bad⟩
theorem case_out2 {c : List Str × Str × Int} (hc : c ∈ casesL) : ∃ r0 rs, RowsOk (c.1 ++ [("x" : Str)]) r0 rs ∧ Outc r0 rs (.int (c.1.length : Nat)) := by
  obtain ⟨r0, rs, ss, ws, h⟩ := cases_ok c hc
  obtain ⟨x1, x2, x3, x4⟩ := x_bad
  have hl : c.1.length = rs.length + 1 := by
    have := congrArg List.length h.e
    rw [List.length_map, List.length_cons] at this
    exact this
  have hm := h.many
  refine ⟨r0, rs ++ [sp "x"], ⟨?_, fun r hr => ?_, ?_⟩, ?_⟩
  · show List.map sp _ = _
    rw [List.map_append, h.e]
    rfl
  · rcases List.mem_append.mp hr with hr | hr
    · exact h.row r hr
    · rw [List.mem_singleton.mp hr]
      exact ⟨x3, x4⟩
  · rw [List.length_append]
    show _ + 1 ≤ 100
    omega
  · have sc := h.sc
    rw [← List.append_nil rs] at sc
    obtain ⟨ss', ws', es⟩ := scan_pre (X := [sp "x"]) sc
    rw [scan_bad x1 x2, show 1 + rs.length = c.1.length by omega] at es
    exact .row h.h es

/-! ## the law's text -/
section
variable {P : Program} {w : World} {K : PySem.W.Frag} {mg : Str → Option Value} {base : Heap}
abbrev sc2__law_text : Scope := { kind := .function, names := [(".0", .local), ("_law_shelf", .local)], isGenerator := false, isCoroutine := false, more := [] }
def spLawText (K : PySem.W.Frag) : Sp := fun vs H Q _ => ∃ (v : V) (S : Sto), vs = [v] ∧ Dp K H v S.d ∧ StoOk S ∧ ∀ H', Same H H' → Q (.str (textS S)) H'
theorem lay_nil0 : SeqAt.shaped (.tuple []) = true := Lay.shaped (n := 1) (Lays.tup (n := 0) lays_nil)
theorem eqv_nil0 (l : List Int) : PyData.eqv (.tuple (dints l)) (.tuple []) = decide (l = []) := by
  cases l with
  | nil => rfl
  | cons x r => rfl
/-! _law_text: 0 _law_store_here, 1 _law_rows, 2 _law_kind, 3 _law_shelf, 4 _law_side, 5 _law_crew, 6 _law_keep, 7 _law_after, 8 _law_told, 9 _law_one -/
abbrev s__law_text : Stmt := topS 32
abbrev N__law_text : List Str := ["_law_store_here", "_law_rows", "_law_kind", "_law_shelf", "_law_side", "_law_crew", "_law_keep", "_law_after", "_law_told", "_law_one"]
theorem sc__law_text : FnScope N__law_text ["_law_store_here"] (defScope s__law_text) := ⟨rfl, rfl, rfl, by decide +kernel, rfl, by decide +kernel, by decide +kernel⟩
theorem ok__law_text {f : Addr} {fd : FuncData} (D : Dfs K mg "_law_text" s__law_text ["_law_store_here"] f fd) (T : Tx K mg) : Cal P w K mg base 1 "_law_text" ["_law_store_here"] (spLawText K) f fd := by
  refine D.cal (D.F.ok sc__law_text (fun vs H Q E h => ?_) (fun cdv A outer s H vs Q E hr h => ?_))
  · obtain ⟨v, S, rfl, _⟩ := h
    rfl
  · obtain ⟨v, S, rfl, dv, ok, q⟩ := h
    obtain ⟨a, l, m, xs, ys, rfl, so⟩ := sto_at dv
    have n5 := ok.n5
    have w5 := ok.w5
    have a0 := ok.a0
    have a1 := ok.a1
    have l_store : ("store " : Str).length = 6 := by decide +kernel
    have l_shelf : ("shelf " : Str).length = 6 := by decide +kernel
    have la := len_fg (i := S.aisle) a0 (by omega)
    refine ⟨_, (pss_cons (ps_set (i := 1) sc__law_text.nd rfl (Or.inl rfl) (pe_op op_cat (pe_lst (pa_cons (pe_op op_add_str pe_str (pe_callTy call_str_int (by rfl) T.n_str (by decide +kernel) (pa_cons (pe_ix (kix_tup (K := K)) (pv 0) pe_int (fun _ _ => rfl)) pa_nil))) pa_nil)) (pe_lc (own := [("_law_shelf", 3)]) (g := gName 3) (te := tOp rAddStr (tC (.str "shelf ")) (tM1 (rJoinK K) (tC (.str " ")) (tLc (iTup K (tVar 3)) (gName 9) tYes (tCB rStrInt (tCons (tVar 9) tNil)) [9]))) rfl sc__law_text.nd (pi_list (by exact (pe_ix (kix_tup (K := K)) (pv 0) pe_int (fun _ _ => rfl)))) (blkOk_by (own := [("_law_shelf", 3)]) (N := N__law_text) (sc := defScope s__law_text) (by decide +kernel)) (fun _ _ _ _ _ => (pg_name (i := 3) sc__law_text.nd rfl (Or.inl rfl))) (fun _ _ _ _ _ => pts_nil) (fun _ _ _ _ _ => by
      refine pe_op (op_add_str : OpR _ _ rAddStr) pe_str ?_
      refine kpe_join (K := K) pe_str ?_
      refine pe_lc (own := [("_law_one", 9)]) (g := gName 9) rfl sc__law_text.nd (pi_tup ?_) (blkOk_by (own := [("_law_one", 9)]) (N := N__law_text) (sc := sc2__law_text) (by decide +kernel)) ?_ ?_ ?_
      · exact pv 3
      · exact fun _ _ _ _ _ => (pg_name (i := 9) sc__law_text.nd rfl (Or.inl rfl))
      · exact fun _ _ _ _ _ => pts_nil
      · exact fun _ _ _ _ _ => (pe_callTy (call_str_int : CallR _ _ rStrInt) (by rfl) T.n_str (by decide +kernel) (pa_cons (pv 9) pa_nil))))))
      (pss_cons (ps_for PassesOwn.never rfl (pi_list (by exact (pe_ix (kix_tup (K := K)) (pv 0) pe_int (fun _ _ => rfl)))) (pg_tup (by rfl) (pgs_cons (pg_name (i := 2) sc__law_text.nd rfl (Or.inl rfl)) (pgs_cons (pg_name (i := 3) sc__law_text.nd rfl (Or.inl rfl)) (pgs_cons (pg_name (i := 4) sc__law_text.nd rfl (Or.inl rfl)) (pgs_cons (pg_name (i := 5) sc__law_text.nd rfl (Or.inl rfl)) (pgs_cons (pg_name (i := 6) sc__law_text.nd rfl (Or.inl rfl)) (pgs_cons (pg_name (i := 7) sc__law_text.nd rfl (Or.inl rfl)) pgs_nil))))))) (pss_cons (ps_set (i := 8) sc__law_text.nd rfl (Or.inl rfl) (kpe_join (K := K) pe_str (pe_lc (own := [("_law_one", 9)]) (g := gName 9) rfl sc__law_text.nd (pi_tup (pv 7)) (blkOk_by (own := [("_law_one", 9)]) (N := N__law_text) (sc := defScope s__law_text) (by decide +kernel)) (fun _ _ _ _ _ => (pg_name (i := 9) sc__law_text.nd rfl (Or.inl rfl))) (fun _ _ _ _ _ => pts_nil) (fun _ _ _ _ _ => by exact (pe_callTy call_str_int (by rfl) T.n_str (by decide +kernel) (pa_cons (pv 9) pa_nil))))))
      (pss_one (ps_expr (pe_bm PySem.F.plainAttrs_list PySem.F.slot_list_append PySem.F.type_list_append mt_append (pv 1) (pa_cons (kpe_join (K := K) pe_str (pe_lst (pa_cons (pv 2) (pa_cons (pe_callTy call_str_int (by rfl) T.n_str (by decide +kernel) (pa_cons (pv 3) pa_nil)) (pa_cons (pv 4) (pa_cons (pe_callTy call_str_int (by rfl) T.n_str (by decide +kernel) (pa_cons (pv 5) pa_nil)) (pa_cons (pe_callTy call_str_int (by rfl) T.n_str (by decide +kernel) (pa_cons (pv 6) pa_nil)) (pa_cons (pe_ix (kix_list (K := K)) (pe_lst (pa_cons (pv 8) (pa_cons pe_str pa_nil))) (pe_callTy call_int1 (by rfl) T.n_int (by decide +kernel) (pa_cons (pe_cmpR (keqD (K := K) hr.units) (pv 7) (pe_tup pa_nil) (nomark _)) pa_nil)) (fun _ _ => rfl)) pa_nil)))))))) pa_nil))))))
      (pss_one (ps_ret (kpe_join (K := K) pe_str (pv 1)))))), ?_⟩
    -- ['store ' + str(store[1])]
    refine ⟨_, rfl, a, _, 1, .int S.aisle, rfl, rfl, so.t, rfl, S.aisle, rfl, log_small a0 (by omega), "store ", fg S.aisle, rfl, rfl, by rw [l_store, la, sizeLine_eq]; omega, small (by simp), fun l1 nl1 => ?_⟩
    rw [fs_store2]
    have s1 := same_new (o := .lst [V.str (rowT ["store", fg S.aisle])]) nl1
    have e1 : (upd H l1 (.lst [V.str (rowT ["store", fg S.aisle])])) l1 = some (.lst [V.str (rowT ["store", fg S.aisle])]) := upd_same
    generalize upd H l1 (.lst [V.str (rowT ["store", fg S.aisle])]) = H1 at s1 e1
    have so1 := so.mono s1
    -- ['shelf ' + ' '.join([str(one) for one in shelf]) for shelf in store[0]]
    refine ⟨_, rfl, a, _, 0, .ref l, rfl, rfl, so1.t, rfl, l, rfl, ⟨_, so1.l⟩, fun D1 nD1 => ?_⟩
    refine lc_list (K := K) (a := l) (xs := xs) (fun i H' => Same H1 H' ∧ H' D1 = some (.lst (((S.shelves.take i).map fun s => rowT (rowShelf s)).map V.str))) ⟨same_new nD1, by rw [List.take_zero]; exact upd_same⟩ (fun i H' _ h => Same.l h.1 so1.l) ?_ ?_
    · rintro i y H' hy ⟨s2, e2⟩
      have hi : i < S.shelves.length := by
        rw [← so.lx]
        exact (List.getElem?_eq_some_iff.mp hy).1
      have hs := List.getElem?_eq_getElem hi
      generalize S.shelves[i] = sh at hs
      obtain ⟨b, hb, hT⟩ := shelf_get (dps_mono s2 so1.dx) hs
      rw [hy] at hb
      cases hb
      have sn := (ok.sh sh (List.mem_of_getElem? hs)).nums
      refine ⟨rfl, ⟨_, rfl⟩, _, rfl, b, rfl, ⟨_, hT⟩, fun D2 nD2 => ?_⟩
      refine lc_tup (K := K) (a := b) (xs := [sh.room, sh.has, sh.sticks].map V.int) (fun j H2 => Same H' H2 ∧ H2 D2 = some (.lst ((([sh.room, sh.has, sh.sticks].take j).map fg).map V.str))) ⟨same_new nD2, upd_same⟩ (fun j H2 _ h => Same.t h.1 hT) ?_ ?_
      · rintro j z H2 hz ⟨s3, e3⟩
        obtain ⟨n, hn, rfl⟩ := int_item hz
        have hn09 : 0 ≤ n ∧ n ≤ 9 := by
          have hm := List.mem_of_getElem? hn
          simp only [List.mem_cons, List.not_mem_nil, or_false] at hm
          rcases hm with rfl | rfl | rfl
          · exact sn.room
          · exact sn.has
          · exact sn.sticks
        refine ⟨rfl, _, rfl, n, rfl, log_small hn09.1 hn09.2, _, e3, ?_, fun c o h => ?_, ?_⟩
        · rw [List.length_map, List.length_map, List.length_take]
          exact small1000 (by simp; omega)
        · rw [upd_ne (ne_of_none h nD2)]
          exact s3 c o h
        · rw [upd_same, take_succ' hn, List.map_append, List.map_append]
          rfl
      · rintro H2 ⟨s3, e3⟩
        have e3' : H2 D2 = some (.lst ([fg sh.room, fg sh.has, fg sh.sticks].map V.str)) := e3
        have lw : ∀ y ∈ [fg sh.room, fg sh.has, fg sh.sticks], y.length ≤ 900 := by
          intro y hy
          simp only [List.mem_cons, List.not_mem_nil, or_false] at hy
          rcases hy with rfl | rfl | rfl
          · rw [len_fg sn.room.1 sn.room.2]; decide
          · rw [len_fg sn.has.1 sn.has.2]; decide
          · rw [len_fg sn.sticks.1 sn.sticks.2]; decide
        refine ⟨" ", D2, [fg sh.room, fg sh.has, fg sh.sticks], rfl, rfl, .inl (SqL.of e3'), join_small lw (by simp) (by decide +kernel), "shelf ", _, rfl, rfl, ?_, ?_⟩
        · have e : (("shelf " : Str) ++ Txt.join " " [fg sh.room, fg sh.has, fg sh.sticks]).length ≤ 900 := by
            rw [fs_shelf2]
            exact Nat.le_trans (row_ok (wd_rowShelf sn) (by simp [rowShelf])).2 (by decide)
          rw [strLen_append] at e
          rw [sizeLine_eq]
          omega
        · rw [fs_shelf2]
          refine ⟨_, s3 _ _ e2, ?_, fun c o h => ?_, ?_⟩
          · rw [List.length_map, List.length_map, List.length_take]
            exact small1000 (by omega)
          · rw [upd_ne (ne_of_none h nD1)]
            exact (s2.trans s3) c o h
          · rw [upd_same, take_succ' hs, List.map_append, List.map_append]
            rfl
    · rintro H2 ⟨s2, e2⟩
      rw [so.lx, List.take_length] at e2
      have ne1 : l1 ≠ D1 := ne_of_none e1 nD1
      refine ⟨l1, D1, _, _, rfl, rfl, s2 _ _ e1, e2, ?_, fun p np => ?_⟩
      · rw [List.length_map, List.length_map, List.length_singleton, sizeLine_eq]
        omega
      have s02 := s1.trans s2
      have so2 := so.mono s02
      have ep : (upd H2 p (.lst ([V.str (rowT ["store", fg S.aisle])] ++ (S.shelves.map fun s => rowT (rowShelf s)).map V.str))) p = some (.lst (((rowStore S.aisle :: (S.shelves.map rowShelf ++ (S.wishes.take 0).map rowWish)).map rowT).map V.str)) := by
        rw [upd_same, List.take_zero, List.map_nil, List.append_nil, List.map_cons, List.map_cons, List.map_map (f := rowShelf)]
        rfl
      have sp := same_new (o := .lst ([V.str (rowT ["store", fg S.aisle])] ++ (S.shelves.map fun s => rowT (rowShelf s)).map V.str)) np
      generalize upd H2 p (.lst ([V.str (rowT ["store", fg S.aisle])] ++ (S.shelves.map fun s => rowT (rowShelf s)).map V.str)) = H3 at ep sp
      -- for kind, shelf, .. in store[2]
      refine ⟨_, rfl, a, _, 2, .ref m, rfl, rfl, Same.t sp so2.t, rfl, m, rfl, ⟨_, Same.l sp so2.m⟩, for_list (K := K) (a := m) (xs := ys) (fun i σ H' => Same H2 H' ∧ H' p = some (.lst (((rowStore S.aisle :: (S.shelves.map rowShelf ++ (S.wishes.take i).map rowWish)).map rowT).map V.str)) ∧ ∃ v2 v3 v4 v5 v6 v7 v8 : Option V, σ = [some (.ref a), some (.ref p), v2, v3, v4, v5, v6, v7, v8, none])
        ⟨sp, ep, none, none, none, none, none, none, none, rfl⟩ (fun i σ H' _ h => Same.l h.1 so2.m) ?_ ?_⟩
      · rintro i y σ H' hy ⟨s4, e4, v2, v3, v4, v5, v6, v7, v8, rfl⟩
        have hi : i < S.wishes.length := by
          rw [← so.ly]
          exact (List.getElem?_eq_some_iff.mp hy).1
        have hx := List.getElem?_eq_getElem hi
        generalize S.wishes[i] = x at hx
        obtain ⟨b, t, hb, hT, ht⟩ := wish_get (dps_mono s4 so2.dy) hx
        rw [hy] at hb
        cases hb
        have hm := List.mem_of_getElem? hx
        have wn := ok.wnums hm
        refine ⟨b, _, rfl, hT, rfl, _, _, rfl, _, _, rfl, _, _, rfl, _, _, rfl, _, _, rfl, _, _, rfl, rfl, ?_⟩
        -- told = ','.join(..)
        refine ⟨⟨_, rfl⟩, _, rfl, t, rfl, ⟨_, ht⟩, fun D2 nD2 => ?_⟩
        refine lc_tup (K := K) (a := t) (xs := x.after.map V.int) (fun j H2 => Same H' H2 ∧ H2 D2 = some (.lst (((x.after.take j).map fg).map V.str))) ⟨same_new nD2, by rw [List.take_zero]; exact upd_same⟩ (fun j H2 _ h => Same.t h.1 ht) ?_ ?_
        · rintro j z H2 hz ⟨s3, e3⟩
          obtain ⟨n, hn, rfl⟩ := int_item hz
          have hn09 := wn.after n (List.mem_of_getElem? hn)
          have hlen := wn.len
          refine ⟨rfl, _, rfl, n, rfl, log_small hn09.1 hn09.2, _, e3, ?_, fun c o h => ?_, ?_⟩
          · rw [List.length_map, List.length_map, List.length_take]
            exact small1000 (by omega)
          · rw [upd_ne (ne_of_none h nD2)]
            exact s3 c o h
          · rw [upd_same, take_succ' hn, List.map_append, List.map_append]
            rfl
        · rintro H5 ⟨s5, e5⟩
          rw [List.length_map, List.take_length] at e5
          have hlen := wn.len
          refine ⟨",", D2, x.after.map fg, rfl, rfl, .inl (SqL.of e5), join_small (fun y hy => ?_) (by rw [List.length_map]; omega) (by decide +kernel), ?_⟩
          · obtain ⟨n, hn, rfl⟩ := List.mem_map.mp hy
            rw [len_fg (wn.after n hn).1 (wn.after n hn).2]
            decide
          -- rows.append(' '.join([..]))
          have e4' := s5 _ _ e4
          refine ⟨_, rfl, .inl ⟨rfl, _, SqL.of e4'⟩, ⟨_, rfl⟩, _, rfl, _, rfl, _, rfl, log_small wn.shelf.1 wn.shelf.2, _, rfl, _, rfl, _, rfl, log_small wn.crew.1 wn.crew.2, _, rfl, _, rfl, log_small wn.keep.1 wn.keep.2, ?_⟩
          refine ⟨_, rfl, small (by simp), fun p1 np1 => ⟨_, rfl, small (by simp), fun p2 np2 => ?_⟩⟩
          have sp1 := same_new (o := .lst [V.str (Txt.join "," (x.after.map fg)), V.str "-"]) np1
          have sp2 := same_new (o := .tup []) np2
          have s57 := s5.trans (sp1.trans sp2)
          refine ⟨.tuple (dints x.after), .tuple [], .tup (Same.t s57 ht) (ints_dps _), .tup tup_new .nil, (Lays.tup (n := 1) (lays_ints _)).shaped, lay_nil0, .inr ⟨_, rfl, ?_⟩⟩
          rw [eqv_nil0]
          have hat : atI [V.str (Txt.join "," (x.after.map fg)), V.str "-"] (if decide (x.after = []) = true then 1 else 0) = some (V.str (afterT x.after)) := by
            unfold afterT
            by_cases e : x.after = []
            · rw [decide_eq_true e, if_pos e]
              rfl
            · rw [decide_eq_false e, if_neg e]
              rfl
          refine ⟨p1, _, _, _, rfl, rfl, SqL.of (sp2 _ _ upd_same), hat, small (by simp), fun p3 np3 => ?_⟩
          have lw : ∀ y ∈ rowWish x, y.length ≤ 900 := fun y hy => Nat.le_trans (wd_rowWish (ok.ws x hm) wn y hy).2.2 (by decide)
          have sp3 := same_new (o := .lst [V.str x.kind, V.str (fg x.shelf), V.str x.side, V.str (fg x.crew), V.str (fg x.keep), V.str (afterT x.after)]) np3
          have e6 := sp3 _ _ (sp2 _ _ (sp1 _ _ e4'))
          refine ⟨" ", p3, rowWish x, rfl, rfl, .inl lst_new, join_small lw (by simp [rowWish]) (by decide +kernel), p, _, _, rfl, rfl, e6, ?_, Same.putL ((s4.trans s57).trans sp3) np, ?_, _, _, _, _, _, _, _, rfl⟩
          · rw [List.length_map, List.length_map, List.length_cons, List.length_append, List.length_map, List.length_map, List.length_take]
            exact small1000 (by omega)
          · rw [upd_same, take_succ' hx]
            simp only [List.map_append, List.map_cons, List.map_nil, List.cons_append, List.append_assoc]
            rfl
      · rintro σ H4 ⟨s4, e4, v2, v3, v4, v5, v6, v7, v8, rfl⟩
        rw [so.ly, List.take_length] at e4
        refine ⟨⟨_, rfl⟩, _, rfl, "\n", p, (rowsW S).map rowT, rfl, rfl, .inl (SqL.of e4), join_small (fun y hy => ?_) ?_ (by decide +kernel), q _ (s02.trans s4)⟩
        · obtain ⟨ws, hw, rfl⟩ := List.mem_map.mp hy
          obtain ⟨h1, h2, _⟩ := rows_wd ok ws hw
          exact Nat.le_trans (row_ok h1 h2).2 (by decide)
        · rw [List.length_map]
          exact Nat.le_trans (rows_len ok) (by decide)
end

def spLaw (K : PySem.W.Frag) : Sp := fun vs H Q _ => ∃ (a : Addr) (ns : List Int), vs = [.ref a] ∧ SqL K H a (ns.map V.int) ∧ ns.length ≤ 63 ∧ ∀ H', Q (.bl true) H'

/-! ### pairs of rows and what is due -/
def CaseAt (K : PySem.W.Frag) (H : Hp) (v : V) (c : List Str × Str × Int) : Prop := ∃ t a b, v = .ref t ∧ SqT K H t [.ref a, .ref b] ∧ H a = some (.lst (c.1.map V.str)) ∧ SqT K H b [.str c.2.1, .int c.2.2]
abbrev Cases (K : PySem.W.Frag) (H : Hp) : List V → List (List Str × Str × Int) → Prop := Paired (CaseAt K H)
section
variable {K : PySem.W.Frag} {σ : L2.St} {H H' : Hp} {v : V} {vs us : List V} {c : List Str × Str × Int} {cs : List (List Str × Str × Int)}
theorem CaseAt.mono (s : Same H H') (h : CaseAt K H v c) : CaseAt K H' v c := by
  obtain ⟨t, a, b, e, h1, h2, h3⟩ := h
  exact ⟨t, a, b, e, Same.t s h1, s _ _ h2, Same.t s h3⟩
theorem Cases.mono (s : Same H H') (h : Cases K H vs cs) : Cases K H' vs cs := Paired.mapP h fun _ _ z => z.mono s
theorem CaseAt.put {p : Addr} (e : H p = some (.lst vs)) (hv : c.1.map V.str ≠ vs) (h : CaseAt K H v c) : CaseAt K (upd H p (.lst us)) v c := by
  obtain ⟨t, a, b, ev, h1, h2, h3⟩ := h
  refine ⟨t, a, b, ev, sqt_put e h1, ?_, sqt_put e h3⟩
  rw [upd_ne (fun z => by rw [z, e] at h2; cases h2; exact hv rfl)]
  exact h2
theorem cases_ne (h : Cases K H vs cs) {l : List Str} (hl : l ≠ []) : l.map V.str ≠ vs := by
  intro z
  cases l with
  | nil => exact hl rfl
  | cons x r =>
    subst z
    cases h with
    | cons h _ =>
      obtain ⟨_, _, _, e, _⟩ := h
      cases e
theorem Cases.put {p : Addr} (e : H p = some (.lst vs)) (hne : ∀ c ∈ cs, c.1 ≠ []) (h0 : Cases K H vs cs) (h : Cases K H vs cs) : Cases K (upd H p (.lst us)) vs cs := by
  have hv : ∀ c ∈ cs, c.1.map V.str ≠ vs := fun c hc => cases_ne h0 (hne c hc)
  clear h0
  generalize hz : vs = zs at hv e
  rw [hz] at h
  clear hz
  have go : ∀ {xs : List V} {ds : List (List Str × Str × Int)}, Cases K H xs ds → (∀ c ∈ ds, c.1.map V.str ≠ zs) → Cases K (upd H p (.lst us)) xs ds := by
    intro xs ds h
    induction h with
    | nil => intro _; exact .nil
    | cons a _ ih => intro hv; exact .cons (a.put e (hv _ List.mem_cons_self)) (ih fun c hc => hv c (List.mem_cons_of_mem _ hc))
  exact go h hv
theorem Cases.app {us : List V} {ds : List (List Str × Str × Int)} (h : Cases K H vs cs) (g : Cases K H us ds) : Cases K H (vs ++ us) (cs ++ ds) := by
  induction h with
  | nil => exact g
  | cons a _ ih => exact .cons a ih
theorem Cases.snoc (h : Cases K H vs cs) (g : CaseAt K H v c) : Cases K H (vs ++ [v]) (cs ++ [c]) := Paired.snoc h g
def EvC (K : PySem.W.Frag) (σ : L2.St) (H : Hp) (t : TE) (c : List Str × Str × Int) : Prop := ∀ (H' : Hp) (Q : VK), Same H H' → (∀ v H'', Same H' H'' → CaseAt K H'' v c → Q v H'') → t σ H' Q
theorem evc {tl : TE} (h : EvL K σ H tl (dstrs c.1)) : EvC K σ H (tTup (tCons tl (tCons (tTup (tCons (tC (.str c.2.1)) (tCons (tC (.int c.2.2)) tNil))) tNil))) c := fun H' Q s q => h H' _ s fun a xs H1 s1 n1 e1 d1 => by
  obtain rfl := dps_strs d1
  refine ⟨small (by simp), fun b nb => ⟨small (by simp), fun t nt => ?_⟩⟩
  have s2 := same_new (o := .tup [.str c.2.1, .int c.2.2]) nb
  have s3 := same_new (o := .tup [.ref a, .ref b]) nt
  exact q _ _ (s1.trans (s2.trans s3)) ⟨t, a, b, rfl, tup_new, s3 _ _ (s2 _ _ e1), Same.t s3 tup_new⟩
def EvCs (K : PySem.W.Frag) (σ : L2.St) (H : Hp) (t : TA) (cs : List (List Str × Str × Int)) : Prop := ∀ (H' : Hp) (Q : List V → Hp → Prop), Same H H' → (∀ vs H'', Same H' H'' → Cases K H'' vs cs → Q vs H'') → t σ H' Q
def EvCL (K : PySem.W.Frag) (σ : L2.St) (H : Hp) (t : TE) (cs : List (List Str × Str × Int)) : Prop := ∀ (H' : Hp) (Q : VK), Same H H' → (∀ a xs H'', Same H' H'' → H' a = none → H'' a = some (.lst xs) → Cases K H'' xs cs → Q (.ref a) H'') → t σ H' Q
theorem evcs_nil : EvCs K σ H tNil [] := fun H' Q _ q => q [] H' (Same.refl _) .nil
theorem evcs_cons {ta : TE} {tr : TA} (ha : EvC K σ H ta c) (hr : EvCs K σ H tr cs) : EvCs K σ H (tCons ta tr) (c :: cs) := fun H' Q s q => ha H' _ s fun v H1 s1 d1 => hr H1 _ (s.trans s1) fun vs H2 s2 d2 => q _ H2 (s1.trans s2) (.cons (d1.mono s2) d2)
theorem evcl_lst {ta : TA} (ha : EvCs K σ H ta cs) (hl : cs.length ≤ 1000) : EvCL K σ H (tLst ta) cs := fun H' Q s q => ha H' _ s fun vs H1 s1 d1 => ⟨small (by rw [Paired.length d1]; exact hl), fun p np =>
  q _ _ _ (s1.trans (same_new np)) (s1.free np) upd_same (d1.mono (same_new np))⟩
theorem EvCL.set {t : TE} {i : Nat} {tr : TS} {D : Ends} (h : EvCL K σ H t cs) (s : Same H H') (q : ∀ a xs H'', Same H' H'' → H' a = none → H'' a = some (.lst xs) → Cases K H'' xs cs → tr D (σ.set i (some (.ref a))) H'') : tSeq (tAsg t (gName i)) tr D σ H' := h H' _ s q
theorem evcl_cat {k : Nat} {a : Addr} {xs : List V} {tb : TE} {ds : List (List Str × Str × Int)} (h : σ[k]? = some (some (.ref a))) (e : H a = some (.lst xs)) (hd : Cases K H xs cs) (hb : EvCL K σ H tb ds) (hl : cs.length + ds.length ≤ 1000) : EvCL K σ H (tOp rCat (tVar k) tb) (cs ++ ds) := fun H' Q s q =>
  ⟨_, h, hb H' _ s fun b ys H2 s2 _ e2 d2 => ⟨a, b, xs, ys, rfl, rfl, s2 _ _ (s _ _ e), e2, small (by rw [Paired.length hd, Paired.length d2]; exact hl), fun p np =>
    q _ _ _ (s2.trans (same_new np)) (s2.free np) upd_same ((Cases.app (hd.mono (s.trans s2)) d2).mono (same_new np))⟩⟩
theorem EvCL.of {t : TE} {ds : List (List Str × Str × Int)} (h : EvCL K σ H t cs) (e : cs = ds) : EvCL K σ H t ds := e ▸ h
/-- some.append(..) -/
theorem evc_app {k : Nat} {p : Addr} {te : TE} {D : Ends} (he : EvC K σ H te c) (h : σ[k]? = some (some (.ref p))) (e : H p = some (.lst vs)) (hd : Cases K H vs cs) (hne : ∀ c ∈ cs, c.1 ≠ []) (hc : c.1 ≠ []) (hl : cs.length < 900)
    (q : ∀ v H'', Same H H'' → H'' p = some (.lst vs) → Cases K (upd H'' p (.lst (vs ++ [v]))) (vs ++ [v]) (cs ++ [c]) → D.nx σ (upd H'' p (.lst (vs ++ [v])))) : tDrop (tBM K "list" rAppend (tVar k) (tCons te tNil)) D σ H :=
  ⟨_, h, .inl ⟨rfl, _, SqL.of e⟩, he H _ (Same.refl _) fun v H'' s1 g => ⟨p, vs, v, rfl, rfl, s1 _ _ e, small1000 (by rw [Paired.length hd]; omega), q v H'' s1 (s1 _ _ e) (Cases.snoc (Cases.put (s1 _ _ e) hne (hd.mono s1) (hd.mono s1)) (g.put (s1 _ _ e) (cases_ne (hd.mono s1) hc)))⟩⟩
end

section
variable {P : Program} {w : World} {K : PySem.W.Frag} {mg : Str → Option Value} {base : Heap}
theorem cut_from (xs : List V) (i : Nat) (h : i ≤ xs.length) : cutV xs (some (i : Int)) none = xs.drop i := by
  unfold cutV
  rw [HT.sIx_nat, HT.sIx_none, Nat.min_eq_left h, List.take_of_length_le (by rw [List.length_drop]; exact Nat.le_refl _)]
theorem not_row {ρ : RowP} {B H : Hp} {a : Addr} {l : List Str} (R : RowSt K ρ B H) (e : H a = some (.lst (l.map V.str))) : ρ.r ≠ a := fun z => by
  obtain ⟨n1, n2, er, _⟩ := R.row
  rw [z, e] at er
  cases l with
  | nil => cases er
  | cons x r => cases er
/-! law: 0 _law_script, 1 _law_row, 2 _law_store_here, 3 _law_rows, 4 _law_odd, 5 _law_heads, 6 _law_at, 7 _law_later, 8 _law_some, 9 _law_wishes, 10 _law_wish_here, 11 _law_text_here, 12 _law_due -/
abbrev s_law : Stmt := topS 34
abbrev N_law : List Str := ["_law_script", "_law_row", "_law_store_here", "_law_rows", "_law_odd", "_law_heads", "_law_at", "_law_later", "_law_some", "_law_wishes", "_law_wish_here", "_law_text_here", "_law_due"]
theorem sc_law : FnScope N_law ["_law_script"] (defScope s_law) := ⟨rfl, rfl, rfl, by decide +kernel, rfl, by decide +kernel, by decide +kernel⟩
theorem ok_law {f f1 f2 f3 f4 : Addr} {fd fd1 fd2 fd3 fd4 : FuncData} (D : Dfs K mg "law" s_law ["_law_script"] f fd) (T : Tx K mg) (C__law_taken : Cal P w K mg base 1 "_law_taken" ["_law_row", "_law_many"] (spTaken K) f4 fd4)
    (C__law_store : Cal P w K mg base 3 "_law_store" ["_law_row"] (spStore K) f1 fd1) (C__law_text : Cal P w K mg base 1 "_law_text" ["_law_store_here"] (spLawText K) f2 fd2)
    (C__law_refused : Cal P w K mg base 7 "_law_refused" ["_law_rows"] (spRefused10 K) f3 fd3) : FnOk P w K mg base CX0 8 f fd ["_law_script"] (spLaw K) := by
  refine D.F.ok sc_law (fun vs H Q E h => ?_) (fun cdv A outer s H vs Q E hr h => ?_)
  · obtain ⟨a, ns, rfl, _⟩ := h
    rfl
  · obtain ⟨a, ns, rfl, hns, hlen, q⟩ := h
    refine ⟨_, (pss_cons (ps_set (i := 1) sc_law.nd rfl (Or.inl rfl) (pe_lst (pa_cons (pv 0) (pa_cons pe_int (pa_cons pe_int pa_nil)))))
      (pss_cons (ps_set (i := 2) sc_law.nd rfl (Or.inl rfl) (pe_call C__law_store.G (hr.mono (by decide)) (by rfl) C__law_store.g C__law_store.kp C__law_store.b .nil pass0 (pa_cons (pv 1) pa_nil)))
      (C8.pss_cut (ps_set (i := 3) sc_law.nd rfl (Or.inl rfl) (kpe_split (K := K) (pe_call C__law_text.G (hr.mono (by decide)) (by rfl) C__law_text.g C__law_text.kp C__law_text.b .nil pass0 (pa_cons (pv 2) pa_nil)) pe_str))
      (pss_cons (ps_set (i := 4) sc_law.nd rfl (Or.inl rfl) (pe_lst (pa_cons pe_str (pa_cons pe_str (pa_cons pe_str (pa_cons pe_str (pa_cons pe_str (pa_cons pe_str (pa_cons pe_str pa_nil)))))))))
      (pss_cons (ps_set (i := 4) sc_law.nd rfl (Or.inl rfl) (pe_op op_cat (pv 4) (pe_lst (pa_cons pe_str (pa_cons pe_str (pa_cons pe_str (pa_cons pe_str (pa_cons pe_str pa_nil))))))))
      (pss_cons (ps_set (i := 4) sc_law.nd rfl (Or.inl rfl) (pe_op op_cat (pv 4) (pe_lst (pa_cons pe_str (pa_cons pe_str (pa_cons pe_str (pa_cons pe_str (pa_cons pe_str pa_nil))))))))
      (pss_cons (ps_set (i := 4) sc_law.nd rfl (Or.inl rfl) (pe_op op_cat (pv 4) (pe_lst (pa_cons pe_str (pa_cons pe_str (pa_cons pe_str (pa_cons pe_str pa_nil)))))))
      (pss_cons (ps_set (i := 4) sc_law.nd rfl (Or.inl rfl) (pe_op op_cat (pv 4) (pe_lst (pa_cons pe_str (pa_cons pe_str (pa_cons pe_str (pa_cons pe_str pa_nil)))))))
      (pss_cons (ps_set (i := 4) sc_law.nd rfl (Or.inl rfl) (pe_op op_cat (pv 4) (pe_lst (pa_cons pe_str (pa_cons pe_str (pa_cons pe_str (pa_cons pe_str pa_nil)))))))
      (pss_cons (ps_set (i := 4) sc_law.nd rfl (Or.inl rfl) (pe_op op_cat (pv 4) (pe_lst (pa_cons pe_str pa_nil))))
      (pss_cons (ps_set (i := 5) sc_law.nd rfl (Or.inl rfl) (pe_lst (pa_cons pe_str (pa_cons pe_str (pa_cons pe_str (pa_cons pe_str (pa_cons pe_str (pa_cons pe_str (pa_cons pe_str (pa_cons pe_str (pa_cons pe_str pa_nil)))))))))))
      (C8.pss_cut (ps_expr (pe_bm PySem.F.plainAttrs_list PySem.F.slot_list_append PySem.F.type_list_append mt_append (pv 5) (pa_cons pe_str pa_nil)))
      (pss_cons (ps_set (i := 6) sc_law.nd rfl (Or.inl rfl) (pe_op op_add pe_int (pe_call C__law_taken.G (hr.mono (by decide)) (by rfl) C__law_taken.g C__law_taken.kp C__law_taken.b .nil pass0 (pa_cons (pv 1) (pa_cons (pe_callB (klen (K := K)) (by rfl) T.n_len (by decide +kernel) (pa_cons (pv 3) pa_nil)) pa_nil)))))
      (C8.pss_cut (ps_set (i := 7) sc_law.nd rfl (Or.inl rfl) (pe_slice (ksl_list (K := K)) (pe_lst (pa_cons pe_str (pa_cons pe_str pa_nil))) po_none (po_some (pe_call C__law_taken.G (hr.mono (by decide)) (by rfl) C__law_taken.g C__law_taken.kp C__law_taken.b .nil pass0 (pa_cons (pv 1) (pa_cons pe_int pa_nil))))))
      (pss_cons (ps_if (pt_cmpR (kneD (K := K) hr.units) (pe_call C__law_refused.G (hr.mono (by decide)) (by rfl) C__law_refused.g C__law_refused.kp C__law_refused.b .nil pass0 (pa_cons (pe_op op_cat (pe_op op_cat (pe_op op_cat (pe_slice (ksl_list (K := K)) (pv 3) po_none (po_some (pv 6))) (pe_lst (pa_cons (pe_ix (kix_list (K := K)) (pv 4) (pe_call C__law_taken.G (hr.mono (by decide)) (by rfl) C__law_taken.g C__law_taken.kp C__law_taken.b .nil pass0 (pa_cons (pv 1) (pa_cons (pe_callB (klen (K := K)) (by rfl) T.n_len (by decide +kernel) (pa_cons (pv 4) pa_nil)) pa_nil))) (fun _ _ => rfl)) pa_nil))) (pe_slice (ksl_list (K := K)) (pv 3) (po_some (pv 6)) po_none)) (pv 7)) pa_nil)) (pv 6) (nomark _)) (pss_one (ps_ret pe_bl)) pss_nil)
      (pss_cons (ps_if (pt_cmpR (kneD (K := K) hr.units) (pe_call C__law_refused.G (hr.mono (by decide)) (by rfl) C__law_refused.g C__law_refused.kp C__law_refused.b .nil pass0 (pa_cons (pe_op op_cat (pe_op op_cat (pe_lst (pa_cons (pe_ix (kix_list (K := K)) (pv 5) (pe_call C__law_taken.G (hr.mono (by decide)) (by rfl) C__law_taken.g C__law_taken.kp C__law_taken.b .nil pass0 (pa_cons (pv 1) (pa_cons pe_int pa_nil))) (fun _ _ => rfl)) pa_nil)) (pe_slice (ksl_list (K := K)) (pv 3) (po_some pe_int) po_none)) (pv 7)) pa_nil)) pe_int (nomark _)) (pss_one (ps_ret pe_bl)) pss_nil)
      (C8.pss_cut (ps_if (pt_cmpR (kneD (K := K) hr.units) (pe_call C__law_refused.G (hr.mono (by decide)) (by rfl) C__law_refused.g C__law_refused.kp C__law_refused.b .nil pass0 (pa_cons (pe_op op_cat (pe_op op_cat (pv 3) (pe_lst (pa_cons pe_str (pa_cons pe_str pa_nil)))) (pv 7)) pa_nil)) (pe_op op_add (pe_callB (klen (K := K)) (by rfl) T.n_len (by decide +kernel) (pa_cons (pv 3) pa_nil)) pe_int) (nomark _)) (pss_one (ps_ret pe_bl)) pss_nil)
      (pss_cons (ps_set (i := 8) sc_law.nd rfl (Or.inl rfl) (pe_lst (pa_cons (pe_tup (pa_cons (pe_lst (pa_cons pe_str pa_nil)) (pa_cons (pe_tup (pa_cons pe_str (pa_cons pe_int pa_nil))) pa_nil))) (pa_cons (pe_tup (pa_cons (pe_op op_cat (pe_lst (pa_cons pe_str pa_nil)) (pe_op op_rep (pe_lst (pa_cons pe_str pa_nil)) pe_int)) (pa_cons (pe_tup (pa_cons pe_str (pa_cons pe_int pa_nil))) pa_nil))) pa_nil))))
      (pss_cons (ps_expr (pe_bm PySem.F.plainAttrs_list PySem.F.slot_list_append PySem.F.type_list_append mt_append (pv 8) (pa_cons (pe_tup (pa_cons (pe_lst (pa_cons pe_str (pa_cons pe_str pa_nil))) (pa_cons (pe_tup (pa_cons pe_str (pa_cons pe_int pa_nil))) pa_nil))) pa_nil)))
      (pss_cons (ps_expr (pe_bm PySem.F.plainAttrs_list PySem.F.slot_list_append PySem.F.type_list_append mt_append (pv 8) (pa_cons (pe_tup (pa_cons (pe_lst (pa_cons pe_str (pa_cons pe_str (pa_cons pe_str pa_nil)))) (pa_cons (pe_tup (pa_cons pe_str (pa_cons pe_int pa_nil))) pa_nil))) pa_nil)))
      (pss_cons (ps_set (i := 8) sc_law.nd rfl (Or.inl rfl) (pe_op op_cat (pv 8) (pe_lst (pa_cons (pe_tup (pa_cons (pe_lst (pa_cons pe_str (pa_cons pe_str pa_nil))) (pa_cons (pe_tup (pa_cons pe_str (pa_cons pe_int pa_nil))) pa_nil))) pa_nil))))
      (pss_cons (ps_set (i := 8) sc_law.nd rfl (Or.inl rfl) (pe_op op_cat (pv 8) (pe_lst (pa_cons (pe_tup (pa_cons (pe_op op_cat (pe_lst (pa_cons pe_str (pa_cons pe_str pa_nil))) (pe_op op_rep (pe_lst (pa_cons pe_str pa_nil)) pe_int)) (pa_cons (pe_tup (pa_cons pe_str (pa_cons pe_int pa_nil))) pa_nil))) pa_nil))))
      (pss_cons (ps_set (i := 9) sc_law.nd rfl (Or.inl rfl) (pe_lst (pa_cons pe_str (pa_cons pe_str (pa_cons pe_str (pa_cons pe_str pa_nil))))))
      (C8.pss_cut (ps_for PassesOwn.never rfl (pi_list (by exact (pe_op op_cat (pv 9) (pe_lst (pa_cons pe_str pa_nil))))) (pg_name (i := 10) sc_law.nd rfl (Or.inl rfl)) (pss_one (ps_expr (pe_bm PySem.F.plainAttrs_list PySem.F.slot_list_append PySem.F.type_list_append mt_append (pv 8) (pa_cons (pe_tup (pa_cons (pe_lst (pa_cons pe_str (pa_cons pe_str (pa_cons pe_str (pa_cons (pv 10) pa_nil))))) (pa_cons (pe_tup (pa_cons pe_str (pa_cons pe_int pa_nil))) pa_nil))) pa_nil)))))
      (pss_cons (ps_asg (pe_ix (kix_list (K := K)) (pv 8) (pe_call C__law_taken.G (hr.mono (by decide)) (by rfl) C__law_taken.g C__law_taken.kp C__law_taken.b .nil pass0 (pa_cons (pv 1) (pa_cons pe_int pa_nil))) (fun _ _ => rfl)) (pg_tup (by rfl) (pgs_cons (pg_name (i := 11) sc_law.nd rfl (Or.inl rfl)) (pgs_cons (pg_name (i := 12) sc_law.nd rfl (Or.inl rfl)) pgs_nil))))
      (pss_one (ps_ret (pe_and (pe_cmpR (keqD (K := K) hr.units) (pe_call C__law_refused.G (hr.mono (by decide)) (by rfl) C__law_refused.g C__law_refused.kp C__law_refused.b .nil pass0 (pa_cons (pv 11) pa_nil)) (pv 12) (nomark _)) (pe_one (pe_cmpR (keqD (K := K) hr.units) (pe_call C__law_refused.G (hr.mono (by decide)) (by rfl) C__law_refused.g C__law_refused.kp C__law_refused.b .nil pass0 (pa_cons (pe_op op_cat (pv 11) (pe_lst (pa_cons pe_str pa_nil))) pa_nil)) (pe_callB (klen (K := K)) (by rfl) T.n_len (by decide +kernel) (pa_cons (pv 11) pa_nil)) (nomark _))))))))))))))))))))))))))))))), ?_⟩
    refine ⟨_, rfl, small (by simp), fun r nr => ?_⟩
    have R1 : RowSt K ⟨r, a, ns⟩ H (upd H r (.lst [.ref a, .int 0, .int 0])) := ⟨same_new nr, nr, hns, 0, 0, upd_same, Int.le_refl _⟩
    refine ⟨_, rfl, ⟨r, a, ns⟩, H, rfl, R1, fun v1 B1 H1 S t1 R2 dv ok => ?_⟩
    have el := (rowsT_len ok).2
    -- rows = _law_text(store_here).split('\n')
    refine ⟨fun σ H' => ∃ (pr : Addr) (B3 : Hp), σ = [some (.ref a), some (.ref r), some v1, some (.ref pr), none, none, none, none, none, none, none, none, none] ∧ RowSt K ⟨r, a, ns⟩ B3 H' ∧ H' pr = some (.lst ((rowsT S).map V.str)), ?_, ?_⟩
    · refine ⟨_, rfl, v1, S, rfl, dp_mono R2.same dv, ok, fun H2 s2 => ⟨⟨_, rfl⟩, textS S, "\n", rfl, rfl, by decide +kernel, by have := text_len ok; rw [sizeLine_eq]; omega, fun pr npr => ?_⟩⟩
      rw [rowsT_text ok]
      exact ⟨pr, _, rfl, (R2.pure s2).grow npr, upd_same⟩
    rintro σ H3 ⟨pr, B3, rfl, R3, er⟩
    refine EvL.set (K := K) (H := H3) (ds := dstrs (oddL.take 7)) ?_ (Same.refl _) fun p4 x4 H4 s4 _ e4 d4 => ?_
    · exact EvL.of (evl_lst (ds := [.str "", .str " ", .str "shelf", .str "shelf 1 1", .str "shelf 1 1 0 0", .str "shelf 1 x 0", .str "shelf 10 1 0"]) (by (repeat (first | exact evs_nil | refine evs_cons ?_ ?_ | exact ev_int | exact ev_str | exact ev_varI rfl | exact ev_varS rfl | refine ev_tup ?_ | refine ev_add ?_ ?_ | refine ev_sub ?_ ?_ | refine ev_neg ?_ | exact ev_var rfl (by assumption)))) (show 7 ≤ 1000 by decide)) rfl
    refine EvL.set (K := K) (H := H4) (ds := dstrs (oddL.take 12)) ?_ (Same.refl _) fun p5 x5 H5 s5 _ e5 d5 => ?_
    · exact EvL.of (evl_cat (evr_var rfl e4 d4) (EvL.r (evl_lst (ds := [.str "shelf 01 1 0", .str "shelf 1 -1 0", .str "shelf  1 0", .str "shelf 1 1 0 ", .str " shelf 1 1 0"]) (by (repeat (first | exact evs_nil | refine evs_cons ?_ ?_ | exact ev_int | exact ev_str | exact ev_varI rfl | exact ev_varS rfl | refine ev_tup ?_ | refine ev_add ?_ ?_ | refine ev_sub ?_ ?_ | refine ev_neg ?_ | exact ev_var rfl (by assumption)))) (show 5 ≤ 1000 by decide))) (show 12 ≤ 1000 by decide)) rfl
    refine EvL.set (K := K) (H := H5) (ds := dstrs (oddL.take 17)) ?_ (Same.refl _) fun p6 x6 H6 s6 _ e6 d6 => ?_
    · exact EvL.of (evl_cat (evr_var rfl e5 d5) (EvL.r (evl_lst (ds := [.str "Shelf 1 1 0", .str "shelf 1 +1 0", .str "fetch", .str "fetch 0 any 0 0", .str "fetch 0 any 0 0 - -"]) (by (repeat (first | exact evs_nil | refine evs_cons ?_ ?_ | exact ev_int | exact ev_str | exact ev_varI rfl | exact ev_varS rfl | refine ev_tup ?_ | refine ev_add ?_ ?_ | refine ev_sub ?_ ?_ | refine ev_neg ?_ | exact ev_var rfl (by assumption)))) (show 5 ≤ 1000 by decide))) (show 17 ≤ 1000 by decide)) rfl
    refine EvL.set (K := K) (H := H6) (ds := dstrs (oddL.take 21)) ?_ (Same.refl _) fun p7 x7 H7 s7 _ e7 d7 => ?_
    · exact EvL.of (evl_cat (evr_var rfl e6 d6) (EvL.r (evl_lst (ds := [.str "fetch 0 up 0 0 -", .str "fetch x any 0 0 -", .str "bring 0 any 10 0 -", .str "bring 0 any 0 -1 -"]) (by (repeat (first | exact evs_nil | refine evs_cons ?_ ?_ | exact ev_int | exact ev_str | exact ev_varI rfl | exact ev_varS rfl | refine ev_tup ?_ | refine ev_add ?_ ?_ | refine ev_sub ?_ ?_ | refine ev_neg ?_ | exact ev_var rfl (by assumption)))) (show 4 ≤ 1000 by decide))) (show 21 ≤ 1000 by decide)) rfl
    refine EvL.set (K := K) (H := H7) (ds := dstrs (oddL.take 25)) ?_ (Same.refl _) fun p8 x8 H8 s8 _ e8 d8 => ?_
    · exact EvL.of (evl_cat (evr_var rfl e7 d7) (EvL.r (evl_lst (ds := [.str "bring 0 any 0 0 0,", .str "bring 0 any 0 0 0 1", .str "bring 0 any 0 0 0;1", .str "take 0 any 0 0 -"]) (by (repeat (first | exact evs_nil | refine evs_cons ?_ ?_ | exact ev_int | exact ev_str | exact ev_varI rfl | exact ev_varS rfl | refine ev_tup ?_ | refine ev_add ?_ ?_ | refine ev_sub ?_ ?_ | refine ev_neg ?_ | exact ev_var rfl (by assumption)))) (show 4 ≤ 1000 by decide))) (show 25 ≤ 1000 by decide)) rfl
    refine EvL.set (K := K) (H := H8) (ds := dstrs (oddL.take 29)) ?_ (Same.refl _) fun p9 x9 H9 s9 _ e9 d9 => ?_
    · exact EvL.of (evl_cat (evr_var rfl e8 d8) (EvL.r (evl_lst (ds := [.str "store 1", .str "bring 0 any 0 0 ", .str "bring 0 Any 0 0 -", .str "bring 0 any 0 0 --"]) (by (repeat (first | exact evs_nil | refine evs_cons ?_ ?_ | exact ev_int | exact ev_str | exact ev_varI rfl | exact ev_varS rfl | refine ev_tup ?_ | refine ev_add ?_ ?_ | refine ev_sub ?_ ?_ | refine ev_neg ?_ | exact ev_var rfl (by assumption)))) (show 4 ≤ 1000 by decide))) (show 29 ≤ 1000 by decide)) rfl
    refine EvL.set (K := K) (H := H9) (ds := dstrs (oddL.take 30)) ?_ (Same.refl _) fun podd xodd Ho sodd _ eodd dodd => ?_
    · exact EvL.of (evl_cat (evr_var rfl e9 d9) (EvL.r (evl_lst (ds := [.str "bring 0 any 0 0 11"]) (by (repeat (first | exact evs_nil | refine evs_cons ?_ ?_ | exact ev_int | exact ev_str | exact ev_varI rfl | exact ev_varS rfl | refine ev_tup ?_ | refine ev_add ?_ ?_ | refine ev_sub ?_ ?_ | refine ev_neg ?_ | exact ev_var rfl (by assumption)))) (show 1 ≤ 1000 by decide))) (show 30 ≤ 1000 by decide)) rfl
    have exo : xodd = oddL.map V.str := dps_strs (l := oddL) dodd
    subst exo
    -- heads
    refine EvL.set (K := K) (H := Ho) (ds := dstrs (headL.take 9)) ?_ (Same.refl _) fun ph xh Hh sh nh eh dh => ?_
    · exact EvL.of (evl_lst (ds := [.str "", .str "store", .str "store 1 2", .str "store x", .str "store 10", .str "store 01", .str "Store 1", .str "store  1", .str "store 1 "]) (by (repeat (first | exact evs_nil | refine evs_cons ?_ ?_ | exact ev_int | exact ev_str | exact ev_varI rfl | exact ev_varS rfl | refine ev_tup ?_ | refine ev_add ?_ ?_ | refine ev_sub ?_ ?_ | refine ev_neg ?_ | exact ev_var rfl (by assumption)))) (show 9 ≤ 1000 by decide)) rfl
    refine ⟨fun σ H' => ∃ (po ph : Addr) (B10 : Hp), σ = [some (.ref a), some (.ref r), some v1, some (.ref pr), some (.ref po), some (.ref ph), none, none, none, none, none, none, none] ∧ RowSt K ⟨r, a, ns⟩ B10 H' ∧ B10 po = some (.lst (oddL.map V.str)) ∧ B10 ph = some (.lst (headL.map V.str)) ∧ B10 pr = some (.lst ((rowsT S).map V.str)), ?_, ?_⟩
    · refine ⟨_, rfl, .inl ⟨rfl, _, SqL.of eh⟩, ph, xh, _, rfl, rfl, eh, small1000 (by rw [dps_len dh]; decide), ?_⟩
      have exh : xh ++ [V.str "shelf 1 1 0"] = headL.map V.str := by
        rw [dps_strs (l := headL.take 9) dh]
        rfl
      rw [exh]
      have s3o := s4.trans (s5.trans (s6.trans (s7.trans (s8.trans (s9.trans sodd)))))
      have sph : Same Ho (upd Hh ph (.lst (headL.map V.str))) := Same.put sh nh
      have s3h := s3o.trans sph
      have eh2 : (upd Hh ph (.lst (headL.map V.str))) ph = some (.lst (headL.map V.str)) := upd_same
      generalize upd Hh ph (.lst (headL.map V.str)) = H10 at sph s3h eh2
      have eo2 := sph _ _ eodd
      have er2 := s3h _ _ er
      clear d4 d5 d6 d7 d8 d9 e4 e5 e6 e7 e8 e9
      obtain ⟨R10, _⟩ := row_all R3 s3h
      have kr : ∀ {b : Addr} {l : List Str}, H10 b = some (.lst (l.map V.str)) → (del1 H10 r) b = some (.lst (l.map V.str)) := fun {b l} e => by
        rw [del1_ne (Ne.symm (not_row (R3.pure s3h) e))]
        exact e
      have bo := kr eo2
      have bh := kr eh2
      have br := kr er2
      exact ⟨podd, ph, _, rfl, R10, bo, bh, br⟩
    rintro σ H10 ⟨po, ph, B10, rfl, R10, bo, bh, br⟩
    -- at = 1 + taken(row, len(rows))
    have el1 := (rowsT_len ok).1
    refine ⟨_, rfl, _, rfl, pr, _, rfl, .inl (SqL.of (R10.same _ _ br)), ⟨r, a, ns⟩, _, B10, rfl, by rw [List.length_map]; omega, R10, fun z H11 z0 z1 R11 => ⟨1, z, rfl, rfl, ?_⟩⟩
    rw [List.length_map] at z1
    obtain ⟨n, hn⟩ : ∃ n : Nat, 1 + z = (n : Int) := ⟨(1 + z).toNat, by omega⟩
    show gName 6 (V.int (1 + z)) _ _ _
    rw [hn]
    have n1 : 1 ≤ n := by omega
    have n2 : n ≤ (rowsT S).length := by omega
    clear hn z0 z1
    refine ⟨fun σ H' => ∃ (pl : Addr) (la : List Str) (B13 : Hp), σ = [some (.ref a), some (.ref r), some v1, some (.ref pr), some (.ref po), some (.ref ph), some (.int n), some (.ref pl), none, none, none, none, none] ∧ Same B10 B13 ∧ RowSt K ⟨r, a, ns⟩ B13 H' ∧ B13 pl = some (.lst (la.map V.str)) ∧ (∀ x ∈ la, x ∈ laterL) ∧ la.length ≤ 2, ?_, ?_⟩
    · -- later = ['', 'x'][:taken(row, 3)]
      refine ⟨small (by simp), fun p np => ⟨_, rfl, ⟨r, a, ns⟩, 3, upd B10 p (.lst (laterL.map V.str)), rfl, by decide, R11.grow np, fun z2 H12 z20 z21 R12 => ?_⟩⟩
      obtain ⟨m, rfl⟩ := Int.eq_ofNat_of_zero_le z20
      refine ⟨((m : Nat) : Int), rfl, p, _, rfl, SqL.of (R12.same _ _ upd_same), fun p2 np2 => ?_⟩
      rw [cut_t, ← List.map_take]
      refine ⟨p2, laterL.take m, _, rfl, (same_new (R11.same.free np)).trans (same_new (R12.same.free np2)), R12.grow np2, upd_same, fun x hx => List.mem_of_mem_take hx, ?_⟩
      rw [List.length_take]
      show min m 2 ≤ 2
      omega
    rintro σ H13 ⟨pl, la, B13, rfl, s13, R13, bl, hla, hll⟩
    replace bo := s13 _ _ bo
    replace bh := s13 _ _ bh
    replace br := s13 _ _ br
    have c1 : cutV ((rowsT S).map V.str) none (some ((n : Nat) : Int)) = ((rowsT S).take n).map V.str := by rw [cut_t, List.map_take]
    have c2 : cutV ((rowsT S).map V.str) (some ((n : Nat) : Int)) none = ((rowsT S).drop n).map V.str := by rw [cut_from _ _ (by rw [List.length_map]; exact n2), List.map_drop]
    have c3 : cutV ((rowsT S).map V.str) (some 1) none = ((rowsT S).drop 1).map V.str := by rw [cut1 (by rw [List.length_map]; omega), List.map_drop]
    have hl1 : ((rowsT S).take n).length ≤ 11 := by rw [List.length_take]; omega
    have hl2 : ((rowsT S).drop n).length ≤ 11 := by rw [List.length_drop]; omega
    have hl3 : ((rowsT S).drop 1).length ≤ 11 := by rw [List.length_drop]; omega
    -- refused(rows[:at] + [odd[..]] + rows[at:] + later) != at
    refine ⟨_, rfl, _, rfl, ((n : Nat) : Int), rfl, pr, _, rfl, SqL.of (R13.same _ _ br), fun p1 np1 => ?_⟩
    rw [c1]
    have R14 := R13.grow (o := .lst (((rowsT S).take n).map V.str)) np1
    have sB14 := same_new (o := .lst (((rowsT S).take n).map V.str)) (R13.same.free np1)
    have b1 : (upd B13 p1 (.lst (((rowsT S).take n).map V.str))) p1 = _ := upd_same
    generalize upd H13 p1 (.lst (((rowsT S).take n).map V.str)) = H14 at R14
    generalize upd B13 p1 (.lst (((rowsT S).take n).map V.str)) = B14 at R14 sB14 b1
    refine ⟨_, rfl, _, rfl, _, rfl, po, _, rfl, .inl (SqL.of (R14.same _ _ (sB14 _ _ bo))), ⟨r, a, ns⟩, _, B14, rfl, by rw [List.length_map]; decide, R14, fun z3 H15 z30 z31 R15 => ?_⟩
    obtain ⟨v, hv, hv2, _⟩ := atI_mem z30 z31
    obtain ⟨o, ho, rfl⟩ := str_item hv2
    have hom := List.mem_of_getElem? ho
    refine ⟨po, _, z3, _, rfl, rfl, SqL.of (R15.same _ _ (sB14 _ _ bo)), hv, small (by simp), fun p2 np2 => ?_⟩
    have s2 := same_new (o := .lst [V.str o]) np2
    have e1 := s2 _ _ (R15.same _ _ b1)
    refine ⟨p1, p2, _, _, rfl, rfl, e1, upd_same, small (by rw [List.length_map]; simp; omega), fun p3 np3 => ?_⟩
    have s3 := s2.trans (same_new (o := .lst (((rowsT S).take n).map V.str ++ [V.str o])) np3)
    refine ⟨_, rfl, _, rfl, ((n : Nat) : Int), rfl, pr, _, rfl, SqL.of (s3 _ _ (R15.same _ _ (sB14 _ _ br))), fun p4 np4 => ?_⟩
    rw [c2]
    have s4 := s3.trans (same_new (o := .lst (((rowsT S).drop n).map V.str)) np4)
    refine ⟨p3, p4, _, _, rfl, rfl, same_new np4 _ _ upd_same, upd_same, small (by rw [List.length_append, List.length_map, List.length_map]; simp; omega), fun p5 np5 => ?_⟩
    have s5 := s4.trans (same_new (o := .lst (((rowsT S).take n).map V.str ++ [V.str o] ++ ((rowsT S).drop n).map V.str)) np5)
    refine ⟨_, rfl, p5, pl, _, _, rfl, rfl, upd_same, s5 _ _ (R15.same _ _ (sB14 _ _ bl)), small (by rw [List.length_append, List.length_append, List.length_map, List.length_map, List.length_map]; simp; omega), fun p6 np6 => ?_⟩
    have s6 := s5.trans (same_new (o := .lst (((rowsT S).take n).map V.str ++ [V.str o] ++ ((rowsT S).drop n).map V.str ++ la.map V.str)) np6)
    obtain ⟨r0, rs, ro, oc⟩ := odd_out ok hom n1 n2 hla hll
    have el6 : ((rowsT S).take n).map V.str ++ [V.str o] ++ ((rowsT S).drop n).map V.str ++ la.map V.str = ((rowsT S).take n ++ [o] ++ (rowsT S).drop n ++ la).map V.str := by
      simp only [List.map_append, List.map_cons, List.map_nil]
    refine ⟨p6, _, r0, rs, _, rfl, SqL.of (by rw [← el6]; exact upd_same), ro, oc, fun v H16 s16 d16 => ⟨_, rfl, .int (n : Int), .int (n : Int), d16, .int _, rfl, rfl, _, rfl, itnB (decide_eq_true rfl) ?_⟩⟩
    replace R13 := (R15.pure (s6.trans s16)).less sB14 R13.scr
    clear R14 R15 s2 s3 s4 s5 s6 s16 e1 hv hv2 ro oc d16 el6 ho hom
    -- refused([heads[..]] + rows[1:] + later) != 0
    refine ⟨_, rfl, _, rfl, ⟨r, a, ns⟩, 10, B13, rfl, by decide, R13, fun z3 H17 z30 z31 R17 => ?_⟩
    obtain ⟨v, hv, hv2, _⟩ := atI_mem (xs := headL.map V.str) z30 z31
    obtain ⟨o, ho, rfl⟩ := str_item hv2
    have hom := List.mem_of_getElem? ho
    refine ⟨ph, _, z3, _, rfl, rfl, SqL.of (R17.same _ _ bh), hv, small (by simp), fun p1 np1 => ?_⟩
    have s1 := same_new (o := .lst [V.str o]) np1
    refine ⟨_, rfl, 1, rfl, pr, _, rfl, SqL.of (s1 _ _ (R17.same _ _ br)), fun p2 np2 => ?_⟩
    rw [c3]
    have s2 := s1.trans (same_new (o := .lst (((rowsT S).drop 1).map V.str)) np2)
    refine ⟨p1, p2, _, _, rfl, rfl, same_new np2 _ _ upd_same, upd_same, small (by rw [List.length_map]; simp; omega), fun p3 np3 => ?_⟩
    have s3 := s2.trans (same_new (o := .lst ([V.str o] ++ ((rowsT S).drop 1).map V.str)) np3)
    refine ⟨_, rfl, p3, pl, _, _, rfl, rfl, upd_same, s3 _ _ (R17.same _ _ bl), small (by rw [List.length_append, List.length_map, List.length_map]; simp; omega), fun p6 np6 => ?_⟩
    have s6 := s3.trans (same_new (o := .lst ([V.str o] ++ ((rowsT S).drop 1).map V.str ++ la.map V.str)) np6)
    obtain ⟨r0, rs, ro, oc⟩ := head_out ok hom hla hll
    have el6 : [V.str o] ++ ((rowsT S).drop 1).map V.str ++ la.map V.str = ([o] ++ (rowsT S).drop 1 ++ la).map V.str := by
      simp only [List.map_append, List.map_cons, List.map_nil]
    refine ⟨p6, _, r0, rs, _, rfl, SqL.of (by rw [← el6]; exact upd_same), ro, oc, fun v H18 s18 d18 => ⟨.int 0, .int 0, d18, .int _, rfl, rfl, _, rfl, itnB rfl ?_⟩⟩
    have R18 := R17.pure (s6.trans s18)
    clear R17 R13 s1 s2 s3 s6 s18 hv hv2 ro oc d18 el6 ho hom
    -- refused(rows + [fetch, shelf] + later) != len(rows) + 1
    refine ⟨fun σ H' => σ = [some (.ref a), some (.ref r), some v1, some (.ref pr), some (.ref po), some (.ref ph), some (.int n), some (.ref pl), none, none, none, none, none] ∧ RowSt K ⟨r, a, ns⟩ B13 H', ?_, ?_⟩
    · refine ⟨_, rfl, small (by simp), fun p1 np1 => ?_⟩
      have s1 := same_new (o := .lst [V.str "fetch 0 any 0 0 -", V.str "shelf 1 1 0"]) np1
      refine ⟨pr, p1, _, _, rfl, rfl, s1 _ _ (R18.same _ _ br), upd_same, small (by rw [List.length_map]; simp; omega), fun p3 np3 => ?_⟩
      have s3 := s1.trans (same_new (o := .lst ((rowsT S).map V.str ++ [V.str "fetch 0 any 0 0 -", V.str "shelf 1 1 0"])) np3)
      refine ⟨_, rfl, p3, pl, _, _, rfl, rfl, upd_same, s3 _ _ (R18.same _ _ bl), small (by rw [List.length_append, List.length_map, List.length_map]; simp; omega), fun p6 np6 => ?_⟩
      have s6 := s3.trans (same_new (o := .lst ((rowsT S).map V.str ++ [V.str "fetch 0 any 0 0 -", V.str "shelf 1 1 0"] ++ la.map V.str)) np6)
      obtain ⟨r0, rs, ro, oc⟩ := shelf_out ok hla hll
      have el6 : (rowsT S).map V.str ++ [V.str "fetch 0 any 0 0 -", V.str "shelf 1 1 0"] ++ la.map V.str = (rowsT S ++ [("fetch 0 any 0 0 -" : Str), "shelf 1 1 0"] ++ la).map V.str := by
        simp only [List.map_append, List.map_cons, List.map_nil]
      refine ⟨p6, _, r0, rs, _, rfl, SqL.of (by rw [← el6]; exact upd_same), ro, oc, fun v H19 s19 d19 => ?_⟩
      refine ⟨_, rfl, pr, _, rfl, .inl (SqL.of ((s6.trans s19) _ _ (R18.same _ _ br))), _, 1, rfl, rfl, .int (((rowsT S).length : Nat) + 1), .int (((rowsT S).length : Nat) + 1), d19, ?_, rfl, rfl, _, rfl, itnB (decide_eq_true rfl) ⟨rfl, R18.pure (s6.trans s19)⟩⟩
      rw [List.length_map]
      exact .int _
    rintro σ H19 ⟨rfl, R19⟩
    clear R18
    -- some
    have e0 : ∀ {σ : L2.St} {H : Hp}, EvC K σ H (tTup (tCons (tLst (tCons (tC (.str "store 0")) tNil)) (tCons (tTup (tCons (tC (.str "shelves")) (tCons (tC (.int 0)) tNil))) tNil))) (text0, "shelves", 0) := evc (c := (text0, "shelves", 0)) (EvL.of (evl_lst (ds := [.str "store 0"]) (by (repeat (first | exact evs_nil | refine evs_cons ?_ ?_ | exact ev_int | exact ev_str | exact ev_varI rfl | exact ev_varS rfl | refine ev_tup ?_ | refine ev_add ?_ ?_ | refine ev_sub ?_ ?_ | refine ev_neg ?_ | exact ev_var rfl (by assumption)))) (show 1 ≤ 1000 by decide)) rfl)
    have e1 : ∀ {σ : L2.St} {H : Hp}, EvC K σ H (tTup (tCons (tOp rCat (tLst (tCons (tC (.str "store 0")) tNil)) (tOp rRep (tLst (tCons (tC (.str "shelf 1 1 0")) tNil)) (tC (.int 6)))) (tCons (tTup (tCons (tC (.str "shelves")) (tCons (tC (.int 0)) tNil))) tNil))) (text1, "shelves", 0) :=
      evc (c := (text1, "shelves", 0)) (EvL.of (evl_cat (EvL.r (evl_lst (ds := [.str "store 0"]) (by (repeat (first | exact evs_nil | refine evs_cons ?_ ?_ | exact ev_int | exact ev_str | exact ev_varI rfl | exact ev_varS rfl | refine ev_tup ?_ | refine ev_add ?_ ?_ | refine ev_sub ?_ ?_ | refine ev_neg ?_ | exact ev_var rfl (by assumption)))) (show 1 ≤ 1000 by decide))) (EvL.r (evl_rep (k := 6) (EvL.r (evl_lst (ds := [.str "shelf 1 1 0"]) (by (repeat (first | exact evs_nil | refine evs_cons ?_ ?_ | exact ev_int | exact ev_str | exact ev_varI rfl | exact ev_varS rfl | refine ev_tup ?_ | refine ev_add ?_ ?_ | refine ev_sub ?_ ?_ | refine ev_neg ?_ | exact ev_var rfl (by assumption)))) (show 1 ≤ 1000 by decide))) ev_int (by decide) (by decide) (show 6 ≤ 1000 by decide))) (show 7 ≤ 1000 by decide)) rfl)
    have e2 : ∀ {σ : L2.St} {H : Hp}, EvC K σ H (tTup (tCons (tLst (tCons (tC (.str "store 2")) (tCons (tC (.str "shelf 1 1 0")) tNil))) (tCons (tTup (tCons (tC (.str "aisle")) (tCons (tC (.int 0)) tNil))) tNil))) (text2, "aisle", 0) := evc (c := (text2, "aisle", 0)) (EvL.of (evl_lst (ds := [.str "store 2", .str "shelf 1 1 0"]) (by (repeat (first | exact evs_nil | refine evs_cons ?_ ?_ | exact ev_int | exact ev_str | exact ev_varI rfl | exact ev_varS rfl | refine ev_tup ?_ | refine ev_add ?_ ?_ | refine ev_sub ?_ ?_ | refine ev_neg ?_ | exact ev_var rfl (by assumption)))) (show 2 ≤ 1000 by decide)) rfl)
    have e3 : ∀ {σ : L2.St} {H : Hp}, EvC K σ H (tTup (tCons (tLst (tCons (tC (.str "store 9")) (tCons (tC (.str "shelf 1 1 0")) (tCons (tC (.str "shelf 1 2 0")) tNil)))) (tCons (tTup (tCons (tC (.str "shelf")) (tCons (tC (.int 1)) tNil))) tNil))) (text3, "shelf", 1) := evc (c := (text3, "shelf", 1)) (EvL.of (evl_lst (ds := [.str "store 9", .str "shelf 1 1 0", .str "shelf 1 2 0"]) (by (repeat (first | exact evs_nil | refine evs_cons ?_ ?_ | exact ev_int | exact ev_str | exact ev_varI rfl | exact ev_varS rfl | refine ev_tup ?_ | refine ev_add ?_ ?_ | refine ev_sub ?_ ?_ | refine ev_neg ?_ | exact ev_var rfl (by assumption)))) (show 3 ≤ 1000 by decide)) rfl)
    have e4 : ∀ {σ : L2.St} {H : Hp}, EvC K σ H (tTup (tCons (tLst (tCons (tC (.str "store 0")) (tCons (tC (.str "shelf 1 1 2")) tNil))) (tCons (tTup (tCons (tC (.str "shelf")) (tCons (tC (.int 0)) tNil))) tNil))) (text4, "shelf", 0) := evc (c := (text4, "shelf", 0)) (EvL.of (evl_lst (ds := [.str "store 0", .str "shelf 1 1 2"]) (by (repeat (first | exact evs_nil | refine evs_cons ?_ ?_ | exact ev_int | exact ev_str | exact ev_varI rfl | exact ev_varS rfl | refine ev_tup ?_ | refine ev_add ?_ ?_ | refine ev_sub ?_ ?_ | refine ev_neg ?_ | exact ev_var rfl (by assumption)))) (show 2 ≤ 1000 by decide)) rfl)
    have e5 : ∀ {σ : L2.St} {H : Hp}, EvC K σ H (tTup (tCons (tOp rCat (tLst (tCons (tC (.str "store 0")) (tCons (tC (.str "shelf 1 1 0")) tNil))) (tOp rRep (tLst (tCons (tC (.str "fetch 0 any 0 0 -")) tNil)) (tC (.int 6)))) (tCons (tTup (tCons (tC (.str "wishes")) (tCons (tC (.int 0)) tNil))) tNil))) (text5, "wishes", 0) :=
      evc (c := (text5, "wishes", 0)) (EvL.of (evl_cat (EvL.r (evl_lst (ds := [.str "store 0", .str "shelf 1 1 0"]) (by (repeat (first | exact evs_nil | refine evs_cons ?_ ?_ | exact ev_int | exact ev_str | exact ev_varI rfl | exact ev_varS rfl | refine ev_tup ?_ | refine ev_add ?_ ?_ | refine ev_sub ?_ ?_ | refine ev_neg ?_ | exact ev_var rfl (by assumption)))) (show 2 ≤ 1000 by decide))) (EvL.r (evl_rep (k := 6) (EvL.r (evl_lst (ds := [.str "fetch 0 any 0 0 -"]) (by (repeat (first | exact evs_nil | refine evs_cons ?_ ?_ | exact ev_int | exact ev_str | exact ev_varI rfl | exact ev_varS rfl | refine ev_tup ?_ | refine ev_add ?_ ?_ | refine ev_sub ?_ ?_ | refine ev_neg ?_ | exact ev_var rfl (by assumption)))) (show 1 ≤ 1000 by decide))) ev_int (by decide) (by decide) (show 6 ≤ 1000 by decide))) (show 8 ≤ 1000 by decide)) rfl)
    have e6 : ∀ {σ : L2.St} {H : Hp} {x : Str}, σ[10]? = some (some (.str x)) → EvC K σ H (tTup (tCons (tLst (tCons (tC (.str "store 0")) (tCons (tC (.str "shelf 1 1 0")) (tCons (tC (.str "bring 0 any 0 0 -")) (tCons (tVar 10) tNil))))) (tCons (tTup (tCons (tC (.str "wish")) (tCons (tC (.int 1)) tNil))) tNil))) ([("store 0" : Str), "shelf 1 1 0", "bring 0 any 0 0 -", x], "wish", 1) :=
      fun {σ H x} hx => evc (c := ([("store 0" : Str), "shelf 1 1 0", "bring 0 any 0 0 -", x], "wish", 1)) (EvL.of (evl_lst (ds := [.str "store 0", .str "shelf 1 1 0", .str "bring 0 any 0 0 -", .str x]) (evs_cons ev_str (evs_cons ev_str (evs_cons ev_str (evs_cons (ev_varS hx) evs_nil)))) (show 4 ≤ 1000 by decide)) rfl)
    refine EvCL.set (K := K) (H := H19) (cs := casesL.take 2) ?_ (Same.refl _) fun p1 x1 H20 s20 n20 e20 k20 => ?_
    · exact EvCL.of (evcl_lst (evcs_cons e0 (evcs_cons e1 evcs_nil)) (show 2 ≤ 1000 by decide)) rfl
    have ne : ∀ m : Nat, ∀ c ∈ casesL.take m, c.1 ≠ [] := fun m c hc => by
      obtain ⟨r0, rs, ss, ws, h⟩ := cases_ok c (List.mem_of_mem_take hc)
      intro z
      have e := h.e
      rw [z] at e
      cases e
    refine evc_app (K := K) (c := (text2, "aisle", 0)) e2 rfl e20 k20 (ne 2) (by unfold text2; simp) (show 2 < 900 by decide) fun v2 H21 s21 e21 k21 => ?_
    have n21 : H19 p1 = none := n20
    have sA21 : Same H19 (upd H21 p1 (.lst (x1 ++ [v2]))) := Same.put (s20.trans s21) n20
    have e21' : (upd H21 p1 (.lst (x1 ++ [v2]))) p1 = some (.lst (x1 ++ [v2])) := upd_same
    generalize upd H21 p1 (.lst (x1 ++ [v2])) = H22 at k21 sA21 e21'
    refine evc_app (K := K) (c := (text3, "shelf", 1)) e3 rfl e21' (cs := casesL.take 3) k21 (ne 3) (by unfold text3; simp) (show 3 < 900 by decide) fun v3 H23 s23 e23 k23 => ?_
    have sA23 : Same H19 (upd H23 p1 (.lst (x1 ++ [v2] ++ [v3]))) := Same.put (sA21.trans s23) n20
    have e23' : (upd H23 p1 (.lst (x1 ++ [v2] ++ [v3]))) p1 = some (.lst (x1 ++ [v2] ++ [v3])) := upd_same
    generalize upd H23 p1 (.lst (x1 ++ [v2] ++ [v3])) = H24 at k23 sA23 e23'
    dsimp only
    refine EvCL.set (K := K) (H := H24) (cs := casesL.take 5) ?_ (Same.refl _) fun p2 x2 H25 s25 _ e25 k25 => ?_
    · exact EvCL.of (evcl_cat (cs := casesL.take 4) rfl e23' k23 (evcl_lst (evcs_cons e4 evcs_nil) (show 1 ≤ 1000 by decide)) (show 5 ≤ 1000 by decide)) rfl
    refine EvCL.set (K := K) (H := H25) (cs := casesL.take 6) ?_ (Same.refl _) fun pS xS H26 s26 nS26 e26 k26 => ?_
    · exact EvCL.of (evcl_cat rfl e25 k25 (evcl_lst (evcs_cons e5 evcs_nil) (show 1 ≤ 1000 by decide)) (show 6 ≤ 1000 by decide)) rfl
    have nS : H19 pS = none := (sA23.trans s25).free nS26
    have sA26 := (sA23.trans s25).trans s26
    -- wishes
    refine EvL.set (K := K) (H := H26) (ds := [.str "fetch 1 any 0 0 -", .str "fetch 0 any 2 0 -", .str "bring 0 any 0 4 -", .str "bring 0 left 0 0 2"]) ?_ (Same.refl _) fun pw xw H27 s27 _ e27 d27 => ?_
    · exact evl_lst (by (repeat (first | exact evs_nil | refine evs_cons ?_ ?_ | exact ev_int | exact ev_str | exact ev_varI rfl | exact ev_varS rfl | refine ev_tup ?_ | refine ev_add ?_ ?_ | refine ev_sub ?_ ?_ | refine ev_neg ?_ | exact ev_var rfl (by assumption)))) (show 4 ≤ 1000 by decide)
    have k27 := k26.mono s27
    have e27S := s27 _ _ e26
    have sA27 := sA26.trans s27
    refine ⟨fun σ H' => ∃ (pS : Addr) (vs : List V) (v9 v10 : Option V), σ = [some (.ref a), some (.ref r), some v1, some (.ref pr), some (.ref po), some (.ref ph), some (.int n), some (.ref pl), some (.ref pS), v9, v10, none, none] ∧ Same H19 H' ∧ H19 pS = none ∧ H' pS = some (.lst vs) ∧ Cases K H' vs casesL, ?_, ?_⟩
    · -- for wish_here in wishes + ['fetch 0 any 0 0 1,0']
      let wl : List Str := ["fetch 1 any 0 0 -", "fetch 0 any 2 0 -", "bring 0 any 0 4 -", "bring 0 left 0 0 2", "fetch 0 any 0 0 1,0"]
      have ev : EvL K [some (V.ref a), some (.ref r), some v1, some (.ref pr), some (.ref po), some (.ref ph), some (.int n), some (.ref pl), some (.ref pS), some (.ref pw), none, none, none] H27 (tOp rCat (tVar 9) (tLst (tCons (tC (.str "fetch 0 any 0 0 1,0")) tNil))) (dstrs wl) :=
        EvL.of (evl_cat (evr_var rfl e27 d27) (EvL.r (evl_lst (ds := [.str "fetch 0 any 0 0 1,0"]) (by (repeat (first | exact evs_nil | refine evs_cons ?_ ?_ | exact ev_int | exact ev_str | exact ev_varI rfl | exact ev_varS rfl | refine ev_tup ?_ | refine ev_add ?_ ?_ | refine ev_sub ?_ ?_ | refine ev_neg ?_ | exact ev_var rfl (by assumption)))) (show 1 ≤ 1000 by decide))) (show 5 ≤ 1000 by decide)) rfl
      refine ev H27 _ (Same.refl _) fun p5 x5 H28 s28 n28 e28 d28 => ?_
      obtain rfl := dps_strs d28
      have ne5 : pS ≠ p5 := ne_of_none e27S n28
      refine ⟨p5, rfl, ⟨_, SqL.of e28⟩, for_list (K := K) (a := p5) (xs := wl.map V.str) (fun i σ H' => ∃ (vs : List V) (v10 : Option V), σ = [some (.ref a), some (.ref r), some v1, some (.ref pr), some (.ref po), some (.ref ph), some (.int n), some (.ref pl), some (.ref pS), some (.ref pw), v10, none, none] ∧ Same H19 H' ∧ H' p5 = some (.lst (wl.map V.str)) ∧ H' pS = some (.lst vs) ∧ Cases K H' vs (casesL.take (6 + i)))
        ⟨xS, none, rfl, sA27.trans s28, e28, s28 _ _ e27S, k27.mono s28⟩ (fun i σ H' _ ⟨_, _, _, _, e, _⟩ => SqL.of e) ?_ ?_⟩
      · rintro i y σ H' hy ⟨vs, v10, rfl, sh, e5, eS, ks⟩
        obtain ⟨x, hx, rfl⟩ := str_item hy
        have hi : i < 5 := (List.getElem?_eq_some_iff.mp hx).1
        have hc : casesL[6 + i]? = some ([("store 0" : Str), "shelf 1 1 0", "bring 0 any 0 0 -", x], ("wish" : Str), (1 : Int)) := by
          have : i = 0 ∨ i = 1 ∨ i = 2 ∨ i = 3 ∨ i = 4 := by omega
          rcases this with rfl | rfl | rfl | rfl | rfl <;> (cases hx; rfl)
        refine evc_app (K := K) (c := ([("store 0" : Str), "shelf 1 1 0", "bring 0 any 0 0 -", x], "wish", 1)) (e6 rfl) rfl eS ks (ne _) (by simp) (by rw [List.length_take]; show min _ 11 < 900; omega) fun v H2 s2 eS2 k2 => ?_
        refine ⟨vs ++ [v], _, rfl, Same.put (sh.trans s2) nS, ?_, upd_same, ?_⟩
        · rw [upd_ne (Ne.symm ne5)]
          exact s2 _ _ e5
        · rw [show 6 + (i + 1) = (6 + i) + 1 by omega, take_succ' hc]
          exact k2
      · rintro σ H' ⟨vs, v10, rfl, sh, e5, eS, ks⟩
        exact ⟨pS, vs, _, _, rfl, sh, nS, eS, ks⟩
    rintro σ H30 ⟨pS, vs, v9, v10, rfl, sA, nS, eS, ks⟩
    clear e20 k20 e21 k21 e23 k23 e25 k25 e26 k26 e27 d27 k27 e27S
    -- text_here, due = some[taken(row, 11)]
    have lvs : vs.length = 11 := Paired.length ks
    obtain ⟨R31, _⟩ := row_all R19 sA
    have erow := (R19.pure sA).row
    refine ⟨_, rfl, _, rfl, ⟨r, a, ns⟩, 11, _, rfl, by decide, R31, fun z H31 z0 z1 R32 => ?_⟩
    obtain ⟨v, hv, hv2, _⟩ := atI_mem (xs := vs) z0 (by omega)
    obtain ⟨c, hcm, t0, pa, pb, rfl, ct, ca, cb⟩ : ∃ c, c ∈ casesL ∧ CaseAt K H30 v c := by
      have go : ∀ {xs : List V} {ds : List (List Str × Str × Int)}, Cases K H30 xs ds → ∀ {i : Nat}, xs[i]? = some v → ∃ c, c ∈ ds ∧ CaseAt K H30 v c := by
        intro xs ds h
        induction h with
        | nil => intro i e; simp at e
        | cons a _ ih =>
          intro i e
          cases i with
          | zero =>
            cases e
            exact ⟨_, List.mem_cons_self, a⟩
          | succ i =>
            obtain ⟨c, h1, h2⟩ := ih e
            exact ⟨c, List.mem_cons_of_mem _ h1, h2⟩
      exact go ks hv2
    obtain ⟨n1', n2', er, _⟩ := erow
    have kr : ∀ {b : Addr} {xs : List V}, H30 b = some (.lst xs) → xs ≠ [.ref a, .int n1', .int n2'] → H31 b = some (.lst xs) := fun {b xs} e hne => R32.same _ _ (by
      rw [del1_ne (fun z => by
        rw [z] at e
        exact hne (by rw [er] at e; cases e; rfl))]
      exact e)
    have eS1 : H31 pS = some (.lst vs) := kr eS (fun z => by
      have := congrArg List.length z
      rw [lvs] at this
      simp at this)
    have ct1 := Same.t R32.same (sqt_del er ct)
    have cb1 := Same.t R32.same (sqt_del er cb)
    have ca1 : H31 pa = some (.lst (c.1.map V.str)) := kr ca (fun z => by
      cases hc1 : c.1 with
      | nil => rw [hc1] at z; cases z
      | cons x r => rw [hc1] at z; cases z)
    refine ⟨pS, vs, z, .ref t0, rfl, rfl, SqL.of eS1, hv, t0, _, rfl, ct1, rfl, _, _, rfl, _, _, rfl, rfl, ?_⟩
    obtain ⟨r0, rs, ro, oc⟩ := case_out hcm
    obtain ⟨r02, rs2, ro2, oc2⟩ := case_out2 hcm
    have hok : PyData.strOk c.2.1 = true := (by decide +kernel : ∀ c ∈ casesL, PyData.strOk c.2.1 = true) c hcm
    have lay : Lay 1 (.tuple [.str c.2.1, .int c.2.2]) := (Lays.cons (lay_str hok) (Lays.cons lay_int lays_nil)).tup
    refine ⟨_, rfl, pa, c.1, r0, rs, _, rfl, SqL.of ca1, ro, oc, fun v2 H33 s33 d33 => ?_⟩
    refine ⟨_, rfl, _, .tuple [.str c.2.1, .int c.2.2], d33, .tup (Same.t s33 cb1) (.cons (.str _) (.cons (.int _) .nil)), lay.shaped, lay.shaped, _, rfl, itB lay.refl ?_⟩
    refine ⟨_, rfl, small (by simp), fun p6 np6 => ?_⟩
    have s6 := same_new (o := .lst [V.str "x"]) np6
    refine ⟨pa, p6, _, _, rfl, rfl, s6 _ _ (s33 _ _ ca1), upd_same, small (by have := ro.many; rw [List.length_map]; simp; omega), fun p7 np7 => ?_⟩
    have s7 := s6.trans (same_new (o := .lst (c.1.map V.str ++ [V.str "x"])) np7)
    refine ⟨p7, c.1 ++ [("x" : Str)], r02, rs2, _, rfl, SqL.of (by rw [List.map_append]; exact upd_same), ro2, oc2, fun v3 H34 s34 d34 => ?_⟩
    refine ⟨_, rfl, pa, _, rfl, .inl (SqL.of (s34 _ _ (s7 _ _ (s33 _ _ ca1)))), .int (c.1.length : Nat), .int (c.1.length : Nat), d34, ?_, rfl, rfl, ?_⟩
    · rw [List.length_map]
      exact .int _
    · rw [show PyData.eqv (.int (c.1.length : Nat)) (.int (c.1.length : Nat)) = true from Lay.refl (n := 0) lay_int]
      exact q _
end

theorem wr_tup {K : PySem.W.Frag} {a : Addr} {d : Option Addr} {its : Array Value} {n : Nat} {sl : Array (Option Value)} {xs : List V} (h : K.lookup a = some ⟨.type "tuple", d, .seq its n, sl⟩) (hz : its.size ≤ 1000) (r : Vals xs its.toList) (H : Hp) : SqT K H a xs :=
  .inr ⟨_, its, n, h, rfl, rfl, small hz, r⟩
theorem all_mk {l : PySem.W.OpenLaw} {w : World} {K : PySem.W.Frag} {h : Heap} {mg : Str → Option Value} {fa : Addr} (X : K.In h) (G : h.Ns mainGlobals mg) (hfa : mg "law" = some (.ref fa))
    {C : Addr}
    {cA cB cS cT cR : Addr}
    {nmBadStore qBadStore : Str} {NBadStore : Addr} {bsBadStore : List Value} {snBadStore : List Str} {sbBadStore : List Value} {abBadStore : Bool} {coBadStore : Option Bool} {ddBadStore : Option Addr} {m0BadStore m1BadStore m2BadStore m3BadStore m5BadStore : Option Value}
    {nmBadText qBadText : Str} {NBadText : Addr} {bsBadText : List Value} {snBadText : List Str} {sbBadText : List Value} {abBadText : Bool} {coBadText : Option Bool} {ddBadText : Option Addr} {m0BadText m1BadText m2BadText m3BadText m5BadText : Option Value}
    {f_BadStore___init__ : Addr} {od_BadStore___init__ an_BadStore___init__ : Option Addr} {sl_BadStore___init__ : Array (Option Value)} {oc_BadStore___init__ kV_BadStore___init__ dc_BadStore___init__ pm_BadStore___init__ cd_BadStore___init__ ct_BadStore___init__ : Value}
    {f_BadText___init__ : Addr} {od_BadText___init__ an_BadText___init__ : Option Addr} {sl_BadText___init__ : Array (Option Value)} {oc_BadText___init__ kV_BadText___init__ dc_BadText___init__ pm_BadText___init__ cd_BadText___init__ ct_BadText___init__ : Value}
    {f_Store___init__ : Addr} {od_Store___init__ an_Store___init__ : Option Addr} {sl_Store___init__ : Array (Option Value)} {oc_Store___init__ kV_Store___init__ dc_Store___init__ pm_Store___init__ cd_Store___init__ ct_Store___init__ : Value}
    {f_Store_shelves : Addr} {od_Store_shelves an_Store_shelves : Option Addr} {sl_Store_shelves : Array (Option Value)} {oc_Store_shelves kV_Store_shelves dc_Store_shelves pm_Store_shelves cd_Store_shelves ct_Store_shelves : Value}
    {f_Store_wishes : Addr} {od_Store_wishes an_Store_wishes : Option Addr} {sl_Store_wishes : Array (Option Value)} {oc_Store_wishes kV_Store_wishes dc_Store_wishes pm_Store_wishes cd_Store_wishes ct_Store_wishes : Value}
    {f__refuse_no_store : Addr} {od__refuse_no_store an__refuse_no_store : Option Addr} {sl__refuse_no_store : Array (Option Value)} {oc__refuse_no_store kV__refuse_no_store dc__refuse_no_store pm__refuse_no_store cd__refuse_no_store ct__refuse_no_store : Value}
    {f__is_shelf : Addr} {od__is_shelf an__is_shelf : Option Addr} {sl__is_shelf : Array (Option Value)} {oc__is_shelf kV__is_shelf dc__is_shelf pm__is_shelf cd__is_shelf ct__is_shelf : Value}
    {f__is_wish : Addr} {od__is_wish an__is_wish : Option Addr} {sl__is_wish : Array (Option Value)} {oc__is_wish kV__is_wish dc__is_wish pm__is_wish cd__is_wish ct__is_wish : Value}
    {f__is_rising : Addr} {od__is_rising an__is_rising : Option Addr} {sl__is_rising : Array (Option Value)} {oc__is_rising kV__is_rising dc__is_rising pm__is_rising cd__is_rising ct__is_rising : Value}
    {f_read : Addr} {od_read an_read : Option Addr} {sl_read : Array (Option Value)} {oc_read kV_read dc_read pm_read cd_read ct_read : Value}
    {f__is_store_row : Addr} {od__is_store_row an__is_store_row : Option Addr} {sl__is_store_row : Array (Option Value)} {oc__is_store_row kV__is_store_row dc__is_store_row pm__is_store_row cd__is_store_row ct__is_store_row : Value}
    {f__is_shelf_row : Addr} {od__is_shelf_row an__is_shelf_row : Option Addr} {sl__is_shelf_row : Array (Option Value)} {oc__is_shelf_row kV__is_shelf_row dc__is_shelf_row pm__is_shelf_row cd__is_shelf_row ct__is_shelf_row : Value}
    {f__is_wish_row : Addr} {od__is_wish_row an__is_wish_row : Option Addr} {sl__is_wish_row : Array (Option Value)} {oc__is_wish_row kV__is_wish_row dc__is_wish_row pm__is_wish_row cd__is_wish_row ct__is_wish_row : Value}
    {f__are_figures : Addr} {od__are_figures an__are_figures : Option Addr} {sl__are_figures : Array (Option Value)} {oc__are_figures kV__are_figures dc__are_figures pm__are_figures cd__are_figures ct__are_figures : Value}
    {f__shelf : Addr} {od__shelf an__shelf : Option Addr} {sl__shelf : Array (Option Value)} {oc__shelf kV__shelf dc__shelf pm__shelf cd__shelf ct__shelf : Value}
    {f__wish : Addr} {od__wish an__wish : Option Addr} {sl__wish : Array (Option Value)} {oc__wish kV__wish dc__wish pm__wish cd__wish ct__wish : Value}
    {f__after_read : Addr} {od__after_read an__after_read : Option Addr} {sl__after_read : Array (Option Value)} {oc__after_read kV__after_read dc__after_read pm__after_read cd__after_read ct__after_read : Value}
    {f__law_taken : Addr} {od__law_taken an__law_taken : Option Addr} {sl__law_taken : Array (Option Value)} {oc__law_taken kV__law_taken dc__law_taken pm__law_taken cd__law_taken ct__law_taken : Value}
    {f__law_wish : Addr} {od__law_wish an__law_wish : Option Addr} {sl__law_wish : Array (Option Value)} {oc__law_wish kV__law_wish dc__law_wish pm__law_wish cd__law_wish ct__law_wish : Value}
    {f__law_store : Addr} {od__law_store an__law_store : Option Addr} {sl__law_store : Array (Option Value)} {oc__law_store kV__law_store dc__law_store pm__law_store cd__law_store ct__law_store : Value}
    {f__law_text : Addr} {od__law_text an__law_text : Option Addr} {sl__law_text : Array (Option Value)} {oc__law_text kV__law_text dc__law_text pm__law_text cd__law_text ct__law_text : Value}
    {f__law_refused : Addr} {od__law_refused an__law_refused : Option Addr} {sl__law_refused : Array (Option Value)} {oc__law_refused kV__law_refused dc__law_refused pm__law_refused cd__law_refused ct__law_refused : Value}
    {f_law : Addr} {od_law an_law : Option Addr} {sl_law : Array (Option Value)} {oc_law kV_law dc_law pm_law cd_law ct_law : Value}
    {t_MOST_SHELVES : Tok}
    {t_MOST_ROOM : Tok}
    {t_MOST_WISHES : Tok}
    {t_MOST_KEEP : Tok}
    {tKINDS0 : Tok}
    {tKINDS1 : Tok}
    {a_KINDS : Addr} {d_KINDS : Option Addr} {n_KINDS : Nat} {sl_KINDS : Array (Option Value)}
    {tSIDES0 : Tok}
    {tSIDES1 : Tok}
    {tSIDES2 : Tok}
    {a_SIDES : Addr} {d_SIDES : Option Addr} {n_SIDES : Nat} {sl_SIDES : Array (Option Value)}
    {tFIGURES0 : Tok}
    {tFIGURES1 : Tok}
    {tFIGURES2 : Tok}
    {tFIGURES3 : Tok}
    {tFIGURES4 : Tok}
    {tFIGURES5 : Tok}
    {tFIGURES6 : Tok}
    {tFIGURES7 : Tok}
    {tFIGURES8 : Tok}
    {tFIGURES9 : Tok}
    {a_FIGURES : Addr} {d_FIGURES : Option Addr} {n_FIGURES : Nat} {sl_FIGURES : Array (Option Value)}
    (aC : PySem.W.nsIn K mainGlobals "Store" = some (some (.ref C)))
    (g_AisleError : PySem.W.nsIn K mainGlobals "AisleError" = some (some (.ref cA)))
    (kp_AisleError : PySem.W.keepIn K (.ref cA) = true)
    (ex_AisleError : PySem.W.subIn K (.ref cA) (.type "BaseException") = some true)
    (ty_AisleError : PySem.W.typeIn K (.ref cA) = some (.type "type"))
    (is_AisleError : PySem.W.isClsIn K cA = true)
    (g_BadStore : PySem.W.nsIn K mainGlobals "BadStore" = some (some (.ref cB)))
    (kp_BadStore : PySem.W.keepIn K (.ref cB) = true)
    (ex_BadStore : PySem.W.subIn K (.ref cB) (.type "BaseException") = some true)
    (ty_BadStore : PySem.W.typeIn K (.ref cB) = some (.type "type"))
    (is_BadStore : PySem.W.isClsIn K cB = true)
    (g_BadStep : PySem.W.nsIn K mainGlobals "BadStep" = some (some (.ref cS)))
    (kp_BadStep : PySem.W.keepIn K (.ref cS) = true)
    (ex_BadStep : PySem.W.subIn K (.ref cS) (.type "BaseException") = some true)
    (ty_BadStep : PySem.W.typeIn K (.ref cS) = some (.type "type"))
    (is_BadStep : PySem.W.isClsIn K cS = true)
    (g_BadText : PySem.W.nsIn K mainGlobals "BadText" = some (some (.ref cT)))
    (kp_BadText : PySem.W.keepIn K (.ref cT) = true)
    (ex_BadText : PySem.W.subIn K (.ref cT) (.type "BaseException") = some true)
    (ty_BadText : PySem.W.typeIn K (.ref cT) = some (.type "type"))
    (is_BadText : PySem.W.isClsIn K cT = true)
    (g_Barred : PySem.W.nsIn K mainGlobals "Barred" = some (some (.ref cR)))
    (kp_Barred : PySem.W.keepIn K (.ref cR) = true)
    (ex_Barred : PySem.W.subIn K (.ref cR) (.type "BaseException") = some true)
    (ty_Barred : PySem.W.typeIn K (.ref cR) = some (.type "type"))
    (is_Barred : PySem.W.isClsIn K cR = true)
    (subBA : PySem.W.subIn K (.ref cB) (.ref cA) = some true)
    (subBB : PySem.W.subIn K (.ref cB) (.ref cB) = some true)
    (subBS : PySem.W.subIn K (.ref cB) (.ref cS) = some false)
    (subBT : PySem.W.subIn K (.ref cB) (.ref cT) = some false)
    (subBR : PySem.W.subIn K (.ref cB) (.ref cR) = some false)
    (subBV : PySem.W.subIn K (.ref cB) (.type "ValueError") = some true)
    (subTA : PySem.W.subIn K (.ref cT) (.ref cA) = some true)
    (subTB : PySem.W.subIn K (.ref cT) (.ref cB) = some false)
    (subTS : PySem.W.subIn K (.ref cT) (.ref cS) = some false)
    (subTT : PySem.W.subIn K (.ref cT) (.ref cT) = some true)
    (subTR : PySem.W.subIn K (.ref cT) (.ref cR) = some false)
    (subTV : PySem.W.subIn K (.ref cT) (.type "ValueError") = some true)
    (xsp : PySem.W.specialIn K (.builtin "object.__class__") "__get__" = some (some (.builtin "getset_descriptor.__get__")))
    (xtk : PySem.W.takesIn K (.builtin "object.__class__") = some true)
    (xLBadStore : K.lookup cB = some (excClassObj nmBadStore qBadStore cB NBadStore bsBadStore [.ref cA, .type "ValueError", .type "Exception", .type "BaseException", .type "object"] true snBadStore sbBadStore abBadStore coBadStore ddBadStore m0BadStore m1BadStore m2BadStore m3BadStore m5BadStore "ValueError.__new__"))
    (xsBadStore : PySem.W.findIn K (.ref cB) "__setattr__" = some (some (.builtin "object.__setattr__")))
    (xgBadStore : PySem.W.findIn K (.ref cB) "__getattribute__" = some (some (.builtin "BaseException.__getattribute__")))
    (xkBadStore : PySem.W.findIn K (.ref cB) "__getattr__" = some none)
    (xdBadStore : PySem.W.hasDictIn K cB = true)
    (xcBadStore : PySem.W.findIn K (.ref cB) "__class__" = some (some (.builtin "object.__class__")))
    (xmBadStore : PySem.W.mroIn K cB (.type "object") = some true)
    (xn0BadStore : PySem.W.findIn K (.ref cB) "word" = some none)
    (xn1BadStore : PySem.W.findIn K (.ref cB) "number" = some none)
    (xLBadText : K.lookup cT = some (excClassObj nmBadText qBadText cT NBadText bsBadText [.ref cA, .type "ValueError", .type "Exception", .type "BaseException", .type "object"] true snBadText sbBadText abBadText coBadText ddBadText m0BadText m1BadText m2BadText m3BadText m5BadText "ValueError.__new__"))
    (xsBadText : PySem.W.findIn K (.ref cT) "__setattr__" = some (some (.builtin "object.__setattr__")))
    (xgBadText : PySem.W.findIn K (.ref cT) "__getattribute__" = some (some (.builtin "BaseException.__getattribute__")))
    (xkBadText : PySem.W.findIn K (.ref cT) "__getattr__" = some none)
    (xdBadText : PySem.W.hasDictIn K cT = true)
    (xcBadText : PySem.W.findIn K (.ref cT) "__class__" = some (some (.builtin "object.__class__")))
    (xmBadText : PySem.W.mroIn K cT (.type "object") = some true)
    (xn0BadText : PySem.W.findIn K (.ref cT) "row" = some none)
    (a_BadStore___init__ : PySem.W.findIn K (.ref cB) "__init__" = some (some (.ref f_BadStore___init__)))
    (i_BadStore___init__ : PySem.W.typeIn K (.ref f_BadStore___init__) = some (.type "function"))
    (l_BadStore___init__ : K.lookup f_BadStore___init__ = some ⟨oc_BadStore___init__, od_BadStore___init__, .func (PySem.W.fnOf "__init__" "BadStore.__init__" (defArgs s_BadStore___init__) (defBody s_BadStore___init__) (defScope s_BadStore___init__) .none kV_BadStore___init__ dc_BadStore___init__ pm_BadStore___init__ an_BadStore___init__ cd_BadStore___init__ ct_BadStore___init__), sl_BadStore___init__⟩)
    (c_BadStore___init__ : PySem.W.codeIn K cd_BadStore___init__ "BadStore.__init__" = true)
    (k_BadStore___init__ : PySem.W.keepIn K (.ref f_BadStore___init__) = true)
    (a_BadText___init__ : PySem.W.findIn K (.ref cT) "__init__" = some (some (.ref f_BadText___init__)))
    (i_BadText___init__ : PySem.W.typeIn K (.ref f_BadText___init__) = some (.type "function"))
    (l_BadText___init__ : K.lookup f_BadText___init__ = some ⟨oc_BadText___init__, od_BadText___init__, .func (PySem.W.fnOf "__init__" "BadText.__init__" (defArgs s_BadText___init__) (defBody s_BadText___init__) (defScope s_BadText___init__) .none kV_BadText___init__ dc_BadText___init__ pm_BadText___init__ an_BadText___init__ cd_BadText___init__ ct_BadText___init__), sl_BadText___init__⟩)
    (c_BadText___init__ : PySem.W.codeIn K cd_BadText___init__ "BadText.__init__" = true)
    (k_BadText___init__ : PySem.W.keepIn K (.ref f_BadText___init__) = true)
    (a_Store___init__ : PySem.W.findIn K (.ref C) "__init__" = some (some (.ref f_Store___init__)))
    (i_Store___init__ : PySem.W.isFn K (.ref f_Store___init__) = true)
    (l_Store___init__ : K.lookup f_Store___init__ = some ⟨oc_Store___init__, od_Store___init__, .func (PySem.W.fnOf "__init__" "Store.__init__" (defArgs s_Store___init__) (defBody s_Store___init__) (defScope s_Store___init__) .none kV_Store___init__ dc_Store___init__ pm_Store___init__ an_Store___init__ cd_Store___init__ ct_Store___init__), sl_Store___init__⟩)
    (c_Store___init__ : PySem.W.codeIn K cd_Store___init__ "Store.__init__" = true)
    (k_Store___init__ : PySem.W.keepIn K (.ref f_Store___init__) = true)
    (a_Store_shelves : PySem.W.findIn K (.ref C) "shelves" = some (some (.ref f_Store_shelves)))
    (i_Store_shelves : PySem.W.isFn K (.ref f_Store_shelves) = true)
    (l_Store_shelves : K.lookup f_Store_shelves = some ⟨oc_Store_shelves, od_Store_shelves, .func (PySem.W.fnOf "shelves" "Store.shelves" (defArgs s_Store_shelves) (defBody s_Store_shelves) (defScope s_Store_shelves) .none kV_Store_shelves dc_Store_shelves pm_Store_shelves an_Store_shelves cd_Store_shelves ct_Store_shelves), sl_Store_shelves⟩)
    (c_Store_shelves : PySem.W.codeIn K cd_Store_shelves "Store.shelves" = true)
    (k_Store_shelves : PySem.W.keepIn K (.ref f_Store_shelves) = true)
    (a_Store_wishes : PySem.W.findIn K (.ref C) "wishes" = some (some (.ref f_Store_wishes)))
    (i_Store_wishes : PySem.W.isFn K (.ref f_Store_wishes) = true)
    (l_Store_wishes : K.lookup f_Store_wishes = some ⟨oc_Store_wishes, od_Store_wishes, .func (PySem.W.fnOf "wishes" "Store.wishes" (defArgs s_Store_wishes) (defBody s_Store_wishes) (defScope s_Store_wishes) .none kV_Store_wishes dc_Store_wishes pm_Store_wishes an_Store_wishes cd_Store_wishes ct_Store_wishes), sl_Store_wishes⟩)
    (c_Store_wishes : PySem.W.codeIn K cd_Store_wishes "Store.wishes" = true)
    (k_Store_wishes : PySem.W.keepIn K (.ref f_Store_wishes) = true)
    (a__refuse_no_store : PySem.W.nsIn K mainGlobals "_refuse_no_store" = some (some (.ref f__refuse_no_store)))
    (l__refuse_no_store : K.lookup f__refuse_no_store = some ⟨oc__refuse_no_store, od__refuse_no_store, .func (PySem.W.fnOf "_refuse_no_store" "_refuse_no_store" (defArgs s__refuse_no_store) (defBody s__refuse_no_store) (defScope s__refuse_no_store) .none kV__refuse_no_store dc__refuse_no_store pm__refuse_no_store an__refuse_no_store cd__refuse_no_store ct__refuse_no_store), sl__refuse_no_store⟩)
    (c__refuse_no_store : PySem.W.codeIn K cd__refuse_no_store "_refuse_no_store" = true)
    (k__refuse_no_store : PySem.W.keepIn K (.ref f__refuse_no_store) = true)
    (a__is_shelf : PySem.W.nsIn K mainGlobals "_is_shelf" = some (some (.ref f__is_shelf)))
    (l__is_shelf : K.lookup f__is_shelf = some ⟨oc__is_shelf, od__is_shelf, .func (PySem.W.fnOf "_is_shelf" "_is_shelf" (defArgs s__is_shelf) (defBody s__is_shelf) (defScope s__is_shelf) .none kV__is_shelf dc__is_shelf pm__is_shelf an__is_shelf cd__is_shelf ct__is_shelf), sl__is_shelf⟩)
    (c__is_shelf : PySem.W.codeIn K cd__is_shelf "_is_shelf" = true)
    (k__is_shelf : PySem.W.keepIn K (.ref f__is_shelf) = true)
    (a__is_wish : PySem.W.nsIn K mainGlobals "_is_wish" = some (some (.ref f__is_wish)))
    (l__is_wish : K.lookup f__is_wish = some ⟨oc__is_wish, od__is_wish, .func (PySem.W.fnOf "_is_wish" "_is_wish" (defArgs s__is_wish) (defBody s__is_wish) (defScope s__is_wish) .none kV__is_wish dc__is_wish pm__is_wish an__is_wish cd__is_wish ct__is_wish), sl__is_wish⟩)
    (c__is_wish : PySem.W.codeIn K cd__is_wish "_is_wish" = true)
    (k__is_wish : PySem.W.keepIn K (.ref f__is_wish) = true)
    (a__is_rising : PySem.W.nsIn K mainGlobals "_is_rising" = some (some (.ref f__is_rising)))
    (l__is_rising : K.lookup f__is_rising = some ⟨oc__is_rising, od__is_rising, .func (PySem.W.fnOf "_is_rising" "_is_rising" (defArgs s__is_rising) (defBody s__is_rising) (defScope s__is_rising) .none kV__is_rising dc__is_rising pm__is_rising an__is_rising cd__is_rising ct__is_rising), sl__is_rising⟩)
    (c__is_rising : PySem.W.codeIn K cd__is_rising "_is_rising" = true)
    (k__is_rising : PySem.W.keepIn K (.ref f__is_rising) = true)
    (a_read : PySem.W.nsIn K mainGlobals "read" = some (some (.ref f_read)))
    (l_read : K.lookup f_read = some ⟨oc_read, od_read, .func (PySem.W.fnOf "read" "read" (defArgs s_read) (defBody s_read) (defScope s_read) .none kV_read dc_read pm_read an_read cd_read ct_read), sl_read⟩)
    (c_read : PySem.W.codeIn K cd_read "read" = true)
    (k_read : PySem.W.keepIn K (.ref f_read) = true)
    (a__is_store_row : PySem.W.nsIn K mainGlobals "_is_store_row" = some (some (.ref f__is_store_row)))
    (l__is_store_row : K.lookup f__is_store_row = some ⟨oc__is_store_row, od__is_store_row, .func (PySem.W.fnOf "_is_store_row" "_is_store_row" (defArgs s__is_store_row) (defBody s__is_store_row) (defScope s__is_store_row) .none kV__is_store_row dc__is_store_row pm__is_store_row an__is_store_row cd__is_store_row ct__is_store_row), sl__is_store_row⟩)
    (c__is_store_row : PySem.W.codeIn K cd__is_store_row "_is_store_row" = true)
    (k__is_store_row : PySem.W.keepIn K (.ref f__is_store_row) = true)
    (a__is_shelf_row : PySem.W.nsIn K mainGlobals "_is_shelf_row" = some (some (.ref f__is_shelf_row)))
    (l__is_shelf_row : K.lookup f__is_shelf_row = some ⟨oc__is_shelf_row, od__is_shelf_row, .func (PySem.W.fnOf "_is_shelf_row" "_is_shelf_row" (defArgs s__is_shelf_row) (defBody s__is_shelf_row) (defScope s__is_shelf_row) .none kV__is_shelf_row dc__is_shelf_row pm__is_shelf_row an__is_shelf_row cd__is_shelf_row ct__is_shelf_row), sl__is_shelf_row⟩)
    (c__is_shelf_row : PySem.W.codeIn K cd__is_shelf_row "_is_shelf_row" = true)
    (k__is_shelf_row : PySem.W.keepIn K (.ref f__is_shelf_row) = true)
    (a__is_wish_row : PySem.W.nsIn K mainGlobals "_is_wish_row" = some (some (.ref f__is_wish_row)))
    (l__is_wish_row : K.lookup f__is_wish_row = some ⟨oc__is_wish_row, od__is_wish_row, .func (PySem.W.fnOf "_is_wish_row" "_is_wish_row" (defArgs s__is_wish_row) (defBody s__is_wish_row) (defScope s__is_wish_row) .none kV__is_wish_row dc__is_wish_row pm__is_wish_row an__is_wish_row cd__is_wish_row ct__is_wish_row), sl__is_wish_row⟩)
    (c__is_wish_row : PySem.W.codeIn K cd__is_wish_row "_is_wish_row" = true)
    (k__is_wish_row : PySem.W.keepIn K (.ref f__is_wish_row) = true)
    (a__are_figures : PySem.W.nsIn K mainGlobals "_are_figures" = some (some (.ref f__are_figures)))
    (l__are_figures : K.lookup f__are_figures = some ⟨oc__are_figures, od__are_figures, .func (PySem.W.fnOf "_are_figures" "_are_figures" (defArgs s__are_figures) (defBody s__are_figures) (defScope s__are_figures) .none kV__are_figures dc__are_figures pm__are_figures an__are_figures cd__are_figures ct__are_figures), sl__are_figures⟩)
    (c__are_figures : PySem.W.codeIn K cd__are_figures "_are_figures" = true)
    (k__are_figures : PySem.W.keepIn K (.ref f__are_figures) = true)
    (a__shelf : PySem.W.nsIn K mainGlobals "_shelf" = some (some (.ref f__shelf)))
    (l__shelf : K.lookup f__shelf = some ⟨oc__shelf, od__shelf, .func (PySem.W.fnOf "_shelf" "_shelf" (defArgs s__shelf) (defBody s__shelf) (defScope s__shelf) .none kV__shelf dc__shelf pm__shelf an__shelf cd__shelf ct__shelf), sl__shelf⟩)
    (c__shelf : PySem.W.codeIn K cd__shelf "_shelf" = true)
    (k__shelf : PySem.W.keepIn K (.ref f__shelf) = true)
    (a__wish : PySem.W.nsIn K mainGlobals "_wish" = some (some (.ref f__wish)))
    (l__wish : K.lookup f__wish = some ⟨oc__wish, od__wish, .func (PySem.W.fnOf "_wish" "_wish" (defArgs s__wish) (defBody s__wish) (defScope s__wish) .none kV__wish dc__wish pm__wish an__wish cd__wish ct__wish), sl__wish⟩)
    (c__wish : PySem.W.codeIn K cd__wish "_wish" = true)
    (k__wish : PySem.W.keepIn K (.ref f__wish) = true)
    (a__after_read : PySem.W.nsIn K mainGlobals "_after_read" = some (some (.ref f__after_read)))
    (l__after_read : K.lookup f__after_read = some ⟨oc__after_read, od__after_read, .func (PySem.W.fnOf "_after_read" "_after_read" (defArgs s__after_read) (defBody s__after_read) (defScope s__after_read) .none kV__after_read dc__after_read pm__after_read an__after_read cd__after_read ct__after_read), sl__after_read⟩)
    (c__after_read : PySem.W.codeIn K cd__after_read "_after_read" = true)
    (k__after_read : PySem.W.keepIn K (.ref f__after_read) = true)
    (a__law_taken : PySem.W.nsIn K mainGlobals "_law_taken" = some (some (.ref f__law_taken)))
    (l__law_taken : K.lookup f__law_taken = some ⟨oc__law_taken, od__law_taken, .func (PySem.W.fnOf "_law_taken" "_law_taken" (defArgs s__law_taken) (defBody s__law_taken) (defScope s__law_taken) .none kV__law_taken dc__law_taken pm__law_taken an__law_taken cd__law_taken ct__law_taken), sl__law_taken⟩)
    (c__law_taken : PySem.W.codeIn K cd__law_taken "_law_taken" = true)
    (k__law_taken : PySem.W.keepIn K (.ref f__law_taken) = true)
    (a__law_wish : PySem.W.nsIn K mainGlobals "_law_wish" = some (some (.ref f__law_wish)))
    (l__law_wish : K.lookup f__law_wish = some ⟨oc__law_wish, od__law_wish, .func (PySem.W.fnOf "_law_wish" "_law_wish" (defArgs s__law_wish) (defBody s__law_wish) (defScope s__law_wish) .none kV__law_wish dc__law_wish pm__law_wish an__law_wish cd__law_wish ct__law_wish), sl__law_wish⟩)
    (c__law_wish : PySem.W.codeIn K cd__law_wish "_law_wish" = true)
    (k__law_wish : PySem.W.keepIn K (.ref f__law_wish) = true)
    (a__law_store : PySem.W.nsIn K mainGlobals "_law_store" = some (some (.ref f__law_store)))
    (l__law_store : K.lookup f__law_store = some ⟨oc__law_store, od__law_store, .func (PySem.W.fnOf "_law_store" "_law_store" (defArgs s__law_store) (defBody s__law_store) (defScope s__law_store) .none kV__law_store dc__law_store pm__law_store an__law_store cd__law_store ct__law_store), sl__law_store⟩)
    (c__law_store : PySem.W.codeIn K cd__law_store "_law_store" = true)
    (k__law_store : PySem.W.keepIn K (.ref f__law_store) = true)
    (a__law_text : PySem.W.nsIn K mainGlobals "_law_text" = some (some (.ref f__law_text)))
    (l__law_text : K.lookup f__law_text = some ⟨oc__law_text, od__law_text, .func (PySem.W.fnOf "_law_text" "_law_text" (defArgs s__law_text) (defBody s__law_text) (defScope s__law_text) .none kV__law_text dc__law_text pm__law_text an__law_text cd__law_text ct__law_text), sl__law_text⟩)
    (c__law_text : PySem.W.codeIn K cd__law_text "_law_text" = true)
    (k__law_text : PySem.W.keepIn K (.ref f__law_text) = true)
    (a__law_refused : PySem.W.nsIn K mainGlobals "_law_refused" = some (some (.ref f__law_refused)))
    (l__law_refused : K.lookup f__law_refused = some ⟨oc__law_refused, od__law_refused, .func (PySem.W.fnOf "_law_refused" "_law_refused" (defArgs s__law_refused) (defBody s__law_refused) (defScope s__law_refused) .none kV__law_refused dc__law_refused pm__law_refused an__law_refused cd__law_refused ct__law_refused), sl__law_refused⟩)
    (c__law_refused : PySem.W.codeIn K cd__law_refused "_law_refused" = true)
    (k__law_refused : PySem.W.keepIn K (.ref f__law_refused) = true)
    (a_law : PySem.W.nsIn K mainGlobals "law" = some (some (.ref f_law)))
    (l_law : K.lookup f_law = some ⟨oc_law, od_law, .func (PySem.W.fnOf "law" "law" (defArgs s_law) (defBody s_law) (defScope s_law) .none kV_law dc_law pm_law an_law cd_law ct_law), sl_law⟩)
    (c_law : PySem.W.codeIn K cd_law "law" = true)
    (k_law : PySem.W.keepIn K (.ref f_law) = true)
    (pgC : PySem.W.plainGet K C Str.empty = true)
    (hdC : PySem.W.hasDictIn K C = true)
    (poC : PySem.W.plainOver K C = true)
    (saC : PySem.W.findIn K (.ref C) "__setattr__" = some (some (.builtin "object.__setattr__")))
    (mkC : PySem.W.makesIn K C = true)
    (kcC : PySem.W.keepIn K (.ref C) = true)
    (nS : PySem.W.findIn K (.ref C) "_shelves" = some none)
    (nW : PySem.W.findIn K (.ref C) "_wishes" = some none)
    (nA : PySem.W.findIn K (.ref C) "aisle" = some none)
    (z_len : PySem.W.nsIn K mainGlobals "len" = some none)
    (z_list : PySem.W.nsIn K mainGlobals "list" = some none)
    (z_tuple : PySem.W.nsIn K mainGlobals "tuple" = some none)
    (z_sorted : PySem.W.nsIn K mainGlobals "sorted" = some none)
    (z_sum : PySem.W.nsIn K mainGlobals "sum" = some none)
    (z_all : PySem.W.nsIn K mainGlobals "all" = some none)
    (z_str : PySem.W.nsIn K mainGlobals "str" = some none)
    (z_min : PySem.W.nsIn K mainGlobals "min" = some none)
    (z_max : PySem.W.nsIn K mainGlobals "max" = some none)
    (z_int : PySem.W.nsIn K mainGlobals "int" = some none)
    (z_range : PySem.W.nsIn K mainGlobals "range" = some none)
    (z_enumerate : PySem.W.nsIn K mainGlobals "enumerate" = some none)
    (z_isinstance : PySem.W.nsIn K mainGlobals "isinstance" = some none)
    (z_ValueError : PySem.W.nsIn K mainGlobals "ValueError" = some none)
    (c_MOST_SHELVES : PySem.W.nsIn K mainGlobals "MOST_SHELVES" = some (some (.int 5 t_MOST_SHELVES)))
    (c_MOST_ROOM : PySem.W.nsIn K mainGlobals "MOST_ROOM" = some (some (.int 9 t_MOST_ROOM)))
    (c_MOST_WISHES : PySem.W.nsIn K mainGlobals "MOST_WISHES" = some (some (.int 5 t_MOST_WISHES)))
    (c_MOST_KEEP : PySem.W.nsIn K mainGlobals "MOST_KEEP" = some (some (.int 3 t_MOST_KEEP)))
    (g_KINDS : PySem.W.nsIn K mainGlobals "KINDS" = some (some (.ref a_KINDS)))
    (l_KINDS : K.lookup a_KINDS = some ⟨.type "tuple", d_KINDS, .seq #[.str "fetch" tKINDS0, .str "bring" tKINDS1] n_KINDS, sl_KINDS⟩)
    (g_SIDES : PySem.W.nsIn K mainGlobals "SIDES" = some (some (.ref a_SIDES)))
    (l_SIDES : K.lookup a_SIDES = some ⟨.type "tuple", d_SIDES, .seq #[.str "left" tSIDES0, .str "right" tSIDES1, .str "any" tSIDES2] n_SIDES, sl_SIDES⟩)
    (g_FIGURES : PySem.W.nsIn K mainGlobals "FIGURES" = some (some (.ref a_FIGURES)))
    (l_FIGURES : K.lookup a_FIGURES = some ⟨.type "tuple", d_FIGURES, .seq #[.str "0" tFIGURES0, .str "1" tFIGURES1, .str "2" tFIGURES2, .str "3" tFIGURES3, .str "4" tFIGURES4, .str "5" tFIGURES5, .str "6" tFIGURES6, .str "7" tFIGURES7, .str "8" tFIGURES8, .str "9" tFIGURES9] n_FIGURES, sl_FIGURES⟩)
    : ∃ fd : FuncData, (∀ (s : Shared) (v : Value), BindsTo s fd ⟨[v], []⟩ [("_law_script", v)]) ∧ ∀ base : Heap, K.In base → base.Ns mainGlobals mg → FnOk l.prog w K mg base CX0 8 fa fd ["_law_script"] (spLaw K) := by
  have e := hfa.symm.trans (PySem.W.mg_of X G a_law)
  cases e
  have F_BadStore___init__ := fun_mk (st := s_BadStore___init__) l_BadStore___init__ c_BadStore___init__ k_BadStore___init__
  have b_BadStore___init__ := F_BadStore___init__.binds (ps := ["self", "word", "number"]) fun _ _ _ _ _ _ us hl => match us, hl with | [_, _, _], _ => rfl
  have F_BadText___init__ := fun_mk (st := s_BadText___init__) l_BadText___init__ c_BadText___init__ k_BadText___init__
  have b_BadText___init__ := F_BadText___init__.binds (ps := ["self", "row"]) fun _ _ _ _ _ _ us hl => match us, hl with | [_, _], _ => rfl
  have F_Store___init__ := fun_mk (st := s_Store___init__) l_Store___init__ c_Store___init__ k_Store___init__
  have b_Store___init__ := F_Store___init__.binds (ps := ["self", "shelves", "aisle", "wishes"]) fun _ _ _ _ _ _ us hl => match us, hl with | [_, _, _, _], _ => rfl
  have F_Store_shelves := fun_mk (st := s_Store_shelves) l_Store_shelves c_Store_shelves k_Store_shelves
  have b_Store_shelves := F_Store_shelves.binds (ps := ["self"]) fun _ _ _ _ _ _ us hl => match us, hl with | [_], _ => rfl
  have F_Store_wishes := fun_mk (st := s_Store_wishes) l_Store_wishes c_Store_wishes k_Store_wishes
  have b_Store_wishes := F_Store_wishes.binds (ps := ["self"]) fun _ _ _ _ _ _ us hl => match us, hl with | [_], _ => rfl
  have F__refuse_no_store := fun_mk (st := s__refuse_no_store) l__refuse_no_store c__refuse_no_store k__refuse_no_store
  have b__refuse_no_store := F__refuse_no_store.binds (ps := ["shelves", "aisle", "wishes"]) fun _ _ _ _ _ _ us hl => match us, hl with | [_, _, _], _ => rfl
  have D__refuse_no_store : Dfs K mg "_refuse_no_store" s__refuse_no_store ["shelves", "aisle", "wishes"] _ _ := ⟨F__refuse_no_store, PySem.W.mg_of X G a__refuse_no_store, b__refuse_no_store⟩
  have F__is_shelf := fun_mk (st := s__is_shelf) l__is_shelf c__is_shelf k__is_shelf
  have b__is_shelf := F__is_shelf.binds (ps := ["shelf"]) fun _ _ _ _ _ _ us hl => match us, hl with | [_], _ => rfl
  have D__is_shelf : Dfs K mg "_is_shelf" s__is_shelf ["shelf"] _ _ := ⟨F__is_shelf, PySem.W.mg_of X G a__is_shelf, b__is_shelf⟩
  have F__is_wish := fun_mk (st := s__is_wish) l__is_wish c__is_wish k__is_wish
  have b__is_wish := F__is_wish.binds (ps := ["wish", "many_shelves", "many_wishes"]) fun _ _ _ _ _ _ us hl => match us, hl with | [_, _, _], _ => rfl
  have D__is_wish : Dfs K mg "_is_wish" s__is_wish ["wish", "many_shelves", "many_wishes"] _ _ := ⟨F__is_wish, PySem.W.mg_of X G a__is_wish, b__is_wish⟩
  have F__is_rising := fun_mk (st := s__is_rising) l__is_rising c__is_rising k__is_rising
  have b__is_rising := F__is_rising.binds (ps := ["numbers", "many"]) fun _ _ _ _ _ _ us hl => match us, hl with | [_, _], _ => rfl
  have D__is_rising : Dfs K mg "_is_rising" s__is_rising ["numbers", "many"] _ _ := ⟨F__is_rising, PySem.W.mg_of X G a__is_rising, b__is_rising⟩
  have F_read := fun_mk (st := s_read) l_read c_read k_read
  have b_read := F_read.binds (ps := ["text"]) fun _ _ _ _ _ _ us hl => match us, hl with | [_], _ => rfl
  have D_read : Dfs K mg "read" s_read ["text"] _ _ := ⟨F_read, PySem.W.mg_of X G a_read, b_read⟩
  have F__is_store_row := fun_mk (st := s__is_store_row) l__is_store_row c__is_store_row k__is_store_row
  have b__is_store_row := F__is_store_row.binds (ps := ["words"]) fun _ _ _ _ _ _ us hl => match us, hl with | [_], _ => rfl
  have D__is_store_row : Dfs K mg "_is_store_row" s__is_store_row ["words"] _ _ := ⟨F__is_store_row, PySem.W.mg_of X G a__is_store_row, b__is_store_row⟩
  have F__is_shelf_row := fun_mk (st := s__is_shelf_row) l__is_shelf_row c__is_shelf_row k__is_shelf_row
  have b__is_shelf_row := F__is_shelf_row.binds (ps := ["words"]) fun _ _ _ _ _ _ us hl => match us, hl with | [_], _ => rfl
  have D__is_shelf_row : Dfs K mg "_is_shelf_row" s__is_shelf_row ["words"] _ _ := ⟨F__is_shelf_row, PySem.W.mg_of X G a__is_shelf_row, b__is_shelf_row⟩
  have F__is_wish_row := fun_mk (st := s__is_wish_row) l__is_wish_row c__is_wish_row k__is_wish_row
  have b__is_wish_row := F__is_wish_row.binds (ps := ["words"]) fun _ _ _ _ _ _ us hl => match us, hl with | [_], _ => rfl
  have D__is_wish_row : Dfs K mg "_is_wish_row" s__is_wish_row ["words"] _ _ := ⟨F__is_wish_row, PySem.W.mg_of X G a__is_wish_row, b__is_wish_row⟩
  have F__are_figures := fun_mk (st := s__are_figures) l__are_figures c__are_figures k__are_figures
  have b__are_figures := F__are_figures.binds (ps := ["words"]) fun _ _ _ _ _ _ us hl => match us, hl with | [_], _ => rfl
  have D__are_figures : Dfs K mg "_are_figures" s__are_figures ["words"] _ _ := ⟨F__are_figures, PySem.W.mg_of X G a__are_figures, b__are_figures⟩
  have F__shelf := fun_mk (st := s__shelf) l__shelf c__shelf k__shelf
  have b__shelf := F__shelf.binds (ps := ["words"]) fun _ _ _ _ _ _ us hl => match us, hl with | [_], _ => rfl
  have D__shelf : Dfs K mg "_shelf" s__shelf ["words"] _ _ := ⟨F__shelf, PySem.W.mg_of X G a__shelf, b__shelf⟩
  have F__wish := fun_mk (st := s__wish) l__wish c__wish k__wish
  have b__wish := F__wish.binds (ps := ["words"]) fun _ _ _ _ _ _ us hl => match us, hl with | [_], _ => rfl
  have D__wish : Dfs K mg "_wish" s__wish ["words"] _ _ := ⟨F__wish, PySem.W.mg_of X G a__wish, b__wish⟩
  have F__after_read := fun_mk (st := s__after_read) l__after_read c__after_read k__after_read
  have b__after_read := F__after_read.binds (ps := ["word"]) fun _ _ _ _ _ _ us hl => match us, hl with | [_], _ => rfl
  have D__after_read : Dfs K mg "_after_read" s__after_read ["word"] _ _ := ⟨F__after_read, PySem.W.mg_of X G a__after_read, b__after_read⟩
  have F__law_taken := fun_mk (st := s__law_taken) l__law_taken c__law_taken k__law_taken
  have b__law_taken := F__law_taken.binds (ps := ["_law_row", "_law_many"]) fun _ _ _ _ _ _ us hl => match us, hl with | [_, _], _ => rfl
  have D__law_taken : Dfs K mg "_law_taken" s__law_taken ["_law_row", "_law_many"] _ _ := ⟨F__law_taken, PySem.W.mg_of X G a__law_taken, b__law_taken⟩
  have F__law_wish := fun_mk (st := s__law_wish) l__law_wish c__law_wish k__law_wish
  have b__law_wish := F__law_wish.binds (ps := ["_law_row", "_law_shelves", "_law_many"]) fun _ _ _ _ _ _ us hl => match us, hl with | [_, _, _], _ => rfl
  have D__law_wish : Dfs K mg "_law_wish" s__law_wish ["_law_row", "_law_shelves", "_law_many"] _ _ := ⟨F__law_wish, PySem.W.mg_of X G a__law_wish, b__law_wish⟩
  have F__law_store := fun_mk (st := s__law_store) l__law_store c__law_store k__law_store
  have b__law_store := F__law_store.binds (ps := ["_law_row"]) fun _ _ _ _ _ _ us hl => match us, hl with | [_], _ => rfl
  have D__law_store : Dfs K mg "_law_store" s__law_store ["_law_row"] _ _ := ⟨F__law_store, PySem.W.mg_of X G a__law_store, b__law_store⟩
  have F__law_text := fun_mk (st := s__law_text) l__law_text c__law_text k__law_text
  have b__law_text := F__law_text.binds (ps := ["_law_store_here"]) fun _ _ _ _ _ _ us hl => match us, hl with | [_], _ => rfl
  have D__law_text : Dfs K mg "_law_text" s__law_text ["_law_store_here"] _ _ := ⟨F__law_text, PySem.W.mg_of X G a__law_text, b__law_text⟩
  have F__law_refused := fun_mk (st := s__law_refused) l__law_refused c__law_refused k__law_refused
  have b__law_refused := F__law_refused.binds (ps := ["_law_rows"]) fun _ _ _ _ _ _ us hl => match us, hl with | [_], _ => rfl
  have D__law_refused : Dfs K mg "_law_refused" s__law_refused ["_law_rows"] _ _ := ⟨F__law_refused, PySem.W.mg_of X G a__law_refused, b__law_refused⟩
  have F_law := fun_mk (st := s_law) l_law c_law k_law
  have b_law := F_law.binds (ps := ["_law_script"]) fun _ _ _ _ _ _ us hl => match us, hl with | [_], _ => rfl
  have D_law : Dfs K mg "law" s_law ["_law_script"] _ _ := ⟨F_law, PySem.W.mg_of X G a_law, b_law⟩
  have T : Tx K mg := ⟨PySem.W.mg_none_of X G z_len, PySem.W.mg_none_of X G z_list, PySem.W.mg_none_of X G z_tuple, PySem.W.mg_none_of X G z_sorted, PySem.W.mg_none_of X G z_sum, PySem.W.mg_none_of X G z_all, PySem.W.mg_none_of X G z_str, PySem.W.mg_none_of X G z_min, PySem.W.mg_none_of X G z_max, PySem.W.mg_none_of X G z_int, PySem.W.mg_none_of X G z_range, PySem.W.mg_none_of X G z_enumerate, PySem.W.mg_none_of X G z_isinstance, PySem.W.mg_none_of X G z_ValueError⟩
  have Tk : Tc K mg := ⟨⟨_, PySem.W.mg_of X G c_MOST_SHELVES⟩, ⟨_, PySem.W.mg_of X G c_MOST_ROOM⟩, ⟨_, PySem.W.mg_of X G c_MOST_WISHES⟩, ⟨_, PySem.W.mg_of X G c_MOST_KEEP⟩, ⟨_, PySem.W.mg_of X G g_KINDS, wr_tup (xs := [.str "fetch", .str "bring"]) l_KINDS (by simp) (.cons ⟨_, rfl⟩ (.cons ⟨_, rfl⟩ .nil))⟩, ⟨_, PySem.W.mg_of X G g_SIDES, wr_tup (xs := [.str "left", .str "right", .str "any"]) l_SIDES (by simp) (.cons ⟨_, rfl⟩ (.cons ⟨_, rfl⟩ (.cons ⟨_, rfl⟩ .nil)))⟩⟩
  have Tg : Tf K mg := ⟨⟨_, PySem.W.mg_of X G g_FIGURES, wr_tup (xs := [.str "0", .str "1", .str "2", .str "3", .str "4", .str "5", .str "6", .str "7", .str "8", .str "9"]) l_FIGURES (by simp) (.cons ⟨_, rfl⟩ (.cons ⟨_, rfl⟩ (.cons ⟨_, rfl⟩ (.cons ⟨_, rfl⟩ (.cons ⟨_, rfl⟩ (.cons ⟨_, rfl⟩ (.cons ⟨_, rfl⟩ (.cons ⟨_, rfl⟩ (.cons ⟨_, rfl⟩ (.cons ⟨_, rfl⟩ .nil))))))))))⟩⟩
  have TS : TSx K mg C f_Store___init__ f_Store_shelves f_Store_wishes _ _ _ := ⟨⟨pgC, hdC, poC, saC⟩, ⟨mkC, a_Store___init__, i_Store___init__, kcC⟩, PySem.W.mg_of X G aC, nS, nW, nA, ⟨a_Store_shelves, i_Store_shelves, k_Store_shelves⟩, ⟨a_Store_wishes, i_Store_wishes, k_Store_wishes⟩, b_Store___init__, b_Store_shelves, b_Store_wishes⟩
  have Kn : Kin K mg cA cB cS cT cR := ⟨⟨PySem.W.mg_of X G g_AisleError, kp_AisleError, ex_AisleError, ty_AisleError, is_AisleError⟩, ⟨PySem.W.mg_of X G g_BadStore, kp_BadStore, ex_BadStore, ty_BadStore, is_BadStore⟩, ⟨PySem.W.mg_of X G g_BadStep, kp_BadStep, ex_BadStep, ty_BadStep, is_BadStep⟩, ⟨PySem.W.mg_of X G g_BadText, kp_BadText, ex_BadText, ty_BadText, is_BadText⟩, ⟨PySem.W.mg_of X G g_Barred, kp_Barred, ex_Barred, ty_Barred, is_Barred⟩⟩
  have KB : KinB K cA cB cS cT cR := ⟨subBA, subBB, subBS, subBT, subBR, subBV⟩
  have KT : KinT K cA cB cS cT cR := ⟨subTA, subTB, subTS, subTT, subTR, subTV⟩
  have N_BadStore := Kn.B
  have N_BadText := Kn.T
  refine ⟨PySem.W.fnOf "law" "law" (defArgs s_law) (defBody s_law) (defScope s_law) .none kV_law dc_law pm_law an_law cd_law ct_law, fun s v => .of_eq rfl, fun base _ _ => ?_⟩
  have G_BadStore_init := ok_BadStore_init (P := l.prog) (w := w) (base := base) (mg := mg) (F := F_BadStore___init__) (n1 := xn0BadStore) (n2 := xn1BadStore)
  have X_BadStore : Xi2 l.prog w K mg base cB f_BadStore___init__ _ "word" "number" (spX2 K cB "word" "number") := ⟨⟨⟨nmBadStore, qBadStore, NBadStore, bsBadStore, _, snBadStore, sbBadStore, abBadStore, coBadStore, ddBadStore, m0BadStore, m1BadStore, m2BadStore, m3BadStore, m5BadStore, xLBadStore, by first | rfl | with_unfolding_all rfl⟩, xsBadStore, ex_BadStore, ty_BadStore, kp_BadStore⟩, ⟨is_BadStore, xgBadStore, xkBadStore, ex_BadStore, xdBadStore, xcBadStore, xsp, xtk, xmBadStore⟩, a_BadStore___init__, i_BadStore___init__, xn0BadStore, xn1BadStore, b_BadStore___init__, G_BadStore_init⟩
  have G_BadText_init := ok_BadText_init (P := l.prog) (w := w) (base := base) (mg := mg) (F := F_BadText___init__) (n1 := xn0BadText)
  have X_BadText : Xi1 l.prog w K mg base cT f_BadText___init__ _ "row" (spX1 K cT "row") := ⟨⟨⟨nmBadText, qBadText, NBadText, bsBadText, _, snBadText, sbBadText, abBadText, coBadText, ddBadText, m0BadText, m1BadText, m2BadText, m3BadText, m5BadText, xLBadText, by first | rfl | with_unfolding_all rfl⟩, xsBadText, ex_BadText, ty_BadText, kp_BadText⟩, ⟨is_BadText, xgBadText, xkBadText, ex_BadText, xdBadText, xcBadText, xsp, xtk, xmBadText⟩, a_BadText___init__, i_BadText___init__, xn0BadText, b_BadText___init__, G_BadText_init⟩
  have C__law_taken := ok__law_taken (P := l.prog) (w := w) (base := base) (D := D__law_taken) (T := T)
  have C__law_wish := ok__law_wish (P := l.prog) (w := w) (base := base) (D := D__law_wish) (T := T) (C__law_taken := C__law_taken)
  have C__law_store := ok__law_store (P := l.prog) (w := w) (base := base) (D := D__law_store) (T := T) (C__law_taken := C__law_taken) (C__law_wish := C__law_wish)
  have C__is_rising := ok__is_rising (P := l.prog) (w := w) (base := base) (D := D__is_rising)
  have C__is_shelf := ok__is_shelf (P := l.prog) (w := w) (base := base) (D := D__is_shelf) (T := T) (Tk := Tk)
  have C__is_wish := ok__is_wish (P := l.prog) (w := w) (base := base) (D := D__is_wish) (T := T) (Tk := Tk) (C__is_rising := C__is_rising)
  have C__refuse_no_store := ok__refuse_no_store (P := l.prog) (w := w) (base := base) (D := D__refuse_no_store) (T := T) (Tk := Tk) (X_BadStore := X_BadStore) (N_BadStore := N_BadStore) (C__is_shelf := C__is_shelf) (C__is_wish := C__is_wish)
  have G_init := ok_Store_init (P := l.prog) (w := w) (base := base) (F := F_Store___init__) (T := T) (TS := TS) (C__refuse_no_store := C__refuse_no_store)
  have G_shelves := ok_Store_shelves (P := l.prog) (w := w) (base := base) (F := F_Store_shelves) (T := T) (TS := TS)
  have G_wishes := ok_Store_wishes (P := l.prog) (w := w) (base := base) (F := F_Store_wishes) (T := T) (TS := TS)
  have C_fetch := ok_fetch 
  have C_bring := ok_bring 
  have C_left := ok_left 
  have C_right := ok_right 
  have C_any := ok_any 
  have C__are_figures := ok__are_figures (P := l.prog) (w := w) (base := base) (D := D__are_figures) (T := T) (Tg := Tg)
  have C__is_store_row := ok__is_store_row (P := l.prog) (w := w) (base := base) (D := D__is_store_row) (T := T) (C__are_figures := C__are_figures)
  have C__is_shelf_row := ok__is_shelf_row (P := l.prog) (w := w) (base := base) (D := D__is_shelf_row) (T := T) (C__are_figures := C__are_figures)
  have C__is_wish_row := ok__is_wish_row (P := l.prog) (w := w) (base := base) (D := D__is_wish_row) (T := T) (Tk := Tk) (C__are_figures := C__are_figures)
  have C__shelf := ok__shelf (P := l.prog) (w := w) (base := base) (D := D__shelf) (T := T)
  have C__after_read := ok__after_read (P := l.prog) (w := w) (base := base) (D := D__after_read) (T := T)
  have C__wish := ok__wish (P := l.prog) (w := w) (base := base) (D := D__wish) (T := T) (C__after_read := C__after_read)
  have C_read := ok_read (P := l.prog) (w := w) (base := base) (D := D_read) (T := T) (TS := TS) (G_init := G_init) (X_BadText := X_BadText) (N_BadText := N_BadText) (C__is_store_row := C__is_store_row) (C__is_shelf_row := C__is_shelf_row) (C__is_wish_row := C__is_wish_row) (C__shelf := C__shelf) (C__wish := C__wish)
  have C__law_refused := ok__law_refused (P := l.prog) (w := w) (base := base) (D := D__law_refused) (T := T) (Kn := Kn) (KB := KB) (KT := KT) (X_BadStore := X_BadStore) (X_BadText := X_BadText) (C_read := C_read)
  have C__law_text := ok__law_text (P := l.prog) (w := w) (base := base) (D := D__law_text) (T := T)
  exact ok_law (P := l.prog) (w := w) (base := base) (D := D_law) (T := T) (C__law_taken := C__law_taken) (C__law_store := C__law_store) (C__law_text := C__law_text) (C__law_refused := C__law_refused)
end Ais
open PySem PySem.W PyProof.Rows
set_option maxRecDepth 100000 in
set_option maxHeartbeats 0 in
theorem PySem.Challenge.cw_aisleshift_k10_texts_of_none_holds : PySem.Challenge.rw_aisleshift_k10_texts_of_none.Holds := by
  w_on; o_law; k_head; (case hw => w_witness2)
  k_fill
  refine L2.walk_of (l := PySem.Challenge.rw_aisleshift_k10_texts_of_none) (n := 63) (k := 8) (x := "_law_script") (CX := fun _ => L2.CX0) (sp := fun w => Ais.spLaw _) rfl (by decide) rfl ⟨rfl, by decide, by decide⟩ (fun w h Y => PySem.W.kIn_of Y) ?F (fun _ _ a ns hl _ hS => ⟨a, ns, rfl, hS, hl, fun _ => rfl⟩) (fun _ _ _ _ _ h => h)
  case F =>
    intro w mg fa h KX G hmg
    refine' Ais.all_mk KX G hmg ?aC ?g_AisleError ?kp_AisleError ?ex_AisleError ?ty_AisleError ?is_AisleError ?g_BadStore ?kp_BadStore ?ex_BadStore ?ty_BadStore ?is_BadStore ?g_BadStep ?kp_BadStep ?ex_BadStep ?ty_BadStep ?is_BadStep ?g_BadText ?kp_BadText ?ex_BadText ?ty_BadText ?is_BadText ?g_Barred ?kp_Barred ?ex_Barred ?ty_Barred ?is_Barred ?subBA ?subBB ?subBS ?subBT ?subBR ?subBV ?subTA ?subTB ?subTS ?subTT ?subTR ?subTV ?xsp ?xtk ?xLBadStore ?xsBadStore ?xgBadStore ?xkBadStore ?xdBadStore ?xcBadStore ?xmBadStore ?xn0BadStore ?xn1BadStore ?xLBadText ?xsBadText ?xgBadText ?xkBadText ?xdBadText ?xcBadText ?xmBadText ?xn0BadText ?a_BadStore___init__ ?i_BadStore___init__ ?l_BadStore___init__ ?c_BadStore___init__ ?k_BadStore___init__ ?a_BadText___init__ ?i_BadText___init__ ?l_BadText___init__ ?c_BadText___init__ ?k_BadText___init__ ?a_Store___init__ ?i_Store___init__ ?l_Store___init__ ?c_Store___init__ ?k_Store___init__ ?a_Store_shelves ?i_Store_shelves ?l_Store_shelves ?c_Store_shelves ?k_Store_shelves ?a_Store_wishes ?i_Store_wishes ?l_Store_wishes ?c_Store_wishes ?k_Store_wishes ?a__refuse_no_store ?l__refuse_no_store ?c__refuse_no_store ?k__refuse_no_store ?a__is_shelf ?l__is_shelf ?c__is_shelf ?k__is_shelf ?a__is_wish ?l__is_wish ?c__is_wish ?k__is_wish ?a__is_rising ?l__is_rising ?c__is_rising ?k__is_rising ?a_read ?l_read ?c_read ?k_read ?a__is_store_row ?l__is_store_row ?c__is_store_row ?k__is_store_row ?a__is_shelf_row ?l__is_shelf_row ?c__is_shelf_row ?k__is_shelf_row ?a__is_wish_row ?l__is_wish_row ?c__is_wish_row ?k__is_wish_row ?a__are_figures ?l__are_figures ?c__are_figures ?k__are_figures ?a__shelf ?l__shelf ?c__shelf ?k__shelf ?a__wish ?l__wish ?c__wish ?k__wish ?a__after_read ?l__after_read ?c__after_read ?k__after_read ?a__law_taken ?l__law_taken ?c__law_taken ?k__law_taken ?a__law_wish ?l__law_wish ?c__law_wish ?k__law_wish ?a__law_store ?l__law_store ?c__law_store ?k__law_store ?a__law_text ?l__law_text ?c__law_text ?k__law_text ?a__law_refused ?l__law_refused ?c__law_refused ?k__law_refused ?a_law ?l_law ?c_law ?k_law ?pgC ?hdC ?poC ?saC ?mkC ?kcC ?nS ?nW ?nA ?z_len ?z_list ?z_tuple ?z_sorted ?z_sum ?z_all ?z_str ?z_min ?z_max ?z_int ?z_range ?z_enumerate ?z_isinstance ?z_ValueError ?c_MOST_SHELVES ?c_MOST_ROOM ?c_MOST_WISHES ?c_MOST_KEEP ?g_KINDS ?l_KINDS ?g_SIDES ?l_SIDES ?g_FIGURES ?l_FIGURES
    (case aC => k_is)
    (case g_AisleError => k_is)
    (case kp_AisleError => k_is)
    (case ex_AisleError => k_is)
    (case ty_AisleError => k_is)
    (case is_AisleError => k_is)
    (case g_BadStore => k_is)
    (case kp_BadStore => k_is)
    (case ex_BadStore => k_is)
    (case ty_BadStore => k_is)
    (case is_BadStore => k_is)
    (case g_BadStep => k_is)
    (case kp_BadStep => k_is)
    (case ex_BadStep => k_is)
    (case ty_BadStep => k_is)
    (case is_BadStep => k_is)
    (case g_BadText => k_is)
    (case kp_BadText => k_is)
    (case ex_BadText => k_is)
    (case ty_BadText => k_is)
    (case is_BadText => k_is)
    (case g_Barred => k_is)
    (case kp_Barred => k_is)
    (case ex_Barred => k_is)
    (case ty_Barred => k_is)
    (case is_Barred => k_is)
    (case subBA => k_is)
    (case subBB => k_is)
    (case subBS => k_is)
    (case subBT => k_is)
    (case subBR => k_is)
    (case subBV => k_is)
    (case subTA => k_is)
    (case subTB => k_is)
    (case subTS => k_is)
    (case subTT => k_is)
    (case subTR => k_is)
    (case subTV => k_is)
    (case xsp => k_is)
    (case xtk => k_is)
    (case xLBadStore => k_is)
    (case xsBadStore => k_is)
    (case xgBadStore => k_is)
    (case xkBadStore => k_is)
    (case xdBadStore => k_is)
    (case xcBadStore => k_is)
    (case xmBadStore => k_is)
    (case xn0BadStore => k_is)
    (case xn1BadStore => k_is)
    (case xLBadText => k_is)
    (case xsBadText => k_is)
    (case xgBadText => k_is)
    (case xkBadText => k_is)
    (case xdBadText => k_is)
    (case xcBadText => k_is)
    (case xmBadText => k_is)
    (case xn0BadText => k_is)
    (case a_BadStore___init__ => k_is)
    (case i_BadStore___init__ => k_is)
    (case l_BadStore___init__ => k_is)
    (case c_BadStore___init__ => k_is)
    (case k_BadStore___init__ => k_is)
    (case a_BadText___init__ => k_is)
    (case i_BadText___init__ => k_is)
    (case l_BadText___init__ => k_is)
    (case c_BadText___init__ => k_is)
    (case k_BadText___init__ => k_is)
    (case a_Store___init__ => k_is)
    (case i_Store___init__ => k_is)
    (case l_Store___init__ => k_is)
    (case c_Store___init__ => k_is)
    (case k_Store___init__ => k_is)
    (case a_Store_shelves => k_is)
    (case i_Store_shelves => k_is)
    (case l_Store_shelves => k_is)
    (case c_Store_shelves => k_is)
    (case k_Store_shelves => k_is)
    (case a_Store_wishes => k_is)
    (case i_Store_wishes => k_is)
    (case l_Store_wishes => k_is)
    (case c_Store_wishes => k_is)
    (case k_Store_wishes => k_is)
    (case a__refuse_no_store => k_is)
    (case l__refuse_no_store => k_is)
    (case c__refuse_no_store => k_is)
    (case k__refuse_no_store => k_is)
    (case a__is_shelf => k_is)
    (case l__is_shelf => k_is)
    (case c__is_shelf => k_is)
    (case k__is_shelf => k_is)
    (case a__is_wish => k_is)
    (case l__is_wish => k_is)
    (case c__is_wish => k_is)
    (case k__is_wish => k_is)
    (case a__is_rising => k_is)
    (case l__is_rising => k_is)
    (case c__is_rising => k_is)
    (case k__is_rising => k_is)
    (case a_read => k_is)
    (case l_read => k_is)
    (case c_read => k_is)
    (case k_read => k_is)
    (case a__is_store_row => k_is)
    (case l__is_store_row => k_is)
    (case c__is_store_row => k_is)
    (case k__is_store_row => k_is)
    (case a__is_shelf_row => k_is)
    (case l__is_shelf_row => k_is)
    (case c__is_shelf_row => k_is)
    (case k__is_shelf_row => k_is)
    (case a__is_wish_row => k_is)
    (case l__is_wish_row => k_is)
    (case c__is_wish_row => k_is)
    (case k__is_wish_row => k_is)
    (case a__are_figures => k_is)
    (case l__are_figures => k_is)
    (case c__are_figures => k_is)
    (case k__are_figures => k_is)
    (case a__shelf => k_is)
    (case l__shelf => k_is)
    (case c__shelf => k_is)
    (case k__shelf => k_is)
    (case a__wish => k_is)
    (case l__wish => k_is)
    (case c__wish => k_is)
    (case k__wish => k_is)
    (case a__after_read => k_is)
    (case l__after_read => k_is)
    (case c__after_read => k_is)
    (case k__after_read => k_is)
    (case a__law_taken => k_is)
    (case l__law_taken => k_is)
    (case c__law_taken => k_is)
    (case k__law_taken => k_is)
    (case a__law_wish => k_is)
    (case l__law_wish => k_is)
    (case c__law_wish => k_is)
    (case k__law_wish => k_is)
    (case a__law_store => k_is)
    (case l__law_store => k_is)
    (case c__law_store => k_is)
    (case k__law_store => k_is)
    (case a__law_text => k_is)
    (case l__law_text => k_is)
    (case c__law_text => k_is)
    (case k__law_text => k_is)
    (case a__law_refused => k_is)
    (case l__law_refused => k_is)
    (case c__law_refused => k_is)
    (case k__law_refused => k_is)
    (case a_law => k_is)
    (case l_law => k_is)
    (case c_law => k_is)
    (case k_law => k_is)
    (case pgC => k_is)
    (case hdC => k_is)
    (case poC => k_is)
    (case saC => k_is)
    (case mkC => k_is)
    (case kcC => k_is)
    (case nS => k_is)
    (case nW => k_is)
    (case nA => k_is)
    (case z_len => k_is)
    (case z_list => k_is)
    (case z_tuple => k_is)
    (case z_sorted => k_is)
    (case z_sum => k_is)
    (case z_all => k_is)
    (case z_str => k_is)
    (case z_min => k_is)
    (case z_max => k_is)
    (case z_int => k_is)
    (case z_range => k_is)
    (case z_enumerate => k_is)
    (case z_isinstance => k_is)
    (case z_ValueError => k_is)
    (case c_MOST_SHELVES => k_is)
    (case c_MOST_ROOM => k_is)
    (case c_MOST_WISHES => k_is)
    (case c_MOST_KEEP => k_is)
    (case g_KINDS => k_is)
    (case l_KINDS => k_is)
    (case g_SIDES => k_is)
    (case l_SIDES => k_is)
    (case g_FIGURES => k_is)
    (case l_FIGURES => k_is)
#print axioms PySem.Challenge.cw_aisleshift_k10_texts_of_none_holds
