import PyProof.Rows.All
import Wide.All
import OpenK.AllK
import Wide.FinOn
import HandS.ForMost
import HandS.IsInst
import HandS.Deep
import HandS.TupAny
import HandS.Star
import HandS.Codes
import HandS.SetFor
import HandS.ExcInit
import HandS.ExcField
import HandS.WordsExc
import KE.KExcIs
import HandS.TupMul
import PySem.Challenge.RW_aisleshift_k11_stores_refused
set_option Elab.async false
set_option linter.all false
set_option maxRecDepth 100000
set_option maxHeartbeats 4000000
namespace Ais
open PySem PySem.Spec PyProof.Rows L2

/-- a def that keeps a promise, as its callers use it -/
structure Cal (P : Program) (w : World) (K : PySem.W.Frag) (mg : Str → Option Value) (base : Heap) (k : Nat) (x : Str) (ps : List Str) (sp : Sp) (f : Addr) (fd : FuncData) : Prop where
  G : FnOk P w K mg base CX0 k f fd ps sp
  g : mg x = some (.ref f)
  kp : PySem.W.keepIn K (.ref f) = true
  b : Binds K fd ps []
/-- a def as it stands in the text -/
structure Dfs (K : PySem.W.Frag) (mg : Str → Option Value) (x : Str) (st : Stmt) (ps : List Str) (f : Addr) (fd : FuncData) : Prop where
  F : Fun K x x st f fd
  g : mg x = some (.ref f)
  b : Binds K fd ps []
theorem Dfs.cal {P : Program} {w : World} {K : PySem.W.Frag} {mg : Str → Option Value} {base : Heap} {k : Nat} {x : Str} {ps : List Str} {sp : Sp} {f : Addr} {fd : FuncData} {st : Stmt} (D : Dfs K mg x st ps f fd) (G : FnOk P w K mg base CX0 k f fd ps sp) : Cal P w K mg base k x ps sp f fd := ⟨G, D.g, D.F.kp, D.b⟩

/-! ### heaps -/
theorem Same.new {B H : Hp} {p : Addr} {o : HO} (s : Same B H) (h : H p = none) : Same B (upd H p o) := fun b u e => by
  have e' := s b u e
  rw [upd_ne (ne_of_none e' h)]
  exact e'
theorem Same.grow {B H : Hp} {p : Addr} {o : HO} (s : Same B H) (h : H p = none) : Same (upd B p o) (upd H p o) := fun b u e => by
  by_cases hb : b = p
  · subst hb
    rw [upd_same] at e ⊢
    exact e
  · rw [upd_ne hb] at e ⊢
    exact s b u e
theorem Same.add {B H : Hp} {p : Addr} {o : HO} (s : Same B H) (h : H p = some o) : Same (upd B p o) H := fun b u e => by
  by_cases hb : b = p
  · subst hb
    rw [upd_same] at e
    rw [h]
    exact e
  · rw [upd_ne hb] at e
    exact s b u e
theorem Same.put {B H : Hp} {p : Addr} {o : HO} (s : Same B H) (h : B p = none) : Same B (upd H p o) := fun b u e => by
  rw [upd_ne (ne_of_none e h)]
  exact s b u e
theorem same_new {H : Hp} {p : Addr} {o : HO} (h : H p = none) : Same H (upd H p o) := Same.new (Same.refl H) h
theorem Same.rd {H H' : Hp} {a : Addr} {u : HO} (s : Same H H') (h : Rd H a u) : Rd H' a u := by
  rcases h with h | ⟨o, h⟩
  · exact .inl (s _ _ h)
  · exact .inr ⟨o, s _ _ h⟩
theorem Same.l {K : PySem.W.Frag} {H H' : Hp} {a : Addr} {xs : List V} (s : Same H H') (h : SqL K H a xs) : SqL K H' a xs := s.seq h
theorem Same.t {K : PySem.W.Frag} {H H' : Hp} {a : Addr} {xs : List V} (s : Same H H') (h : SqT K H a xs) : SqT K H' a xs := by
  rcases h with h | h
  · exact .inl (Same.rd s h)
  · exact .inr h
theorem tup_new {K : PySem.W.Frag} {H : Hp} {p : Addr} {xs : List V} : SqT K (upd H p (.tup xs)) p xs := SqT.of upd_same
theorem lst_new {K : PySem.W.Frag} {H : Hp} {p : Addr} {xs : List V} : SqL K (upd H p (.lst xs)) p xs := SqL.of upd_same

/-! ### data -/
mutual
theorem dp_mono {K : PySem.W.Frag} {H H' : Hp} (s : Same H H') : ∀ {v : V} {d : PyData}, Dp K H v d → Dp K H' v d
  | _, _, .non => .non
  | _, _, .bl b => .bl b
  | _, _, .int i => .int i
  | _, _, .str x => .str x
  | _, _, .lst h r => .lst (Same.l s h) (dps_mono s r)
  | _, _, .tup h r => .tup (Same.t s h) (dps_mono s r)
theorem dps_mono {K : PySem.W.Frag} {H H' : Hp} (s : Same H H') : ∀ {vs : List V} {ds : List PyData}, DpAll K H vs ds → DpAll K H' vs ds
  | _, _, .nil => .nil
  | _, _, .cons h r => .cons (dp_mono s h) (dps_mono s r)
end
section
variable {K : PySem.W.Frag} {H : Hp} {v : V} {vs : List V}
theorem dp_int {i : Int} (h : Dp K H v (.int i)) : v = .int i := by cases h; rfl
theorem dp_str {i : Str} (h : Dp K H v (.str i)) : v = .str i := by cases h; rfl
theorem dp_none (h : Dp K H v .none) : v = .non := by cases h; rfl
theorem dp_bool {b : Bool} (h : Dp K H v (.bool b)) : v = .bl b := by cases h; rfl
theorem dp_tup {ds : List PyData} (h : Dp K H v (.tuple ds)) : ∃ a xs, v = .ref a ∧ SqT K H a xs ∧ DpAll K H xs ds := by
  cases h with
  | tup a b => exact ⟨_, _, rfl, a, b⟩
theorem dp_lst {ds : List PyData} (h : Dp K H v (.list ds)) : ∃ a xs, v = .ref a ∧ SqL K H a xs ∧ DpAll K H xs ds := by
  cases h with
  | lst a b => exact ⟨_, _, rfl, a, b⟩
theorem dps_nil (h : DpAll K H vs []) : vs = [] := by cases h; rfl
theorem dps_cons {d : PyData} {ds : List PyData} (h : DpAll K H vs (d :: ds)) : ∃ x r, vs = x :: r ∧ Dp K H x d ∧ DpAll K H r ds := by
  cases h with
  | cons a b => exact ⟨_, _, rfl, a, b⟩
theorem dps_len {ds : List PyData} (h : DpAll K H vs ds) : vs.length = ds.length := by
  induction ds generalizing vs with
  | nil => rw [dps_nil h]; rfl
  | cons d ds ih =>
    obtain ⟨x, r, rfl, _, hr⟩ := dps_cons h
    rw [List.length_cons, List.length_cons, ih hr]
theorem dps_get {ds : List PyData} (h : DpAll K H vs ds) {i : Nat} {d : PyData} (e : ds[i]? = some d) : ∃ x, vs[i]? = some x ∧ Dp K H x d := by
  induction ds generalizing vs i with
  | nil => simp at e
  | cons d0 ds ih =>
    obtain ⟨x, r, rfl, h0, hr⟩ := dps_cons h
    cases i with
    | zero =>
      have e' : d0 = d := Option.some.inj e
      subst e'
      exact ⟨x, rfl, h0⟩
    | succ i => exact ih hr e
theorem dps_of_get {ds : List PyData} (h : DpAll K H vs ds) {i : Nat} {x : V} (e : vs[i]? = some x) : ∃ d, ds[i]? = some d ∧ Dp K H x d := by
  induction ds generalizing vs i with
  | nil =>
    rw [dps_nil h] at e
    simp at e
  | cons d0 ds ih =>
    obtain ⟨y, r, rfl, h0, hr⟩ := dps_cons h
    cases i with
    | zero =>
      have e' : y = x := Option.some.inj e
      subst e'
      exact ⟨d0, rfl, h0⟩
    | succ i => exact ih hr e
theorem dps_app {us : List V} {ds es : List PyData} (h : DpAll K H vs ds) (g : DpAll K H us es) : DpAll K H (vs ++ us) (ds ++ es) := by
  induction ds generalizing vs with
  | nil =>
    rw [dps_nil h]
    exact g
  | cons d ds ih =>
    obtain ⟨x, r, rfl, h0, hr⟩ := dps_cons h
    exact .cons h0 (ih hr)
theorem dps_take {ds : List PyData} (h : DpAll K H vs ds) (n : Nat) : DpAll K H (vs.take n) (ds.take n) := by
  induction ds generalizing vs n with
  | nil =>
    rw [dps_nil h]
    simp only [List.take_nil]
    exact .nil
  | cons d ds ih =>
    obtain ⟨x, r, rfl, h0, hr⟩ := dps_cons h
    cases n with
    | zero => exact .nil
    | succ n => exact .cons h0 (ih hr n)
end
def dints (l : List Int) : List PyData := l.map .int
theorem dps_ints {K : PySem.W.Frag} {H : Hp} {vs : List V} {l : List Int} (h : DpAll K H vs (dints l)) : vs = l.map V.int := by
  induction l generalizing vs with
  | nil => exact dps_nil h
  | cons i l ih =>
    obtain ⟨x, r, rfl, h0, hr⟩ := dps_cons h
    rw [dp_int h0, ih hr]
    rfl
theorem ints_dps {K : PySem.W.Frag} {H : Hp} : ∀ l : List Int, DpAll K H (l.map V.int) (dints l)
  | [] => .nil
  | i :: l => .cons (.int i) (ints_dps l)
theorem dp_ints {K : PySem.W.Frag} {H : Hp} {v : V} {l : List Int} (h : Dp K H v (.tuple (dints l))) : ∃ a, v = .ref a ∧ SqT K H a (l.map V.int) := by
  obtain ⟨a, xs, rfl, h1, h2⟩ := dp_tup h
  rw [dps_ints h2] at h1
  exact ⟨a, rfl, h1⟩

/-! ### rules with the written part named (within a comprehension the context is another one, over the same) -/
section
variable {X : Cx} {K : PySem.W.Frag}
theorem kix_list (h : X.K = K := by rfl) : IxR X (rIxL K) := by subst h; exact ix_list
theorem kix_tup (h : X.K = K := by rfl) : IxR X (rIxT K) := by subst h; exact ix_tup
theorem ksl_list (h : X.K = K := by rfl) : SlR X (rSlL K) := by subst h; exact sl_list
theorem ksl_tup (h : X.K = K := by rfl) : SlR X (rSlT K) := by subst h; exact sl_tup
theorem kin_seq (h : X.K = K := by rfl) : OpR X (compareOp .In) (rIn K false) := by subst h; exact op_in_seq
theorem knotIn_seq (h : X.K = K := by rfl) : OpR X (compareOp .NotIn) (rIn K true) := by subst h; exact op_notIn_seq
theorem keqD (hu : X.A.units + 64 < cLine) (h : X.K = K := by rfl) : OpR X (compareOp .Eq) (rEqD K) := by subst h; exact op_eqD hu
theorem kneD (hu : X.A.units + 64 < cLine) (h : X.K = K := by rfl) : OpR X (compareOp .NotEq) (rNeD K) := by subst h; exact op_neD hu
theorem kinD (hu : X.A.units + 65 < cLine) (h : X.K = K := by rfl) : OpR X (compareOp .In) (rInD K) := by subst h; exact op_inD hu
theorem knotInD (hu : X.A.units + 65 < cLine) (h : X.K = K := by rfl) : OpR X (compareOp .NotIn) (rNotInD K) := by subst h; exact op_notInD hu
theorem kcatA (h : X.K = K := by rfl) : OpR X (binaryOp .Add) (rCatA K) := by subst h; exact op_catA
def rLen (K : PySem.W.Frag) : List V → Hp → VK → Prop := fun xs H Q => ∃ p ys, xs = [.ref p] ∧ (SqL K H p ys ∨ SqT K H p ys) ∧ Q (.int ys.length) H
def rListOf (K : PySem.W.Frag) : List V → Hp → VK → Prop := fun xs H Q => ∃ p ys, xs = [.ref p] ∧ (SqL K H p ys ∨ SqT K H p ys) ∧ ∀ l, H l = none → Q (.ref l) (upd H l (.lst ys))
def rTupleOf (K : PySem.W.Frag) : List V → Hp → VK → Prop := fun xs H Q => ∃ p ys, xs = [.ref p] ∧ ((SqL K H p ys ∧ ∀ l, H l = none → Q (.ref l) (upd H l (.tup ys))) ∨ (SqT K H p ys ∧ Q (.ref p) H))
theorem klen (h : X.K = K := by rfl) : CallR X (.builtin "len") (rLen K) := by subst h; exact call_len_seq
theorem klist_of (h : X.K = K := by rfl) : CallR X (.type "list") (rListOf K) := by subst h; exact call_list_of
theorem ktuple_of (h : X.K = K := by rfl) : CallR X (.type "tuple") (rTupleOf K) := by subst h; exact call_tuple_of
theorem ksorted (h : X.K = K := by rfl) : CallR X (.builtin "sorted") (rSorted K) := by subst h; exact cr_sorted
theorem ksum (hc : X.calm = true) (h : X.K = K := by rfl) : CallR X (.builtin "sum") (rSum K) := by subst h; exact cr_sum hc
theorem kmin (hc : X.calm = true) (h : X.K = K := by rfl) : CallR X (.builtin "min") (rMin K) := by subst h; exact cr_min hc
theorem klcount (h : X.K = K := by rfl) : MtR X "list.count" (rCntI K) := by subst h; exact mt_lcount
theorem kisi (h : X.K = K := by rfl) : CallR X (.builtin "isinstance") (rIsi K) := by subst h; exact call_isi
end

/-! ### tests whose answer is known -/
section
variable {c A B : Prop} [Decidable c]
theorem itD (hc : c) (h : A) : if decide c = true then A else B := by rw [decide_eq_true hc]; exact iteT h
theorem itF (hc : ¬ c) (h : B) : if decide c = true then A else B := by rw [decide_eq_false hc]; exact iteF h
theorem itnF (hc : ¬ c) (h : A) : if (!decide c) = true then A else B := by rw [decide_eq_false hc]; exact iteT h
theorem itB {b : Bool} (hc : b = true) (h : A) : if b = true then A else B := by rw [hc]; exact iteT h
theorem itBf {b : Bool} (hc : b = false) (h : B) : if b = true then A else B := by rw [hc]; exact iteF h
theorem itnB {b : Bool} (hc : b = true) (h : B) : if (!b) = true then A else B := by rw [hc]; exact iteF h
theorem itnBf {b : Bool} (hc : b = false) (h : A) : if (!b) = true then A else B := by rw [hc]; exact iteT h
end
theorem inV_ints {x : Int} {l : List Int} : inV (.int x) (l.map V.int) = true ↔ x ∈ l := by
  induction l with
  | nil => exact ⟨fun h => absurd (show false = true from h) (by decide), fun h => absurd h (by simp)⟩
  | cons y l ih =>
    rw [List.map_cons, List.mem_cons]
    show (eqV (.int y) (.int x) || inV (.int x) (l.map V.int)) = true ↔ _
    rw [Bool.or_eq_true, ih]
    have e : eqV (.int y) (.int x) = true ↔ x = y := ⟨fun h => (of_decide_eq_true h).symm, fun h => decide_eq_true h.symm⟩
    rw [e]
theorem inV_strs {x : Str} {l : List Str} : inV (.str x) (l.map V.str) = true ↔ x ∈ l := by
  induction l with
  | nil => exact ⟨fun h => absurd (show false = true from h) (by decide), fun h => absurd h (by simp)⟩
  | cons y l ih =>
    rw [List.map_cons, List.mem_cons]
    show (eqV (.str y) (.str x) || inV (.str x) (l.map V.str)) = true ↔ _
    rw [Bool.or_eq_true, ih]
    have e : eqV (.str y) (.str x) = true ↔ x = y := ⟨fun h => (of_decide_eq_true h).symm, fun h => decide_eq_true h.symm⟩
    rw [e]
theorem flat_ints (l : List Int) : (l.map V.int).all flatV = true := by
  induction l with
  | nil => rfl
  | cons y l ih => rw [List.map_cons, List.all_cons, ih]; rfl
/-- for i, x in enumerate(xs) -/
theorem for_enum {K : PySem.W.Frag} {a : Addr} {xs : List V} {g : TG} {tb : TS} {D : Ends} {σ : L2.St} {H : Hp} (Pv : Nat → L2.St → Hp → Prop) (h0 : Pv 0 σ H) (hl : ∀ i σ H, i ≤ xs.length → Pv i σ H → SqL K H a xs)
    (hs : ∀ i x σ H p, xs[i]? = some x → Pv i σ H → H p = none → g (.ref p) σ (upd H p (.tup [.int (i : Nat), x])) fun σ2 H2 => tb { D with nx := Pv (i + 1), ct := Pv (i + 1), bk := D.nx } σ2 H2)
    (hd : ∀ σ H, Pv xs.length σ H → D.nx σ H) :
    ∃ W : Nat → Nat → L2.St → Hp → Prop, (∃ m, W 0 m σ H) ∧ ∀ i m σ H, W i m σ H →
      ((Ite K a).stop i H ∧ D.nx σ H) ∨ ((Ite K a).go i H ∧ ∃ N : L2.St → Hp → Prop, (∀ σ' H', N σ' H' → ∃ m', m' < m ∧ W (i + 1) m' σ' H') ∧
        ∀ x H', (Ite K a).yld i H x H' → g x σ H' fun σ2 H2 => tb { D with nx := N, ct := N, bk := D.nx } σ2 H2) := by
  refine ⟨fun i m σ H => m + i = xs.length ∧ Pv i σ H, ⟨xs.length, Nat.add_zero _, h0⟩, fun i m σ H ⟨em, hp⟩ => ?_⟩
  have hS := hl i σ H (by omega) hp
  cases m with
  | zero =>
    have e : i = xs.length := by omega
    subst e
    exact .inl ⟨⟨xs, hS, Nat.le_refl _⟩, hd σ H hp⟩
  | succ m =>
    have hi : i < xs.length := by omega
    have hx := List.getElem?_eq_getElem hi
    refine .inr ⟨⟨xs, _, hS, hx⟩, Pv (i + 1), fun σ' H' h => ⟨m, Nat.lt_succ_self m, by omega, h⟩, ?_⟩
    rintro x H' ⟨p, y, rfl, np, rfl, hy⟩
    exact hs i y σ H p (hy xs hS) hp np

/-! ### a chain of three comparisons -/
def tChain3 (r1 r2 r3 : R2) (ta tb tc td : TE) : TE := fun σ H Q => ta σ H fun x H1 => tb σ H1 fun y H2 => r1 x y H2 fun z H3 => ∃ k, z = .bl k ∧
  if k = true then tc σ H3 fun x2 H4 => r2 y x2 H4 fun z2 H5 => ∃ k2, z2 = .bl k2 ∧ (if k2 = true then td σ H5 fun x3 H6 => r3 x2 x3 H6 Q else Q (.bl false) H5) else Q (.bl false) H3
theorem pe_chain3 {X : Cx} {a b c d : Expr} {pos : Pos} {ta tb tc td : TE} {o1 o2 o3 : CmpOp} {r1 r2 r3 : R2} (h1 : OpR X (compareOp o1) r1) (h2 : OpR X (compareOp o2) r2) (h3 : OpR X (compareOp o3) r3)
    (pa : PE X a ta) (pb : PE X b tb) (pc : PE X c tc) (pd : PE X d td) (hm : lastMarks [o1, o2, o3] [b, c, d] = false := by with_unfolding_all rfl) :
    PE X (.Compare a [o1, o2, o3] [b, c, d] pos) (tChain3 r1 r2 r3 ta tb tc td) := by
  refine ⟨fun pins s σ H Q I h => Compare_chain ?_ hm⟩
  refine thn (pa.run pins s σ H _ I h) fun va sa ⟨x, Ha, Ia, ra, qa⟩ => chain_link ?_
  refine thn (pb.run pins sa σ Ha _ Ia qa) fun vb sb ⟨y, Hb, Ib, rb, qb⟩ => ?_
  refine thn (h1 pins sb σ Hb x y va vb _ Ib ra rb qb) fun v1 s1 ⟨z, Hz, Iz, rz, k, ez, qz⟩ => ?_
  subst ez
  cases rz
  refine wpAny_truthy_bool ?_
  cases k with
  | false => exact (if_neg Bool.false_ne_true).mpr ⟨.bl false, Hz, Iz, rfl, (if_neg Bool.false_ne_true).mp qz⟩
  | true =>
    refine (if_pos rfl).mpr (chain_link ?_)
    refine thn (pc.run pins s1 σ Hz _ Iz ((if_pos rfl).mp qz)) fun vc sc ⟨x2, Hc, Ic, rc, qc⟩ => ?_
    refine thn (h2 pins sc σ Hc y x2 vb vc _ Ic rb rc qc) fun v2 s2 ⟨z2, Hy, Iy, ry, k2, ey, qy⟩ => ?_
    subst ey
    cases ry
    refine wpAny_truthy_bool ?_
    cases k2 with
    | false => exact (if_neg Bool.false_ne_true).mpr ⟨.bl false, Hy, Iy, rfl, (if_neg Bool.false_ne_true).mp qy⟩
    | true =>
      refine (if_pos rfl).mpr (chain_last ?_)
      refine thn (pd.run pins s2 σ Hy _ Iy ((if_pos rfl).mp qy)) fun vd sd ⟨x3, Hd, Id, rd, qd⟩ => ?_
      exact h3 pins sd σ Hd x2 x3 vc vd Q Id rc rd qd
theorem tyx_tup {K : PySem.W.Frag} {H : Hp} {a : Addr} {xs : List V} (h : SqT K H a xs) : TyX K H (.ref a) (.type "tuple") := by
  rcases h with (h | ⟨o, h⟩) | ⟨o, its, n, h1, h2, _⟩
  · exact .base (.tup h)
  · exact .fTuple h
  · exact .kTuple h1 h2
theorem isi_tup {K : PySem.W.Frag} {H : Hp} {a : Addr} {xs : List V} {Q : VK} (h : SqT K H a xs) (q : Q (.bl true) H) : rIsi K [.ref a, .ty "tuple"] H Q :=
  ⟨_, _, _, _, true, rfl, .ty "tuple", tyx_tup h, kit_ty (by decide +kernel), q⟩

/-! ### small words -/
theorem nod {p : Prop} [Decidable p] (h : ¬ decide p = true) : ¬ p := fun z => h (decide_eq_true z)
theorem yed {p : Prop} [Decidable p] (h : decide p = true) : p := of_decide_eq_true h
theorem atI_mem {xs : List V} {z : Int} (h0 : 0 ≤ z) (h1 : z < xs.length) : ∃ v, atI xs z = some v ∧ xs[z.toNat]? = some v ∧ v ∈ xs := by
  have hl : z.toNat < xs.length := by omega
  have e := List.getElem?_eq_getElem hl
  exact ⟨xs[z.toNat], at_of (j := z.toNat) (by omega) e, e, List.getElem_mem hl⟩
theorem b2z (b : Bool) : (0 : Int) ≤ (if b = true then 1 else 0) ∧ (if b = true then (1 : Int) else 0) < 2 := by
  cases b
  · exact ⟨by decide, by decide⟩
  · exact ⟨by decide, by decide⟩
theorem small {n : Nat} (h : n ≤ 1000) : n ≤ sizeLine := Nat.le_of_lt (small1000 h)

/-! ### stores -/
structure Shelf where
  room : Int
  has : Int
  sticks : Int
structure Wish where
  kind : Str
  shelf : Int
  side : Str
  crew : Int
  keep : Int
  after : List Int
structure Sto where
  shelves : List Shelf
  aisle : Int
  wishes : List Wish
def Shelf.d (s : Shelf) : PyData := .tuple [.int s.room, .int s.has, .int s.sticks]
def Wish.d (w : Wish) : PyData := .tuple [.str w.kind, .int w.shelf, .str w.side, .int w.crew, .int w.keep, .tuple (dints w.after)]
def dshelves (l : List Shelf) : List PyData := l.map Shelf.d
def dwishes (l : List Wish) : List PyData := l.map Wish.d
def Sto.d (s : Sto) : PyData := .tuple [.list (dshelves s.shelves), .int s.aisle, .list (dwishes s.wishes)]
/-- numbers that rise, from lo to below n -/
def Rising : Int → Int → List Int → Prop
  | _, _, [] => True
  | lo, n, i :: r => lo ≤ i ∧ i < n ∧ Rising (i + 1) n r
structure ShelfOk (s : Shelf) : Prop where
  h0 : 0 ≤ s.has
  h1 : s.has ≤ s.room
  h2 : s.room ≤ 9
  st : s.sticks = 0 ∨ s.sticks = 1
structure WishOk (n m : Int) (w : Wish) : Prop where
  kind : w.kind = "fetch" ∨ w.kind = "bring"
  s0 : 0 ≤ w.shelf
  s1 : w.shelf < n
  side : w.side = "left" ∨ w.side = "right" ∨ w.side = "any"
  crew : w.crew = 0 ∨ w.crew = 1
  k0 : 0 ≤ w.keep
  k3 : w.keep ≤ 3
  after : Rising 0 m w.after
structure StoOk (s : Sto) : Prop where
  n1 : 1 ≤ s.shelves.length
  n5 : s.shelves.length ≤ 5
  sh : ∀ x ∈ s.shelves, ShelfOk x
  a0 : 0 ≤ s.aisle
  a1 : s.aisle ≤ s.shelves.length
  w5 : s.wishes.length ≤ 5
  ws : ∀ x ∈ s.wishes, WishOk s.shelves.length s.wishes.length x
theorem Rising.more {lo n m : Int} {l : List Int} (h : n ≤ m) : Rising lo n l → Rising lo m l := by
  induction l generalizing lo with
  | nil => exact fun _ => trivial
  | cons i r ih =>
    rintro ⟨h1, h2, h3⟩
    exact ⟨h1, by omega, ih h3⟩
theorem Rising.take {lo n : Int} {l : List Int} (k : Nat) (h : Rising lo n l) : Rising lo n (l.take k) := by
  induction l generalizing lo k with
  | nil => simpa using h
  | cons i r ih =>
    obtain ⟨h1, h2, h3⟩ := h
    cases k with
    | zero => trivial
    | succ k => exact ⟨h1, h2, ih k h3⟩
theorem Rising.snoc {lo n i : Int} {l : List Int} (h : Rising lo i l) (h0 : lo ≤ i) (h1 : i < n) : Rising lo n (l ++ [i]) := by
  induction l generalizing lo with
  | nil => exact ⟨h0, h1, trivial⟩
  | cons j r ih =>
    obtain ⟨a, b, c⟩ := h
    exact ⟨a, by omega, ih c (by omega)⟩
theorem Rising.mem {lo n : Int} {l : List Int} (h : Rising lo n l) {i : Int} (m : i ∈ l) : lo ≤ i ∧ i < n := by
  induction l generalizing lo with
  | nil => simp at m
  | cons j r ih =>
    obtain ⟨a, b, c⟩ := h
    rcases List.mem_cons.mp m with rfl | m
    · exact ⟨a, b⟩
    · have := ih c m
      omega
section
variable {K : PySem.W.Frag} {H : Hp} {v : V}
theorem shelf_at {s : Shelf} (h : Dp K H v s.d) : ∃ a, v = .ref a ∧ SqT K H a [.int s.room, .int s.has, .int s.sticks] := by
  obtain ⟨a, xs, rfl, h1, h2⟩ := dp_tup h
  obtain ⟨x, r, rfl, e1, h2⟩ := dps_cons h2
  obtain ⟨y, r, rfl, e2, h2⟩ := dps_cons h2
  obtain ⟨z, r, rfl, e3, h2⟩ := dps_cons h2
  obtain rfl := dps_nil h2
  rw [dp_int e1, dp_int e2, dp_int e3] at h1
  exact ⟨a, rfl, h1⟩
theorem at_shelf {s : Shelf} {a : Addr} (h : SqT K H a [.int s.room, .int s.has, .int s.sticks]) : Dp K H (.ref a) s.d := .tup h (.cons (.int _) (.cons (.int _) (.cons (.int _) .nil)))
theorem wish_at {s : Wish} (h : Dp K H v s.d) : ∃ a t, v = .ref a ∧ SqT K H a [.str s.kind, .int s.shelf, .str s.side, .int s.crew, .int s.keep, .ref t] ∧ SqT K H t (s.after.map V.int) := by
  obtain ⟨a, xs, rfl, h1, h2⟩ := dp_tup h
  obtain ⟨x, r, rfl, e1, k3⟩ := dps_cons h2
  obtain ⟨x, r, rfl, e2, k4⟩ := dps_cons k3
  obtain ⟨x, r, rfl, e3, k5⟩ := dps_cons k4
  obtain ⟨x, r, rfl, e4, k6⟩ := dps_cons k5
  obtain ⟨x, r, rfl, e5, k7⟩ := dps_cons k6
  obtain ⟨x, r, rfl, e6, k8⟩ := dps_cons k7
  obtain ⟨t, rfl, ht⟩ := dp_ints e6
  obtain rfl := dps_nil k8
  rw [dp_str e1, dp_int e2, dp_str e3, dp_int e4, dp_int e5] at h1
  exact ⟨a, t, rfl, h1, ht⟩
theorem at_wish {s : Wish} {a t : Addr} (h : SqT K H a [.str s.kind, .int s.shelf, .str s.side, .int s.crew, .int s.keep, .ref t]) (g : SqT K H t (s.after.map V.int)) : Dp K H (.ref a) s.d :=
  .tup h (.cons (.str _) (.cons (.int _) (.cons (.str _) (.cons (.int _) (.cons (.int _) (.cons (.tup g (ints_dps _)) .nil))))))
/-- a store's tuple -/
structure StoAt (K : PySem.W.Frag) (H : Hp) (a l m : Addr) (xs ys : List V) (s : Sto) : Prop where
  t : SqT K H a [.ref l, .int s.aisle, .ref m]
  l : SqL K H l xs
  dx : DpAll K H xs (dshelves s.shelves)
  m : SqL K H m ys
  dy : DpAll K H ys (dwishes s.wishes)
theorem StoAt.mono {H' : Hp} {a l m : Addr} {xs ys : List V} {s : Sto} (e : Same H H') (h : StoAt K H a l m xs ys s) : StoAt K H' a l m xs ys s := ⟨Same.t e h.t, Same.l e h.l, dps_mono e h.dx, Same.l e h.m, dps_mono e h.dy⟩
theorem sto_at {s : Sto} (h : Dp K H v s.d) : ∃ a l m xs ys, v = .ref a ∧ StoAt K H a l m xs ys s := by
  obtain ⟨a, xs, rfl, h1, h2⟩ := dp_tup h
  obtain ⟨x, r, rfl, e1, k3⟩ := dps_cons h2
  obtain ⟨y, r, rfl, e2, k4⟩ := dps_cons k3
  obtain ⟨z, r, rfl, e3, k5⟩ := dps_cons k4
  obtain ⟨l, xs, rfl, hl, dl⟩ := dp_lst e1
  obtain ⟨m, ys, rfl, hm, dm⟩ := dp_lst e3
  obtain rfl := dps_nil k5
  rw [dp_int e2] at h1
  exact ⟨a, l, m, xs, ys, rfl, h1, hl, dl, hm, dm⟩
theorem StoAt.d {a l m : Addr} {xs ys : List V} {s : Sto} (h : StoAt K H a l m xs ys s) : Dp K H (.ref a) s.d := .tup h.t (.cons (.lst h.l h.dx) (.cons (.int _) (.cons (.lst h.m h.dy) .nil)))
theorem StoAt.lx {a l m : Addr} {xs ys : List V} {s : Sto} (h : StoAt K H a l m xs ys s) : xs.length = s.shelves.length := by rw [dps_len h.dx]; exact List.length_map ..
theorem StoAt.ly {a l m : Addr} {xs ys : List V} {s : Sto} (h : StoAt K H a l m xs ys s) : ys.length = s.wishes.length := by rw [dps_len h.dy]; exact List.length_map ..
theorem shelf_get {xs : List V} {l : List Shelf} (h : DpAll K H xs (dshelves l)) {i : Nat} {s : Shelf} (e : l[i]? = some s) : ∃ a, xs[i]? = some (.ref a) ∧ SqT K H a [.int s.room, .int s.has, .int s.sticks] := by
  obtain ⟨x, h1, h2⟩ := dps_get h (i := i) (d := s.d) (by unfold dshelves; rw [List.getElem?_map, e]; rfl)
  obtain ⟨a, rfl, h3⟩ := shelf_at h2
  exact ⟨a, h1, h3⟩
theorem wish_get {xs : List V} {l : List Wish} (h : DpAll K H xs (dwishes l)) {i : Nat} {s : Wish} (e : l[i]? = some s) : ∃ a t, xs[i]? = some (.ref a) ∧ SqT K H a [.str s.kind, .int s.shelf, .str s.side, .int s.crew, .int s.keep, .ref t] ∧ SqT K H t (s.after.map V.int) := by
  obtain ⟨x, h1, h2⟩ := dps_get h (i := i) (d := s.d) (by unfold dwishes; rw [List.getElem?_map, e]; rfl)
  obtain ⟨a, t, rfl, h3, h4⟩ := wish_at h2
  exact ⟨a, t, h1, h3, h4⟩
end

/-! ### the row of draws: a list of the script and two numbers, which every draw changes. B: what is known besides -/
structure RowP where
  r : Addr
  a : Addr
  ns : List Int
structure RowSt (K : PySem.W.Frag) (ρ : RowP) (B H : Hp) : Prop where
  same : Same B H
  free : B ρ.r = none
  scr : SqL K B ρ.a (ρ.ns.map V.int)
  row : ∃ n1 n2 : Int, H ρ.r = some (.lst [.ref ρ.a, .int n1, .int n2]) ∧ 0 ≤ n1
section
variable {K : PySem.W.Frag} {ρ : RowP} {p : Addr} {B B' H : Hp} {o : HO}
theorem RowSt.nr (R : RowSt K ρ B H) (h : H p = none) : ρ.r ≠ p := by
  obtain ⟨n1, n2, e, _⟩ := R.row
  exact ne_of_none e h
/-- a new object -/
theorem RowSt.grow (R : RowSt K ρ B H) (h : H p = none) : RowSt K ρ (upd B p o) (upd H p o) := by
  obtain ⟨n1, n2, e, g⟩ := R.row
  have z := R.same.free h
  exact ⟨Same.grow R.same h, by rw [upd_ne (R.nr h)]; exact R.free, Same.l (same_new z) R.scr, n1, n2, by rw [upd_ne (R.nr h)]; exact e, g⟩
/-- a new object that B is not told of -/
theorem RowSt.new (R : RowSt K ρ B H) (h : H p = none) : RowSt K ρ B (upd H p o) := by
  obtain ⟨n1, n2, e, g⟩ := R.row
  exact ⟨Same.new R.same h, R.free, R.scr, n1, n2, by rw [upd_ne (R.nr h)]; exact e, g⟩
/-- B knows one more that stands -/
theorem RowSt.add (R : RowSt K ρ B H) (h : H p = some o) (hr : ρ.r ≠ p) (hb : B p = none) : RowSt K ρ (upd B p o) H := by
  obtain ⟨n1, n2, e, g⟩ := R.row
  exact ⟨Same.add R.same h, by rw [upd_ne hr]; exact R.free, Same.l (same_new hb) R.scr, n1, n2, e, g⟩
/-- what B does not know is changed -/
theorem RowSt.put (R : RowSt K ρ B H) (hr : ρ.r ≠ p) (hb : B p = none) : RowSt K ρ B (upd H p o) := by
  obtain ⟨n1, n2, e, g⟩ := R.row
  exact ⟨Same.put R.same hb, R.free, R.scr, n1, n2, by rw [upd_ne hr]; exact e, g⟩
/-- B is told less -/
theorem RowSt.less (R : RowSt K ρ B H) (s : Same B' B) (hl : SqL K B' ρ.a (ρ.ns.map V.int)) : RowSt K ρ B' H :=
  ⟨s.trans R.same, s.free R.free, hl, R.row⟩
end
def spTaken (K : PySem.W.Frag) : Sp := fun vs H Q _ => ∃ (ρ : RowP) (m : Int) (B : Hp), vs = [.ref ρ.r, .int m] ∧ 0 < m ∧ RowSt K ρ B H ∧ ∀ z H', 0 ≤ z → z < m → RowSt K ρ B H' → Q (.int z) H'
end Ais
set_option Elab.async false
set_option linter.all false
set_option maxRecDepth 100000
set_option maxHeartbeats 4000000
namespace Ais
open PySem PySem.Spec PyProof.Rows L2
def topS (i : Nat) : Stmt := PySem.Challenge.pw_aisleshift_k11_stores_refused.main.body.getD i (.Pass ⟨0, 0, 0, 0⟩)

/-! ## the drawing of numbers and stores -/
structure Tx (K : PySem.W.Frag) (mg : Str → Option Value) : Prop where
  n_len : mg "len" = none
  n_list : mg "list" = none
  n_tuple : mg "tuple" = none
  n_sorted : mg "sorted" = none
  n_sum : mg "sum" = none
  n_min : mg "min" = none
  n_max : mg "max" = none
  n_int : mg "int" = none
  n_range : mg "range" = none
  n_enumerate : mg "enumerate" = none
  n_isinstance : mg "isinstance" = none
  n_ValueError : mg "ValueError" = none
section
variable {P : Program} {w : World} {K : PySem.W.Frag} {mg : Str → Option Value} {base : Heap}
/-! _law_taken: 0 _law_row, 1 _law_many, 2 _law_cell -/
abbrev s__law_taken : Stmt := topS 19
abbrev N__law_taken : List Str := ["_law_row", "_law_many", "_law_cell"]
theorem sc__law_taken : FnScope N__law_taken ["_law_row", "_law_many"] (defScope s__law_taken) := ⟨rfl, rfl, rfl, by decide +kernel, rfl, by decide +kernel, by decide +kernel⟩
theorem ok__law_taken {f : Addr} {fd : FuncData} (D : Dfs K mg "_law_taken" s__law_taken ["_law_row", "_law_many"] f fd) (T : Tx K mg) : Cal P w K mg base 1 "_law_taken" ["_law_row", "_law_many"] (spTaken K) f fd := by
  refine D.cal (D.F.ok sc__law_taken (fun vs H Q E h => ?_) (fun cdv A outer s H vs Q E hr h => ?_))
  · obtain ⟨ρ, m, B, rfl, _⟩ := h
    rfl
  · obtain ⟨ρ, m, B, rfl, hm, R, q⟩ := h
    obtain ⟨n1, n2, hrow, hn1⟩ := R.row
    refine ⟨_, (pss_cons (ps_asg (pe_op op_add (pe_ix (kix_list (K := K)) (pv 0) pe_int (fun _ _ => rfl)) pe_int) (pg_sub (pv 0) pe_int set_list))
      (pss_cons (ps_if (pt_cmpR op_gt (pe_ix (kix_list (K := K)) (pv 0) pe_int (fun _ _ => rfl)) (pe_callB (klen (K := K)) (by rfl) T.n_len (by decide +kernel) (pa_cons (pe_ix (kix_list (K := K)) (pv 0) pe_int (fun _ _ => rfl)) pa_nil)) (nomark _)) (pss_cons (ps_asg (pe_op op_mod (pe_op op_add (pe_op op_mul (pe_ix (kix_list (K := K)) (pv 0) pe_int (fun _ _ => rfl)) pe_int) pe_int) pe_int) (pg_sub (pv 0) pe_int set_list))
      (pss_one (ps_ret (pe_op op_mod (pe_op op_fdiv (pe_ix (kix_list (K := K)) (pv 0) pe_int (fun _ _ => rfl)) pe_int) (pv 1))))) pss_nil)
      (pss_cons (ps_set (i := 2) sc__law_taken.nd rfl (Or.inl rfl) (pe_ix (kix_list (K := K)) (pe_ix (kix_list (K := K)) (pv 0) pe_int (fun _ _ => rfl)) (pe_op op_sub (pe_ix (kix_list (K := K)) (pv 0) pe_int (fun _ _ => rfl)) pe_int) (fun _ _ => rfl)))
      (pss_cons (ps_asg (pe_op op_mod (pe_op op_add (pe_op op_add (pe_op op_mul (pe_ix (kix_list (K := K)) (pv 0) pe_int (fun _ _ => rfl)) pe_int) (pv 2)) pe_int) pe_int) (pg_sub (pv 0) pe_int set_list))
      (pss_one (ps_ret (pe_op op_mod (pv 2) (pv 1)))))))), ?_⟩
    -- row[1] = row[1] + 1
    refine ⟨_, rfl, ρ.r, _, 1, .int n1, rfl, rfl, SqL.of hrow, rfl, n1, 1, rfl, rfl, _, rfl, ρ.r, _, 1, 1, rfl, rfl, hrow, rfl, ?_⟩
    have R1 : RowSt K ρ B (upd H ρ.r (.lst [.ref ρ.a, .int (n1 + 1), .int n2])) := ⟨Same.put R.same R.free, R.free, R.scr, n1 + 1, n2, upd_same, by omega⟩
    -- if row[1] > len(row[0])
    refine ⟨_, rfl, ρ.r, _, 1, .int (n1 + 1), rfl, rfl, SqL.of upd_same, rfl, _, rfl, ρ.r, _, 0, .ref ρ.a, rfl, rfl, SqL.of upd_same, rfl, ρ.a, _, rfl, .inl (Same.l R1.same R1.scr), n1 + 1, _, rfl, rfl, _, rfl, ite2 (fun e => ?_) (fun e => ?_)⟩
    · -- the script is used up
      refine ⟨_, rfl, ρ.r, _, 2, .int n2, rfl, rfl, SqL.of upd_same, rfl, n2, 48271, rfl, rfl, .inr ⟨by decide, by decide⟩, _, 11, rfl, rfl, _, 2147483647, rfl, rfl, (by show (0 : Int) < 2147483647; decide), _, rfl, ρ.r, _, 2, 2, rfl, rfl, upd_same, rfl, ?_⟩
      have R2 : RowSt K ρ B (upd (upd H ρ.r (.lst [.ref ρ.a, .int (n1 + 1), .int n2])) ρ.r (.lst [.ref ρ.a, .int (n1 + 1), .int ((n2 * 48271 + 11) % 2147483647)])) := ⟨Same.put R1.same R.free, R.free, R.scr, n1 + 1, _, upd_same, by omega⟩
      refine ⟨_, rfl, ρ.r, _, 2, .int ((n2 * 48271 + 11) % 2147483647), rfl, rfl, SqL.of upd_same, rfl, _, 7, rfl, rfl, ⟨by decide, by decide⟩, _, rfl, _, m, rfl, rfl, hm, ?_⟩
      exact q _ _ (Int.emod_nonneg _ (by omega)) (Int.emod_lt_of_pos _ hm) R2
    · have hlt : n1 < (ρ.ns.map V.int).length := by
        have z := nod e
        omega
      have hat : atI (ρ.ns.map V.int) (n1 + 1 - 1) = some (.int (ρ.ns.getD n1.toNat 0)) := by
        have hl : n1.toNat < ρ.ns.length := by
          rw [List.length_map] at hlt
          omega
        refine at_of (j := n1.toNat) (by omega) ?_
        rw [List.getElem?_map, List.getElem?_eq_getElem hl]
        simp [List.getD, hl]
      refine ⟨_, rfl, ρ.r, _, 0, .ref ρ.a, rfl, rfl, SqL.of upd_same, rfl, _, rfl, ρ.r, _, 1, .int (n1 + 1), rfl, rfl, SqL.of upd_same, rfl, n1 + 1, 1, rfl, rfl, ρ.a, _, _, _, rfl, rfl, Same.l R1.same R1.scr, hat, ?_⟩
      generalize ρ.ns.getD n1.toNat 0 = cell
      refine ⟨_, rfl, ρ.r, _, 2, .int n2, rfl, rfl, SqL.of upd_same, rfl, n2, 48271, rfl, rfl, .inr ⟨by decide, by decide⟩, _, rfl, _, cell, rfl, rfl, _, 11, rfl, rfl, _, 2147483647, rfl, rfl, (by show (0 : Int) < 2147483647; decide), _, rfl, ρ.r, _, 2, 2, rfl, rfl, upd_same, rfl, ?_⟩
      have R2 : RowSt K ρ B (upd (upd H ρ.r (.lst [.ref ρ.a, .int (n1 + 1), .int n2])) ρ.r (.lst [.ref ρ.a, .int (n1 + 1), .int ((n2 * 48271 + cell + 11) % 2147483647)])) := ⟨Same.put R1.same R.free, R.free, R.scr, n1 + 1, _, upd_same, by omega⟩
      refine ⟨_, rfl, _, rfl, _, m, rfl, rfl, hm, ?_⟩
      exact q _ _ (Int.emod_nonneg _ (by omega)) (Int.emod_lt_of_pos _ hm) R2
end

section
variable {P : Program} {w : World} {K : PySem.W.Frag} {mg : Str → Option Value} {base : Heap}
def spWish (K : PySem.W.Frag) : Sp := fun vs H Q _ => ∃ (ρ : RowP) (n m : Int) (B : Hp), vs = [.ref ρ.r, .int n, .int m] ∧ 0 < n ∧ 0 ≤ m ∧ m ≤ 5 ∧ RowSt K ρ B H ∧
  ∀ v B' H' (x : Wish), Same B B' → RowSt K ρ B' H' → Dp K B' v x.d → WishOk n m x → Q v H'
/-! _law_wish: 0 _law_row, 1 _law_shelves, 2 _law_many, 3 _law_kind, 4 _law_side, 5 _law_after, 6 _law_k -/
abbrev s__law_wish : Stmt := topS 20
abbrev N__law_wish : List Str := ["_law_row", "_law_shelves", "_law_many", "_law_kind", "_law_side", "_law_after", "_law_k"]
theorem sc__law_wish : FnScope N__law_wish ["_law_row", "_law_shelves", "_law_many"] (defScope s__law_wish) := ⟨rfl, rfl, rfl, by decide +kernel, rfl, by decide +kernel, by decide +kernel⟩
theorem ok__law_wish {f f1 : Addr} {fd fd1 : FuncData} (D : Dfs K mg "_law_wish" s__law_wish ["_law_row", "_law_shelves", "_law_many"] f fd) (T : Tx K mg) (C__law_taken : Cal P w K mg base 1 "_law_taken" ["_law_row", "_law_many"] (spTaken K) f1 fd1) :
    Cal P w K mg base 2 "_law_wish" ["_law_row", "_law_shelves", "_law_many"] (spWish K) f fd := by
  refine D.cal (D.F.ok sc__law_wish (fun vs H Q E h => ?_) (fun cdv A outer s H vs Q E hr h => ?_))
  · obtain ⟨ρ, n, m, B, rfl, _⟩ := h
    rfl
  · obtain ⟨ρ, n, m, B, rfl, hn, hm, hm5, R, q⟩ := h
    refine ⟨_, (pss_cons (ps_set (i := 3) sc__law_wish.nd rfl (Or.inl rfl) (pe_ix (kix_list (K := K)) (pe_lst (pa_cons pe_str (pa_cons pe_str pa_nil))) (pe_call C__law_taken.G (hr.mono (by decide)) (by rfl) C__law_taken.g C__law_taken.kp C__law_taken.b .nil pass0 (pa_cons (pv 0) (pa_cons pe_int pa_nil))) (fun _ _ => rfl)))
      (pss_cons (ps_set (i := 4) sc__law_wish.nd rfl (Or.inl rfl) (pe_ix (kix_list (K := K)) (pe_lst (pa_cons pe_str (pa_cons pe_str (pa_cons pe_str (pa_cons pe_str pa_nil))))) (pe_call C__law_taken.G (hr.mono (by decide)) (by rfl) C__law_taken.g C__law_taken.kp C__law_taken.b .nil pass0 (pa_cons (pv 0) (pa_cons pe_int pa_nil))) (fun _ _ => rfl)))
      (pss_cons (ps_setLc (i := 5) (own := [("_law_k", 6)]) (g := gName 6) rfl sc__law_wish.nd rfl rfl (sw_true rfl rfl rfl (by decide +kernel)) (pi_range1 (by rfl) T.n_range (pa_cons (pv 2) pa_nil)) (blkOk_by (own := [("_law_k", 6)]) (N := N__law_wish) (sc := defScope s__law_wish) (by decide +kernel)) (fun _ _ _ _ _ => (pg_name (i := 6) sc__law_wish.nd rfl (Or.inl rfl))) (fun _ _ _ _ _ => (pts_one (pt_cmpR op_eq (pe_call C__law_taken.G (hr.mono (by decide)) (by rfl) C__law_taken.g C__law_taken.kp C__law_taken.b .nil pass0 (pa_cons (pv 0) (pa_cons (pe_ix (kix_list (K := K)) (pe_lst (pa_cons pe_int (pa_cons pe_int pa_nil))) (pe_callTy call_int1 (by rfl) T.n_int (by decide +kernel) (pa_cons (pe_cmpR op_eq (pv 6) pe_int (nomark _)) pa_nil)) (fun _ _ => rfl)) pa_nil))) pe_int (nomark _)))) (fun _ _ _ _ _ => (pv 6)))
      (C8.pss_cut (ps_if (pt_cmpR op_gt (pe_call C__law_taken.G (hr.mono (by decide)) (by rfl) C__law_taken.g C__law_taken.kp C__law_taken.b .nil pass0 (pa_cons (pv 0) (pa_cons pe_int pa_nil))) pe_int (nomark _)) (pss_one (ps_set (i := 5) sc__law_wish.nd rfl (Or.inl rfl) (pe_slice (ksl_list (K := K)) (pv 5) po_none (po_some pe_int)))) pss_nil)
      (pss_one (ps_ret (pe_tup (pa_cons (pv 3) (pa_cons (pe_call C__law_taken.G (hr.mono (by decide)) (by rfl) C__law_taken.g C__law_taken.kp C__law_taken.b .nil pass0 (pa_cons (pv 0) (pa_cons (pv 1) pa_nil))) (pa_cons (pv 4) (pa_cons (pe_call C__law_taken.G (hr.mono (by decide)) (by rfl) C__law_taken.g C__law_taken.kp C__law_taken.b .nil pass0 (pa_cons (pv 0) (pa_cons pe_int pa_nil))) (pa_cons (pe_ix (kix_list (K := K)) (pe_lst (pa_cons pe_int (pa_cons pe_int (pa_cons pe_int (pa_cons pe_int (pa_cons pe_int pa_nil)))))) (pe_call C__law_taken.G (hr.mono (by decide)) (by rfl) C__law_taken.g C__law_taken.kp C__law_taken.b .nil pass0 (pa_cons (pv 0) (pa_cons pe_int pa_nil))) (fun _ _ => rfl)) (pa_cons (pe_callTy (ktuple_of (K := K)) (by rfl) T.n_tuple (by decide +kernel) (pa_cons (pv 5) pa_nil)) pa_nil))))))))))))), ?_⟩
    -- kind
    refine ⟨small (by decide), fun p np => ⟨_, rfl, ρ, 2, upd B p _, rfl, by decide, R.grow np, fun z H1 z0 z1 R1 => ?_⟩⟩
    obtain ⟨v, hv, _, hmem⟩ := atI_mem (xs := [V.str "fetch", V.str "bring"]) z0 z1
    obtain ⟨kd, rfl, hkd⟩ : ∃ kd : Str, v = V.str kd ∧ (kd = "fetch" ∨ kd = "bring") := by
      rcases List.mem_cons.mp hmem with rfl | hmem
      · exact ⟨_, rfl, .inl rfl⟩
      · rcases List.mem_cons.mp hmem with rfl | hmem
        · exact ⟨_, rfl, .inr rfl⟩
        · simp at hmem
    refine ⟨p, _, z, _, rfl, rfl, SqL.of (R1.same _ _ upd_same), hv, ?_⟩
    have sB1 : Same B (upd B p (.lst [V.str "fetch", V.str "bring"])) := same_new (R.same.free np)
    generalize upd B p (.lst [V.str "fetch", V.str "bring"]) = B1 at R1 sB1
    -- side
    refine ⟨small (by decide), fun p2 np2 => ⟨_, rfl, ρ, 4, upd B1 p2 _, rfl, by decide, R1.grow np2, fun z2 H2 z20 z21 R2 => ?_⟩⟩
    obtain ⟨v, hv, _, hmem⟩ := atI_mem (xs := [V.str "any", V.str "any", V.str "left", V.str "right"]) z20 z21
    obtain ⟨sd, rfl, hsd⟩ : ∃ sd : Str, v = V.str sd ∧ (sd = "left" ∨ sd = "right" ∨ sd = "any") := by
      simp only [List.mem_cons, List.not_mem_nil, or_false] at hmem
      rcases hmem with rfl | rfl | rfl | rfl
      · exact ⟨_, rfl, .inr (.inr rfl)⟩
      · exact ⟨_, rfl, .inr (.inr rfl)⟩
      · exact ⟨_, rfl, .inl rfl⟩
      · exact ⟨_, rfl, .inr (.inl rfl)⟩
    refine ⟨p2, _, z2, _, rfl, rfl, SqL.of (R2.same _ _ upd_same), hv, ?_⟩
    have sB2 : Same B (upd B1 p2 (.lst [V.str "any", V.str "any", V.str "left", V.str "right"])) := sB1.trans (same_new (R1.same.free np2))
    generalize upd B1 p2 (.lst [V.str "any", V.str "any", V.str "left", V.str "right"]) = B2 at R2 sB2
    -- after = [..]
    refine ⟨_, rfl, m, rfl, by omega, by omega, fun D nD => lc_range (lo := 0) (n := m.toNat) (fun i H' => ∃ B', Same B2 B' ∧ RowSt K ρ B' H' ∧ B' D = none ∧ ∃ acc : List Int, H' D = some (.lst (acc.map V.int)) ∧ Rising 0 i acc ∧ acc.length ≤ i) ?_ ?_ ?_⟩
    · exact ⟨B2, Same.refl _, R2.new nD, R2.same.free nD, [], upd_same, trivial, Nat.le_refl _⟩
    · rintro i H3 hi ⟨B3, s3, R3, bD, acc, eD, ris, hlen⟩
      have hrD : ρ.r ≠ D := fun e => by
        obtain ⟨n1, n2, er, _⟩ := R2.row
        rw [e, nD] at er
        cases er
      refine ⟨rfl, ?_⟩
      have R4 := R3.add eD hrD bD
      -- [4, 3][int(k == 0)]
      refine ⟨_, rfl, small (by decide), fun p4 np4 => ⟨_, rfl, rfl, .inr ⟨_, rfl, ?_⟩⟩⟩
      have R5 := R4.grow (o := .lst [V.int 4, V.int 3]) np4
      obtain ⟨x0, x1⟩ := b2z (decide (V.int (0 + (i : Int)) = V.int 0))
      obtain ⟨v, hv, _, hmem⟩ := atI_mem (xs := [V.int 4, V.int 3]) x0 x1
      obtain ⟨c, rfl, hc⟩ : ∃ c : Int, v = V.int c ∧ 0 < c := by
        simp only [List.mem_cons, List.not_mem_nil, or_false] at hmem
        rcases hmem with rfl | rfl
        · exact ⟨_, rfl, by decide⟩
        · exact ⟨_, rfl, by decide⟩
      refine ⟨p4, _, _, _, rfl, rfl, SqL.of upd_same, hv, ρ, c, _, rfl, hc, R5, fun z5 H5 z50 z51 R6 => ?_⟩
      have eD5 : H5 D = some (.lst (acc.map V.int)) := R6.same _ _ (by
        have nDp : D ≠ p4 := ne_of_none eD np4
        rw [upd_ne nDp]
        exact upd_same)
      have sB : Same B3 (upd (upd B3 D (.lst (acc.map V.int))) p4 (.lst [V.int 4, V.int 3])) := (same_new bD).trans (same_new (R4.same.free np4))
      have R7 : RowSt K ρ B3 H5 := R6.less sB R3.scr
      refine ⟨rfl, _, rfl, ite2 (fun e => ?_) (fun e => ?_)⟩
      · refine ⟨_, rfl, _, eD5, Nat.lt_of_le_of_lt (by rw [List.length_map]; exact hlen) (small1000 (by omega)), B3, s3, R7.put hrD bD, bD, acc ++ [(i : Int)], ?_, ris.snoc (by omega) (by omega), by rw [List.length_append]; exact Nat.succ_le_succ hlen⟩
        rw [upd_same, List.map_append]
        show some (HO.lst (acc.map V.int ++ [V.int (0 + (i : Int))])) = _
        rw [Int.zero_add]
        rfl
      · exact ⟨B3, s3, R7, bD, acc, eD5, ris.more (by omega), Nat.le_succ_of_le hlen⟩
    · rintro H3 ⟨B3, s3, R3, bD, acc, eD, ris, hlen⟩
      have hrD : ρ.r ≠ D := fun e => by
        obtain ⟨n1, n2, er, _⟩ := R2.row
        rw [e, nD] at er
        cases er
      have ris' : Rising 0 m acc := ris.more (by omega)
      have R4 := R3.add eD hrD bD
      have sB4 : Same B (upd B3 D (.lst (acc.map V.int))) := (sB2.trans s3).trans (same_new bD)
      have lD : SqL K (upd B3 D (.lst (acc.map V.int))) D (acc.map V.int) := SqL.of upd_same
      generalize upd B3 D (.lst (acc.map V.int)) = B4 at R4 sB4 lD
      have hlen5 : acc.length ≤ 5 := by omega
      -- if taken(row, 8) > 0: after = after[:2]
      refine ⟨fun σ H' => ∃ (l : Addr) (acc : List Int) (B' : Hp), σ = [some (.ref ρ.r), some (.int n), some (.int m), some (.str kd), some (.str sd), some (.ref l), none] ∧ Same B B' ∧ RowSt K ρ B' H' ∧ SqL K B' l (acc.map V.int) ∧ Rising 0 m acc ∧ acc.length ≤ 5, ?_, ?_⟩
      · refine ⟨_, rfl, ρ, 8, B4, rfl, by decide, R4, fun z5 H5 z50 z51 R5 => ⟨z5, 0, rfl, rfl, _, rfl, ite2 (fun e => ?_) (fun e => ?_)⟩⟩
        · refine ⟨_, rfl, 2, rfl, D, _, rfl, Same.l R5.same lD, fun p5 np5 => ?_⟩
          refine ⟨p5, acc.take 2, upd B4 p5 (.lst ((acc.take 2).map V.int)), rfl, sB4.trans (same_new (R5.same.free np5)), ?_, SqL.of upd_same, ris'.take 2, ?_⟩
          · have e : cutV (acc.map V.int) none (some 2) = (acc.take 2).map V.int := by
              unfold cutV
              rw [HT.sIx_none, show HT.sIx (acc.map V.int).length (acc.map V.int).length (some 2) = min 2 (acc.map V.int).length from HT.sIx_nat _ _ 2]
              rw [List.drop_zero, List.map_take, Nat.sub_zero]
              by_cases h2 : 2 ≤ (acc.map V.int).length
              · rw [Nat.min_eq_left h2]
              · rw [Nat.min_eq_right (by omega), List.take_of_length_le (Nat.le_refl _), List.take_of_length_le (by omega)]
            rw [e]
            exact R5.grow np5
          · rw [List.length_take]
            omega
        · exact ⟨D, acc, B4, rfl, sB4, R5, lD, ris', hlen5⟩
      · rintro σ H5 ⟨l, acc, B5, rfl, sB5, R5, lD, ris, hl5⟩
        -- return (kind, taken(row, shelves), side, taken(row, 2), [0, 0, 1, 2, 3][taken(row, 5)], tuple(after))
        refine ⟨_, rfl, _, rfl, _, rfl, ρ, n, B5, rfl, hn, R5, fun zs H6 zs0 zs1 R6 => ⟨_, rfl, _, rfl, ρ, 2, B5, rfl, by decide, R6, fun zc H7 zc0 zc1 R7 => ⟨small (by decide), fun p7 np7 => ⟨_, rfl, ρ, 5, upd B5 p7 _, rfl, by decide, R7.grow np7, fun zk H8 zk0 zk1 R8 => ?_⟩⟩⟩⟩
        obtain ⟨v, hv, _, hmem⟩ := atI_mem (xs := [V.int 0, V.int 0, V.int 1, V.int 2, V.int 3]) zk0 zk1
        obtain ⟨kp, rfl, hk0, hk3⟩ : ∃ c : Int, v = V.int c ∧ 0 ≤ c ∧ c ≤ 3 := by
          simp only [List.mem_cons, List.not_mem_nil, or_false] at hmem
          rcases hmem with rfl | rfl | rfl | rfl | rfl <;> exact ⟨_, rfl, by decide, by decide⟩
        have sB8 := sB5.trans (same_new (o := .lst [V.int 0, V.int 0, V.int 1, V.int 2, V.int 3]) (R7.same.free np7))
        have l8 := Same.l (same_new (o := .lst [V.int 0, V.int 0, V.int 1, V.int 2, V.int 3]) (R7.same.free np7)) lD
        have e8 := R8.same _ _ upd_same
        generalize upd B5 p7 (.lst [V.int 0, V.int 0, V.int 1, V.int 2, V.int 3]) = B8 at R8 sB8 l8
        refine ⟨p7, _, zk, _, rfl, rfl, SqL.of e8, hv, _, rfl, l, _, rfl, .inl ⟨Same.l R8.same l8, fun pt npt => ?_⟩⟩
        have R9 := R8.grow (o := .tup (acc.map V.int)) npt
        have sB9 := sB8.trans (same_new (o := .tup (acc.map V.int)) (R8.same.free npt))
        refine ⟨small (by simp), fun pw npw => ?_⟩
        have R10 := R9.grow (o := .tup [.str kd, .int zs, .str sd, .int zc, .int kp, .ref pt]) npw
        have sB10 := sB9.trans (same_new (o := .tup [.str kd, .int zs, .str sd, .int zc, .int kp, .ref pt]) (R9.same.free npw))
        refine q _ _ _ ⟨kd, zs, sd, zc, kp, acc⟩ sB10 R10 (at_wish (t := pt) (SqT.of upd_same) (SqT.of ?_)) ⟨hkd, zs0, zs1, hsd, by dsimp only; omega, hk0, hk3, ris⟩
        have n1 : pt ≠ pw := ne_of_none upd_same npw
        rw [upd_ne n1]
        exact upd_same
end

/-- a list at l that grows beside the draws: its items stand in B, itself it doesn't -/
structure Acc (K : PySem.W.Frag) (ρ : RowP) (B0 B H : Hp) (l : Addr) (xs : List V) (ds : List PyData) : Prop where
  s : Same B0 B
  R : RowSt K ρ B H
  bl : B l = none
  el : H l = some (.lst xs)
  dx : DpAll K B xs ds
  nr : ρ.r ≠ l
def del1 (H : Hp) (a : Addr) : Hp := fun b => if b = a then none else H b
theorem del1_ne {H : Hp} {a b : Addr} (h : b ≠ a) : del1 H a b = H b := if_neg h
theorem del1_same {H : Hp} {a : Addr} : del1 H a a = none := if_pos rfl
theorem same_del {B B' : Hp} {l : Addr} (s : Same B B') (h : B l = none) : Same B (del1 B' l) := fun b o e => by
  rw [del1_ne (ne_of_none e h)]
  exact s b o e
theorem sqt_del {K : PySem.W.Frag} {B : Hp} {l a : Addr} {xs ys : List V} (e : B l = some (.lst xs)) (h : SqT K B a ys) : SqT K (del1 B l) a ys := by
  rcases h with (h | ⟨o, h⟩) | h
  · refine .inl (.inl ?_)
    rw [del1_ne (fun z => by rw [z, e] at h; cases h)]
    exact h
  · refine .inl (.inr ⟨o, ?_⟩)
    rw [del1_ne (fun z => by rw [z, e] at h; cases h)]
    exact h
  · exact .inr h
theorem wish_del {K : PySem.W.Frag} {B : Hp} {l : Addr} {xs : List V} {v : V} {x : Wish} (e : B l = some (.lst xs)) (h : Dp K B v x.d) : Dp K (del1 B l) v x.d := by
  obtain ⟨a, t, rfl, h1, h2⟩ := wish_at h
  exact at_wish (sqt_del e h1) (sqt_del e h2)
section
variable {K : PySem.W.Frag} {ρ : RowP} {B0 B B' H H' : Hp} {l p : Addr} {xs : List V} {ds : List PyData} {o : HO}
theorem Acc.now (A : Acc K ρ B0 B H l xs ds) : RowSt K ρ (upd B l (.lst xs)) H := A.R.add A.el A.nr A.bl
theorem Acc.back (A : Acc K ρ B0 B H l xs ds) (R : RowSt K ρ (upd B l (.lst xs)) H') : Acc K ρ B0 B H' l xs ds :=
  ⟨A.s, R.less (same_new A.bl) A.R.scr, A.bl, R.same _ _ upd_same, A.dx, A.nr⟩
theorem Acc.back2 (A : Acc K ρ B0 B H l xs ds) (s : Same (upd B l (.lst xs)) B') (R : RowSt K ρ B' H') : Acc K ρ B0 (del1 B' l) H' l xs ds := by
  have s1 : Same B (del1 B' l) := same_del ((same_new A.bl).trans s) A.bl
  exact ⟨A.s.trans s1, R.less (fun b o e => by
    by_cases hb : b = l
    · rw [hb, del1_same] at e
      cases e
    · rw [del1_ne hb] at e
      exact e) (Same.l s1 A.R.scr), del1_same, R.same _ _ (s _ _ upd_same), dps_mono s1 A.dx, A.nr⟩
theorem Acc.grow (A : Acc K ρ B0 B H l xs ds) (h : H p = none) : Acc K ρ B0 (upd B p o) (upd H p o) l xs ds := by
  have n : l ≠ p := ne_of_none A.el h
  have z := A.R.same.free h
  exact ⟨A.s.trans (same_new z), A.R.grow h, by rw [upd_ne n]; exact A.bl, by rw [upd_ne n]; exact A.el, dps_mono (same_new z) A.dx, A.nr⟩
theorem Acc.app {v : V} {d : PyData} (A : Acc K ρ B0 B H l xs ds) (h : Dp K B v d) : Acc K ρ B0 B (upd H l (.lst (xs ++ [v]))) l (xs ++ [v]) (ds ++ [d]) :=
  ⟨A.s, A.R.put A.nr A.bl, A.bl, upd_same, dps_app A.dx (.cons h .nil), A.nr⟩
theorem Acc.start (s : Same B0 B) (R : RowSt K ρ B H) (h : H l = none) : Acc K ρ B0 B (upd H l (.lst [])) l [] [] :=
  ⟨s, R.new h, R.same.free h, upd_same, .nil, R.nr h⟩
/-- it is finished: B may know it -/
theorem Acc.done (A : Acc K ρ B0 B H l xs ds) : RowSt K ρ (upd B l (.lst xs)) H ∧ Same B0 (upd B l (.lst xs)) ∧ SqL K (upd B l (.lst xs)) l xs ∧ DpAll K (upd B l (.lst xs)) xs ds :=
  ⟨A.now, A.s.trans (same_new A.bl), SqL.of upd_same, dps_mono (same_new A.bl) A.dx⟩
end
section
variable {P : Program} {w : World} {K : PySem.W.Frag} {mg : Str → Option Value} {base : Heap}
def spStore (K : PySem.W.Frag) : Sp := fun vs H Q _ => ∃ (ρ : RowP) (B : Hp), vs = [.ref ρ.r] ∧ RowSt K ρ B H ∧
  ∀ v B' H' (S : Sto), Same B B' → RowSt K ρ B' H' → Dp K B' v S.d → StoOk S → Q v H'
/-! _law_store: 0 _law_row, 1 _law_shelves, 2 _law_k, 3 _law_room, 4 _law_aisle, 5 _law_many, 6 _law_wishes -/
abbrev s__law_store : Stmt := topS 21
abbrev N__law_store : List Str := ["_law_row", "_law_shelves", "_law_k", "_law_room", "_law_aisle", "_law_many", "_law_wishes"]
theorem sc__law_store : FnScope N__law_store ["_law_row"] (defScope s__law_store) := ⟨rfl, rfl, rfl, by decide +kernel, rfl, by decide +kernel, by decide +kernel⟩
theorem ok__law_store {f f1 f2 : Addr} {fd fd1 fd2 : FuncData} (D : Dfs K mg "_law_store" s__law_store ["_law_row"] f fd) (T : Tx K mg) (C__law_taken : Cal P w K mg base 1 "_law_taken" ["_law_row", "_law_many"] (spTaken K) f1 fd1)
    (C__law_wish : Cal P w K mg base 2 "_law_wish" ["_law_row", "_law_shelves", "_law_many"] (spWish K) f2 fd2) :
    Cal P w K mg base 3 "_law_store" ["_law_row"] (spStore K) f fd := by
  refine D.cal (D.F.ok sc__law_store (fun vs H Q E h => ?_) (fun cdv A outer s H vs Q E hr h => ?_))
  · obtain ⟨ρ, B, rfl, _⟩ := h
    rfl
  · obtain ⟨ρ, B, rfl, R, q⟩ := h
    refine ⟨_, (pss_cons (ps_set (i := 1) sc__law_store.nd rfl (Or.inl rfl) (pe_lst pa_nil))
      (pss_cons (ps_for PassesOwn.never rfl (pi_range1 (by rfl) T.n_range (pa_cons (pe_op op_add pe_int (pe_call C__law_taken.G (hr.mono (by decide)) (by rfl) C__law_taken.g C__law_taken.kp C__law_taken.b .nil pass0 (pa_cons (pv 0) (pa_cons pe_int pa_nil)))) pa_nil)) (pg_name (i := 2) sc__law_store.nd rfl (Or.inl rfl)) (pss_cons (ps_set (i := 3) sc__law_store.nd rfl (Or.inl rfl) (pe_ix (kix_list (K := K)) (pe_lst (pa_cons (pe_op op_add pe_int (pe_call C__law_taken.G (hr.mono (by decide)) (by rfl) C__law_taken.g C__law_taken.kp C__law_taken.b .nil pass0 (pa_cons (pv 0) (pa_cons pe_int pa_nil)))) (pa_cons pe_int (pa_cons (pe_call C__law_taken.G (hr.mono (by decide)) (by rfl) C__law_taken.g C__law_taken.kp C__law_taken.b .nil pass0 (pa_cons (pv 0) (pa_cons pe_int pa_nil))) pa_nil)))) (pe_call C__law_taken.G (hr.mono (by decide)) (by rfl) C__law_taken.g C__law_taken.kp C__law_taken.b .nil pass0 (pa_cons (pv 0) (pa_cons pe_int pa_nil))) (fun _ _ => rfl)))
      (pss_one (ps_expr (pe_bm PySem.F.plainAttrs_list PySem.F.slot_list_append PySem.F.type_list_append mt_append (pv 1) (pa_cons (pe_tup (pa_cons (pv 3) (pa_cons (pe_call C__law_taken.G (hr.mono (by decide)) (by rfl) C__law_taken.g C__law_taken.kp C__law_taken.b .nil pass0 (pa_cons (pv 0) (pa_cons (pe_op op_add (pv 3) pe_int) pa_nil))) (pa_cons (pe_callTy call_int1 (by rfl) T.n_int (by decide +kernel) (pa_cons (pe_cmpR op_eq (pe_call C__law_taken.G (hr.mono (by decide)) (by rfl) C__law_taken.g C__law_taken.kp C__law_taken.b .nil pass0 (pa_cons (pv 0) (pa_cons pe_int pa_nil))) pe_int (nomark _)) pa_nil)) pa_nil)))) pa_nil))))))
      (pss_cons (ps_set (i := 4) sc__law_store.nd rfl (Or.inl rfl) (pe_call C__law_taken.G (hr.mono (by decide)) (by rfl) C__law_taken.g C__law_taken.kp C__law_taken.b .nil pass0 (pa_cons (pv 0) (pa_cons (pe_op op_add (pe_callB (klen (K := K)) (by rfl) T.n_len (by decide +kernel) (pa_cons (pv 1) pa_nil)) pe_int) pa_nil))))
      (pss_cons (ps_set (i := 5) sc__law_store.nd rfl (Or.inl rfl) (pe_ix (kix_list (K := K)) (pe_lst (pa_cons (pe_op op_add pe_int (pe_call C__law_taken.G (hr.mono (by decide)) (by rfl) C__law_taken.g C__law_taken.kp C__law_taken.b .nil pass0 (pa_cons (pv 0) (pa_cons pe_int pa_nil)))) (pa_cons (pe_call C__law_taken.G (hr.mono (by decide)) (by rfl) C__law_taken.g C__law_taken.kp C__law_taken.b .nil pass0 (pa_cons (pv 0) (pa_cons pe_int pa_nil))) pa_nil))) (pe_call C__law_taken.G (hr.mono (by decide)) (by rfl) C__law_taken.g C__law_taken.kp C__law_taken.b .nil pass0 (pa_cons (pv 0) (pa_cons pe_int pa_nil))) (fun _ _ => rfl)))
      (C8.pss_cut (ps_if (PW.pt (pw_and (pt_cmpR op_eq (pv 5) pe_int (nomark _)) (pw_and1 (pt_cmpR op_gt (pe_callB (klen (K := K)) (by rfl) T.n_len (by decide +kernel) (pa_cons (pv 1) pa_nil)) pe_int (nomark _))))) (pss_one (ps_set (i := 5) sc__law_store.nd rfl (Or.inl rfl) (pe_op op_add pe_int (pe_callTy call_int1 (by rfl) T.n_int (by decide +kernel) (pa_cons (pe_cmpR op_eq (pe_call C__law_taken.G (hr.mono (by decide)) (by rfl) C__law_taken.g C__law_taken.kp C__law_taken.b .nil pass0 (pa_cons (pv 0) (pa_cons pe_int pa_nil))) pe_int (nomark _)) pa_nil))))) pss_nil)
      (pss_cons (ps_set (i := 6) sc__law_store.nd rfl (Or.inl rfl) (pe_lst pa_nil))
      (pss_cons (ps_for PassesOwn.never rfl (pi_range1 (by rfl) T.n_range (pa_cons (pv 5) pa_nil)) (pg_name (i := 2) sc__law_store.nd rfl (Or.inl rfl)) (pss_one (ps_expr (pe_bm PySem.F.plainAttrs_list PySem.F.slot_list_append PySem.F.type_list_append mt_append (pv 6) (pa_cons (pe_call C__law_wish.G (hr.mono (by decide)) (by rfl) C__law_wish.g C__law_wish.kp C__law_wish.b .nil pass0 (pa_cons (pv 0) (pa_cons (pe_callB (klen (K := K)) (by rfl) T.n_len (by decide +kernel) (pa_cons (pv 1) pa_nil)) (pa_cons (pe_ix (kix_list (K := K)) (pe_lst (pa_cons (pv 2) (pa_cons (pv 5) pa_nil))) (pe_callTy call_int1 (by rfl) T.n_int (by decide +kernel) (pa_cons (pe_cmpR op_eq (pe_call C__law_taken.G (hr.mono (by decide)) (by rfl) C__law_taken.g C__law_taken.kp C__law_taken.b .nil pass0 (pa_cons (pv 0) (pa_cons pe_int pa_nil))) pe_int (nomark _)) pa_nil)) (fun _ _ => rfl)) pa_nil)))) pa_nil)))))
      (pss_one (ps_ret (pe_tup (pa_cons (pv 1) (pa_cons (pv 4) (pa_cons (pv 6) pa_nil))))))))))))), ?_⟩
    -- shelves = []
    refine ⟨small (by simp), fun l nl => ?_⟩
    have A0 : Acc K ρ B B (upd H l (.lst [])) l [] [] := Acc.start (Same.refl _) R nl
    -- for k in range(1 + taken(row, 5))
    refine ⟨_, rfl, ρ, 5, _, rfl, by decide, A0.now, fun z H1 z0 z1 R1 => ⟨1, z, rfl, rfl, _, rfl, by omega, by omega, ?_⟩⟩
    refine for_range (lo := 0) (n := (1 + z).toNat) (fun i σ H' => ∃ (B' : Hp) (xs : List V) (ss : List Shelf) (v2 v3 : Option V), σ = [some (.ref ρ.r), some (.ref l), v2, v3, none, none, none] ∧ Acc K ρ B B' H' l xs (dshelves ss) ∧ (∀ s ∈ ss, ShelfOk s) ∧ ss.length = i)
      ⟨B, [], [], none, none, rfl, A0.back R1, fun s h => absurd h (by simp), rfl⟩ ?_ ?_
    · rintro i σ H2 hi ⟨B2, xs, ss, v2, v3, rfl, A2, hss, hlen⟩
      -- room
      refine ⟨_, rfl, ρ, 3, _, rfl, by decide, A2.now, fun a H3 a0 a1 R3 => ⟨1, a, rfl, rfl, _, rfl, ρ, 10, _, rfl, by decide, R3, fun b H4 b0 b1 R4 => ⟨small (by simp), fun p np => ⟨_, rfl, ρ, 3, _, rfl, by decide, R4.grow np, fun c H5 c0 c1 R5 => ?_⟩⟩⟩⟩
      obtain ⟨v, hv, _, hmem⟩ := atI_mem (xs := [V.int (1 + a), V.int 9, V.int b]) c0 c1
      obtain ⟨room, rfl, hr0, hr9⟩ : ∃ c : Int, v = V.int c ∧ 0 ≤ c ∧ c ≤ 9 := by
        simp only [List.mem_cons, List.not_mem_nil, or_false] at hmem
        rcases hmem with rfl | rfl | rfl
        · exact ⟨_, rfl, by omega, by omega⟩
        · exact ⟨_, rfl, by omega, by omega⟩
        · exact ⟨_, rfl, by omega, by omega⟩
      refine ⟨p, _, c, _, rfl, rfl, SqL.of (R5.same _ _ upd_same), hv, ?_⟩
      have n1 : B2 p = none := (A2.back R4).R.same.free np
      have A5 : Acc K ρ B B2 H5 l xs (dshelves ss) := A2.back (R5.less (same_new (R4.same.free np)) A2.now.scr)
      -- shelves.append((room, taken(row, room + 1), int(taken(row, 9) == 8)))
      refine ⟨_, rfl, .inl ⟨rfl, _, SqL.of A5.el⟩, _, rfl, _, rfl, _, rfl, room, 1, rfl, rfl, ρ, room + 1, _, rfl, by omega, A5.now, fun h H6 h0 h1 R6 => ⟨_, rfl, ρ, 9, _, rfl, by decide, R6, fun t H7 t0 t1 R7 => ⟨rfl, .inr ⟨_, rfl, small (by simp), fun p2 np2 => ?_⟩⟩⟩⟩
      have hst : (if decide (V.int t = V.int 8) = true then (1 : Int) else 0) = 0 ∨ (if decide (V.int t = V.int 8) = true then (1 : Int) else 0) = 1 := by
        split
        · exact .inr rfl
        · exact .inl rfl
      generalize (if decide (V.int t = V.int 8) = true then (1 : Int) else 0) = st at hst
      have A7 := (A5.back R7).grow (o := .tup [.int room, .int h, .int st]) np2
      have A8 := A7.app (v := .ref p2) (d := Shelf.d ⟨room, h, st⟩) (at_shelf (SqT.of upd_same))
      refine ⟨l, xs, _, rfl, rfl, A7.el, ?_, ?_⟩
      · have e := dps_len A7.dx
        have e2 : (dshelves ss).length = ss.length := List.length_map ..
        exact small1000 (by omega)
      · refine ⟨upd B2 p2 (.tup [.int room, .int h, .int st]), xs ++ [.ref p2], ss ++ [⟨room, h, st⟩], _, _, rfl, ?_, ?_, by rw [List.length_append]; exact congrArg (· + 1) hlen⟩
        · have e : dshelves (ss ++ [⟨room, h, st⟩]) = dshelves ss ++ [Shelf.d ⟨room, h, st⟩] := List.map_append ..
          rw [e]
          exact A8
        · intro x hx
          rcases List.mem_append.mp hx with hx | hx
          · exact hss x hx
          · rw [List.mem_singleton] at hx
            subst hx
            exact ⟨h0, by dsimp only; omega, hr9, hst⟩
    · rintro σ H2 ⟨B2, xs, ss, v2, v3, rfl, A2, hss, hlen⟩
      have hxl : xs.length = ss.length := (dps_len A2.dx).trans (List.length_map ..)
      -- aisle = taken(row, len(shelves) + 1)
      refine ⟨_, rfl, _, rfl, l, xs, rfl, .inl (SqL.of A2.el), _, 1, rfl, rfl, ρ, _, _, rfl, by omega, A2.now, fun ai H3 ai0 ai1 R3 => ?_⟩
      -- many = [1 + taken(row, 3), taken(row, 6)][taken(row, 2)]
      refine ⟨_, rfl, ρ, 3, _, rfl, by decide, R3, fun a H4 a0 a1 R4 => ⟨1, a, rfl, rfl, _, rfl, ρ, 6, _, rfl, by decide, R4, fun b H5 b0 b1 R5 => ⟨small (by simp), fun p np => ⟨_, rfl, ρ, 2, _, rfl, by decide, R5.grow np, fun c H6 c0 c1 R6 => ?_⟩⟩⟩⟩
      obtain ⟨v, hv, _, hmem⟩ := atI_mem (xs := [V.int (1 + a), V.int b]) c0 c1
      obtain ⟨many, rfl, hm0, hm5⟩ : ∃ c : Int, v = V.int c ∧ 0 ≤ c ∧ c ≤ 5 := by
        simp only [List.mem_cons, List.not_mem_nil, or_false] at hmem
        rcases hmem with rfl | rfl
        · exact ⟨_, rfl, by omega, by omega⟩
        · exact ⟨_, rfl, by omega, by omega⟩
      refine ⟨p, _, c, _, rfl, rfl, SqL.of (R6.same _ _ upd_same), hv, ?_⟩
      have A6 : Acc K ρ B B2 H6 l xs (dshelves ss) := A2.back (R6.less (same_new (R5.same.free np)) A2.now.scr)
      -- if many == 5 and len(shelves) > 3
      refine ⟨fun σ H' => ∃ (many : Int), σ = [some (.ref ρ.r), some (.ref l), v2, v3, some (.int ai), some (.int many), none] ∧ Acc K ρ B B2 H' l xs (dshelves ss) ∧ 0 ≤ many ∧ many ≤ 5, ?_, ?_⟩
      · refine ⟨_, rfl, rfl, _, rfl, ite2 (fun e => ?_) (fun e => ?_)⟩
        · refine ⟨_, rfl, l, xs, rfl, .inl (SqL.of A6.el), _, 3, rfl, rfl, _, rfl, ite2 (fun e2 => ?_) (fun e2 => ?_)⟩
          · refine ⟨_, rfl, ρ, 4, _, rfl, by decide, A6.now, fun t H7 t0 t1 R7 => ⟨rfl, .inr ⟨_, rfl, 4, _, rfl, rfl, _, rfl, A6.back R7, ?_, ?_⟩⟩⟩
            · have := (b2z (decide (V.int t = V.int 3))).1
              omega
            · have := (b2z (decide (V.int t = V.int 3))).2
              omega
          · exact ⟨many, rfl, A6, hm0, hm5⟩
        · exact ⟨many, rfl, A6, hm0, hm5⟩
      · rintro σ H7 ⟨many, rfl, A7, hm0, hm5⟩
        obtain ⟨R7, s7, l7, d7⟩ := A7.done
        -- wishes = []
        refine ⟨small (by simp), fun m nm => ?_⟩
        have W0 : Acc K ρ (upd B2 l (.lst xs)) (upd B2 l (.lst xs)) (upd H7 m (.lst [])) m [] [] := Acc.start (Same.refl _) R7 nm
        -- for k in range(many)
        refine ⟨_, rfl, many, rfl, by omega, by omega, for_range (lo := 0) (n := many.toNat) (fun i σ H' => ∃ (B' : Hp) (ys : List V) (ws : List Wish) (v2 : Option V), σ = [some (.ref ρ.r), some (.ref l), v2, v3, some (.int ai), some (.int many), some (.ref m)] ∧ Acc K ρ (upd B2 l (.lst xs)) B' H' m ys (dwishes ws) ∧ (∀ x ∈ ws, WishOk ss.length many x) ∧ ws.length = i)
          ⟨_, [], [], v2, rfl, W0, fun s h => absurd h (by simp), rfl⟩ ?_ ?_⟩
        · rintro i σ H8 hi ⟨B8, ys, ws, v2, rfl, A8, hws, hwl⟩
          have l8 : SqL K B8 l xs := Same.l A8.s l7
          -- wishes.append(wish(row, len(shelves), [k, many][int(taken(row, 12) == 11)]))
          refine ⟨_, rfl, .inl ⟨rfl, _, SqL.of A8.el⟩, _, rfl, _, rfl, l, xs, rfl, .inl (Same.l A8.R.same l8), _, rfl, _, rfl, small (by simp), fun p np => ⟨_, rfl, ρ, 12, _, rfl, by decide, A8.now.grow np, fun t H9 t0 t1 R9 => ⟨rfl, .inr ⟨_, rfl, ?_⟩⟩⟩⟩
          obtain ⟨x0, x1⟩ := b2z (decide (V.int t = V.int 11))
          obtain ⟨v, hv, _, hmem⟩ := atI_mem (xs := [V.int (0 + (i : Int)), V.int many]) x0 x1
          obtain ⟨c, rfl, hc0, hc1⟩ : ∃ c : Int, v = V.int c ∧ 0 ≤ c ∧ c ≤ many := by
            simp only [List.mem_cons, List.not_mem_nil, or_false] at hmem
            rcases hmem with rfl | rfl
            · exact ⟨_, rfl, by omega, by omega⟩
            · exact ⟨_, rfl, by omega, by omega⟩
          have A9 : Acc K ρ _ B8 H9 m ys (dwishes ws) := A8.back (R9.less (same_new (A8.now.same.free np)) A8.now.scr)
          refine ⟨p, _, _, _, rfl, rfl, SqL.of (R9.same _ _ upd_same), hv, ρ, xs.length, c, _, rfl, by omega, hc0, by omega, A9.now, fun v B10 H10 x s10 R10 d10 hx => ?_⟩
          have A10 := A9.back2 s10 R10
          have A11 := A10.app (wish_del (s10 _ _ upd_same) d10)
          refine ⟨m, ys, _, rfl, rfl, A10.el, ?_, ?_⟩
          · have e := dps_len A10.dx
            have e2 : (dwishes ws).length = ws.length := List.length_map ..
            exact small1000 (by omega)
          · refine ⟨del1 B10 m, ys ++ [v], ws ++ [x], _, rfl, ?_, ?_, by rw [List.length_append]; exact congrArg (· + 1) hwl⟩
            · have e : dwishes (ws ++ [x]) = dwishes ws ++ [x.d] := List.map_append ..
              rw [e]
              exact A11
            · intro y hy
              rcases List.mem_append.mp hy with hy | hy
              · exact hws y hy
              · rw [List.mem_singleton] at hy
                subst hy
                rw [hxl] at hx
                exact ⟨hx.kind, hx.s0, hx.s1, hx.side, hx.crew, hx.k0, hx.k3, hx.after.more hc1⟩
        · rintro σ H8 ⟨B8, ys, ws, v2, rfl, A8, hws, hwl⟩
          obtain ⟨R8, s8, l8, d8⟩ := A8.done
          -- return (shelves, aisle, wishes)
          refine ⟨_, rfl, _, rfl, _, rfl, small (by simp), fun p np => ?_⟩
          have z := R8.same.free np
          have e1 : Same (upd B2 l (.lst xs)) (upd (upd B8 m (.lst ys)) p (.tup [.ref l, .int ai, .ref m])) := s8.trans (same_new z)
          refine q _ _ _ ⟨ss, ai, ws⟩ (s7.trans e1) (R8.grow np) (StoAt.d (l := l) (m := m) (xs := xs) (ys := ys) ⟨SqT.of upd_same, Same.l e1 l7, dps_mono e1 d7, Same.l (same_new z) l8, dps_mono (same_new z) d8⟩) ?_
          have hws' : ∀ x ∈ ws, WishOk ss.length ws.length x := fun x hx => by
            have e : (ws.length : Int) = many := by omega
            rw [e]
            exact hws x hx
          exact ⟨by dsimp only; omega, by dsimp only; omega, hss, ai0, by dsimp only; omega, by dsimp only; omega, hws'⟩
end

/-! ## stores -/
structure Tc (K : PySem.W.Frag) (mg : Str → Option Value) : Prop where
  c_MOST_SHELVES : ∃ t, mg "MOST_SHELVES" = some (.int 5 t)
  c_MOST_ROOM : ∃ t, mg "MOST_ROOM" = some (.int 9 t)
  c_MOST_WISHES : ∃ t, mg "MOST_WISHES" = some (.int 5 t)
  c_MOST_KEEP : ∃ t, mg "MOST_KEEP" = some (.int 3 t)
  c_KINDS : ∃ a, mg "KINDS" = some (.ref a) ∧ ∀ H, SqT K H a [.str "fetch", .str "bring"]
  c_SIDES : ∃ a, mg "SIDES" = some (.ref a) ∧ ∀ H, SqT K H a [.str "left", .str "right", .str "any"]
structure TSx (K : PySem.W.Frag) (mg : Str → Option Value) (C fI fS fW : Addr) (fdI fdS fdW : FuncData) : Prop where
  cl : Cls K C
  mkS : Mk K C fI
  g : mg "Store" = some (.ref C)
  nS : NoAttr K C "_shelves"
  nW : NoAttr K C "_wishes"
  nA : NoAttr K C "aisle"
  m_shelves : Meth K C "shelves" fS
  m_wishes : Meth K C "wishes" fW
  b_init : Binds K fdI ["self", "shelves", "aisle", "wishes"] []
  b_shelves : Binds K fdS ["self"] []
  b_wishes : Binds K fdW ["self"] []
def fsS (l m : Addr) (a : Int) : List (Str × V) := putF "aisle" (.int a) (putF "_wishes" (.ref m) (putF "_shelves" (.ref l) []))
theorem neWS : ¬ (("_shelves" : Str) = "_wishes") := by decide +kernel
theorem neSA : ¬ (("_shelves" : Str) = "aisle") := by decide +kernel
theorem neWA : ¬ (("_wishes" : Str) = "aisle") := by decide +kernel
theorem nshA : ¬ (("shelves" : Str) = "aisle") := by decide +kernel
theorem nshW : ¬ (("shelves" : Str) = "_wishes") := by decide +kernel
theorem nshS : ¬ (("shelves" : Str) = "_shelves") := by decide +kernel
theorem nwiA : ¬ (("wishes" : Str) = "aisle") := by decide +kernel
theorem nwiW : ¬ (("wishes" : Str) = "_wishes") := by decide +kernel
theorem nwiS : ¬ (("wishes" : Str) = "_shelves") := by decide +kernel
theorem fsS_sh {l m : Addr} {a : Int} : (fsS l m a).lookup ("_shelves" : Str) = some (.ref l) := by
  unfold fsS
  rw [lookup_putF, if_neg neSA, lookup_putF, if_neg neWS, lookup_putF, if_pos rfl]
theorem fsS_wi {l m : Addr} {a : Int} : (fsS l m a).lookup ("_wishes" : Str) = some (.ref m) := by
  unfold fsS
  rw [lookup_putF, if_neg neWA, lookup_putF, if_pos rfl]
theorem fsS_ai {l m : Addr} {a : Int} : (fsS l m a).lookup ("aisle" : Str) = some (.int a) := by
  unfold fsS
  rw [lookup_putF, if_pos rfl]
theorem fsS_m1 {l m : Addr} {a : Int} : (fsS l m a).lookup ("shelves" : Str) = none := by
  unfold fsS
  rw [lookup_putF, if_neg nshA, lookup_putF, if_neg nshW, lookup_putF, if_neg nshS]
  rfl
theorem fsS_m2 {l m : Addr} {a : Int} : (fsS l m a).lookup ("wishes" : Str) = none := by
  unfold fsS
  rw [lookup_putF, if_neg nwiA, lookup_putF, if_neg nwiW, lookup_putF, if_neg nwiS]
  rfl
theorem putF_len (f : Str) (v : V) : ∀ fs : List (Str × V), (putF f v fs).length ≤ fs.length + 1
  | [] => Nat.le_refl _
  | (g, x) :: r => by
    unfold putF
    split
    · exact Nat.le_succ _
    · exact Nat.succ_le_succ (putF_len f v r)
/-- the store's object -/
structure ObAt (K : PySem.W.Frag) (C : Addr) (H : Hp) (p dx l m : Addr) (xs ys : List V) (S : Sto) : Prop where
  o : H p = some (.ins C dx (fsS l m S.aisle))
  l : SqL K H l xs
  dx : DpAll K H xs (dshelves S.shelves)
  m : SqL K H m ys
  dy : DpAll K H ys (dwishes S.wishes)
def Ob (K : PySem.W.Frag) (C : Addr) (H : Hp) (p : Addr) (S : Sto) : Prop := ∃ dx l m xs ys, ObAt K C H p dx l m xs ys S
theorem Ob.mono {K : PySem.W.Frag} {C : Addr} {H H' : Hp} {p : Addr} {S : Sto} (s : Same H H') : Ob K C H p S → Ob K C H' p S := by
  rintro ⟨dx, l, m, xs, ys, h⟩
  exact ⟨dx, l, m, xs, ys, s _ _ h.o, Same.l s h.l, dps_mono s h.dx, Same.l s h.m, dps_mono s h.dy⟩
theorem rising_iff {lo n i : Int} {l : List Int} : Rising lo n (i :: l) ↔ lo ≤ i ∧ i < n ∧ Rising (i + 1) n l := Iff.rfl
section
variable {P : Program} {w : World} {K : PySem.W.Frag} {mg : Str → Option Value} {base : Heap}
def spRising (K : PySem.W.Frag) : Sp := fun vs H Q _ => ∃ (t : Addr) (l : List Int) (m : Int), vs = [.ref t, .int m] ∧ SqT K H t (l.map V.int) ∧ ∀ b, (b = true ↔ Rising 0 m l) → Q (.bl b) H
/-! _is_rising: 0 numbers, 1 many, 2 lowest, 3 number -/
abbrev s__is_rising : Stmt := topS 17
abbrev N__is_rising : List Str := ["numbers", "many", "lowest", "number"]
theorem sc__is_rising : FnScope N__is_rising ["numbers", "many"] (defScope s__is_rising) := ⟨rfl, rfl, rfl, by decide +kernel, rfl, by decide +kernel, by decide +kernel⟩
theorem ok__is_rising {f : Addr} {fd : FuncData} (D : Dfs K mg "_is_rising" s__is_rising ["numbers", "many"] f fd) : Cal P w K mg base 1 "_is_rising" ["numbers", "many"] (spRising K) f fd := by
  refine D.cal (D.F.ok sc__is_rising (fun vs H Q E h => ?_) (fun cdv A outer s H vs Q E hr h => ?_))
  · obtain ⟨t, l, m, rfl, _⟩ := h
    rfl
  · obtain ⟨t, l, m, rfl, ht, q⟩ := h
    refine ⟨_, (pss_cons (ps_set (i := 2) sc__is_rising.nd rfl (Or.inl rfl) pe_int)
      (pss_cons (ps_for PassesOwn.never rfl (pi_tup (pv 0)) (pg_name (i := 3) sc__is_rising.nd rfl (Or.inl rfl)) (pss_cons (ps_if (pt_not (pt_chain op_le op_lt (pv 2) (pv 3) (pv 1))) (pss_one (ps_ret pe_bl)) pss_nil)
      (pss_one (ps_set (i := 2) sc__is_rising.nd rfl (Or.inl rfl) (pe_op op_add (pv 3) pe_int)))))
      (pss_one (ps_ret pe_bl)))), ?_⟩
    refine ⟨_, rfl, t, rfl, ⟨_, ht⟩, for_tup (K := K) (a := t) (xs := l.map V.int) (fun i σ H' => ∃ (lo : Int) (v : Option V), σ = [some (.ref t), some (.int m), some (.int lo), v] ∧ H' = H ∧ (Rising 0 m l ↔ Rising lo m (l.drop i)))
      ⟨0, none, rfl, rfl, Iff.rfl⟩ (fun i σ H' _ ⟨_, _, _, e, _⟩ => by rw [e]; exact ht) ?_ ?_⟩
    · rintro i y σ H' hi ⟨lo, v, rfl, rfl, hri⟩
      obtain ⟨z, hz, rfl⟩ : ∃ z, l[i]? = some z ∧ y = V.int z := by
        rw [List.getElem?_map] at hi
        cases e : l[i]? with
        | none =>
          rw [e] at hi
          cases hi
        | some z =>
          rw [e] at hi
          exact ⟨z, rfl, (Option.some.inj hi).symm⟩
      have hd : l.drop i = z :: l.drop (i + 1) := by
        obtain ⟨h1, h2⟩ := List.getElem?_eq_some_iff.mp hz
        rw [List.drop_eq_getElem_cons h1, h2]
      rw [hd, rising_iff] at hri
      refine ⟨_, rfl, _, rfl, _, _, rfl, rfl, _, rfl, ite2 (fun e => ?_) (fun e => ?_)⟩
      · have e1 := yed e
        refine ⟨_, rfl, _, _, rfl, rfl, _, rfl, ite2 (fun e => ?_) (fun e => ?_)⟩
        · have e2 : ¬ z < m := by
            intro z2
            rw [decide_eq_true z2] at e
            cases e
          exact q false ⟨fun h => absurd h (by decide), fun h => absurd (hri.mp h).2.1 e2⟩
        · have e2 : z < m := by
            by_cases z2 : z < m
            · exact z2
            · rw [decide_eq_false z2] at e
              exact absurd rfl e
          refine ⟨_, rfl, _, _, rfl, rfl, z + 1, some (.int z), rfl, rfl, ?_⟩
          exact hri.trans ⟨fun h => h.2.2, fun h => ⟨e1, e2, h⟩⟩
      · have e1 := nod e
        refine ⟨_, rfl, iteT ?_⟩
        exact q false ⟨fun h => absurd h (by decide), fun h => absurd (hri.mp h).1 e1⟩
    · rintro σ H' ⟨lo, v, rfl, rfl, hri⟩
      rw [List.length_map, List.drop_length] at hri
      exact q true ⟨fun _ => hri.mpr trivial, fun _ => rfl⟩
def spIsShelf (K : PySem.W.Frag) : Sp := fun vs H Q _ => ∃ (v : V) (s : Shelf), vs = [v] ∧ Dp K H v s.d ∧ ∀ b H', (b = true ↔ ShelfOk s) → Same H H' → Q (.bl b) H'
/-! _is_shelf: 0 shelf, 1 room, 2 has, 3 sticks -/
abbrev s__is_shelf : Stmt := topS 15
abbrev N__is_shelf : List Str := ["shelf", "room", "has", "sticks"]
theorem sc__is_shelf : FnScope N__is_shelf ["shelf"] (defScope s__is_shelf) := ⟨rfl, rfl, rfl, by decide +kernel, rfl, by decide +kernel, by decide +kernel⟩
theorem ok__is_shelf {f : Addr} {fd : FuncData} (D : Dfs K mg "_is_shelf" s__is_shelf ["shelf"] f fd) (T : Tx K mg) (Tk : Tc K mg) : Cal P w K mg base 1 "_is_shelf" ["shelf"] (spIsShelf K) f fd := by
  obtain ⟨_, g_MOST_ROOM⟩ := Tk.c_MOST_ROOM
  refine D.cal (D.F.ok sc__is_shelf (fun vs H Q E h => ?_) (fun cdv A outer s H vs Q E hr h => ?_))
  · obtain ⟨v, S, rfl, _⟩ := h
    rfl
  · obtain ⟨v, S, rfl, hv, q⟩ := h
    obtain ⟨a, rfl, ha⟩ := shelf_at hv
    refine ⟨_, (pss_cons (ps_if (PW.pt (pw_or (pt_not (pt_val (pe_callB (kisi (K := K)) (by rfl) T.n_isinstance (by decide +kernel) (pa_cons (pv 0) (pa_cons (pe_bltn (v := .ty "tuple") (by rfl) T.n_tuple boot_tuple rfl) pa_nil))))) (pw_or1 (pt_cmpR op_ne (pe_callB (klen (K := K)) (by rfl) T.n_len (by decide +kernel) (pa_cons (pv 0) pa_nil)) pe_int (nomark _))))) (pss_one (ps_ret pe_bl)) pss_nil)
      (pss_cons (ps_asg (pv 0) (pg_tup (by rfl) (pgs_cons (pg_name (i := 1) sc__is_shelf.nd rfl (Or.inl rfl)) (pgs_cons (pg_name (i := 2) sc__is_shelf.nd rfl (Or.inl rfl)) (pgs_cons (pg_name (i := 3) sc__is_shelf.nd rfl (Or.inl rfl)) pgs_nil)))))
      (pss_one (ps_ret (pe_and (pe_chain3 op_le op_le op_le pe_int (pv 2) (pv 1) (pe_glob (v := .int 9) (by rfl) g_MOST_ROOM ⟨_, rfl⟩)) (pe_one (pe_cmpR (kin_seq (K := K)) (pv 3) (pe_tup (pa_cons pe_int (pa_cons pe_int pa_nil))) (by rfl)))))))), ?_⟩
    refine ⟨_, rfl, _, _, _, _, true, rfl, .ty "tuple", tyx_tup ha, kit_ty (by decide +kernel), _, rfl, iteF ⟨_, rfl, a, _, rfl, .inr ha, rfl, _, rfl, iteF ?_⟩⟩
    refine ⟨_, rfl, a, _, rfl, ha, rfl, _, _, rfl, _, _, rfl, _, _, rfl, rfl, ?_⟩
    refine ⟨_, rfl, _, _, rfl, rfl, _, rfl, ite2 (fun e => ?_) (fun e => ?_)⟩
    · have e1 := yed e
      refine ⟨_, rfl, _, _, rfl, rfl, _, rfl, ite2 (fun e => ?_) (fun e => ?_)⟩
      · have e2 := yed e
        refine ⟨_, _, rfl, rfl, _, rfl, ite2 (fun e => ?_) (fun e => ?_)⟩
        · have e3 := yed e
          refine ⟨_, rfl, small (by simp), fun p np => ⟨p, _, rfl, .inr tup_new, rfl, rfl, ?_⟩⟩
          refine q _ _ ?_ (same_new np)
          show inV (.int S.sticks) [.int 0, .int 1] = true ↔ _
          unfold inV
          simp only [List.any_cons, List.any_nil, Bool.or_false, Bool.or_eq_true]
          constructor
          · intro h
            refine ⟨e1, e2, e3, ?_⟩
            rcases h with h | h
            · exact .inl (by simpa [eqV] using Eq.symm (of_decide_eq_true h))
            · exact .inr (by simpa [eqV] using Eq.symm (of_decide_eq_true h))
          · rintro ⟨_, _, _, h | h⟩
            · exact .inl (by rw [h]; rfl)
            · exact .inr (by rw [h]; rfl)
        · have e3 := nod e
          exact q false _ ⟨fun h => absurd h (by decide), fun h => absurd h.h2 e3⟩ (Same.refl _)
      · have e2 := nod e
        exact ⟨_, rfl, iteF (q false _ ⟨fun h => absurd h (by decide), fun h => absurd h.h1 e2⟩ (Same.refl _))⟩
    · have e1 := nod e
      exact ⟨_, rfl, iteF (q false _ ⟨fun h => absurd h (by decide), fun h => absurd h.h0 e1⟩ (Same.refl _))⟩
end

section
variable {P : Program} {w : World} {K : PySem.W.Frag} {mg : Str → Option Value} {base : Heap}
def spIsWish (K : PySem.W.Frag) : Sp := fun vs H Q _ => ∃ (v : V) (x : Wish) (n m : Int), vs = [v, .int n, .int m] ∧ Dp K H v x.d ∧ ∀ b H', (b = true ↔ WishOk n m x) → Same H H' → Q (.bl b) H'
/-! _is_wish: 0 wish, 1 many_shelves, 2 many_wishes, 3 kind, 4 shelf, 5 side, 6 crew, 7 keep, 8 after -/
abbrev s__is_wish : Stmt := topS 16
abbrev N__is_wish : List Str := ["wish", "many_shelves", "many_wishes", "kind", "shelf", "side", "crew", "keep", "after"]
theorem sc__is_wish : FnScope N__is_wish ["wish", "many_shelves", "many_wishes"] (defScope s__is_wish) := ⟨rfl, rfl, rfl, by decide +kernel, rfl, by decide +kernel, by decide +kernel⟩
theorem ok__is_wish {f f1 : Addr} {fd fd1 : FuncData} (D : Dfs K mg "_is_wish" s__is_wish ["wish", "many_shelves", "many_wishes"] f fd) (T : Tx K mg) (Tk : Tc K mg) (C__is_rising : Cal P w K mg base 1 "_is_rising" ["numbers", "many"] (spRising K) f1 fd1) :
    Cal P w K mg base 2 "_is_wish" ["wish", "many_shelves", "many_wishes"] (spIsWish K) f fd := by
  obtain ⟨_, g_MOST_KEEP⟩ := Tk.c_MOST_KEEP
  obtain ⟨a_KINDS, g_KINDS, hK⟩ := Tk.c_KINDS
  obtain ⟨a_SIDES, g_SIDES, hSd⟩ := Tk.c_SIDES
  refine D.cal (D.F.ok sc__is_wish (fun vs H Q E h => ?_) (fun cdv A outer s H vs Q E hr h => ?_))
  · obtain ⟨v, x, n, m, rfl, _⟩ := h
    rfl
  · obtain ⟨v, x, n, m, rfl, hv, q⟩ := h
    obtain ⟨a, t, rfl, ha, ht⟩ := wish_at hv
    obtain ⟨kind, shelf, side, crew, keep, after⟩ := x
    dsimp only at ha ht
    refine ⟨_, (pss_cons (ps_if (PW.pt (pw_or (pt_not (pt_val (pe_callB (kisi (K := K)) (by rfl) T.n_isinstance (by decide +kernel) (pa_cons (pv 0) (pa_cons (pe_bltn (v := .ty "tuple") (by rfl) T.n_tuple boot_tuple rfl) pa_nil))))) (pw_or1 (pt_cmpR op_ne (pe_callB (klen (K := K)) (by rfl) T.n_len (by decide +kernel) (pa_cons (pv 0) pa_nil)) pe_int (nomark _))))) (pss_one (ps_ret pe_bl)) pss_nil)
      (pss_cons (ps_asg (pv 0) (pg_tup (by rfl) (pgs_cons (pg_name (i := 3) sc__is_wish.nd rfl (Or.inl rfl)) (pgs_cons (pg_name (i := 4) sc__is_wish.nd rfl (Or.inl rfl)) (pgs_cons (pg_name (i := 5) sc__is_wish.nd rfl (Or.inl rfl)) (pgs_cons (pg_name (i := 6) sc__is_wish.nd rfl (Or.inl rfl)) (pgs_cons (pg_name (i := 7) sc__is_wish.nd rfl (Or.inl rfl)) (pgs_cons (pg_name (i := 8) sc__is_wish.nd rfl (Or.inl rfl)) pgs_nil))))))))
      (pss_cons (ps_if (PW.pt (pw_or (pt_cmpR (knotIn_seq (K := K)) (pv 3) (pe_glob (v := .ref a_KINDS) (by rfl) g_KINDS rfl) (by rfl)) (pw_or (pt_cmpR (knotIn_seq (K := K)) (pv 5) (pe_glob (v := .ref a_SIDES) (by rfl) g_SIDES rfl) (by rfl)) (pw_or1 (pt_cmpR (knotIn_seq (K := K)) (pv 6) (pe_tup (pa_cons pe_int (pa_cons pe_int pa_nil))) (by rfl)))))) (pss_one (ps_ret pe_bl)) pss_nil)
      (pss_cons (ps_if (PW.pt (pw_or (pt_not (pt_chain op_le op_lt pe_int (pv 4) (pv 1))) (pw_or1 (pt_not (pt_chain op_le op_le pe_int (pv 7) (pe_glob (v := .int 3) (by rfl) g_MOST_KEEP ⟨_, rfl⟩)))))) (pss_one (ps_ret pe_bl)) pss_nil)
      (pss_one (ps_ret (pe_and (pe_callB (kisi (K := K)) (by rfl) T.n_isinstance (by decide +kernel) (pa_cons (pv 8) (pa_cons (pe_bltn (v := .ty "tuple") (by rfl) T.n_tuple boot_tuple rfl) pa_nil))) (pe_one (pe_call C__is_rising.G (hr.mono (by decide)) (by rfl) C__is_rising.g C__is_rising.kp C__is_rising.b .nil pass0 (pa_cons (pv 8) (pa_cons (pv 2) pa_nil))))))))))), ?_⟩
    refine ⟨_, rfl, _, _, _, _, true, rfl, .ty "tuple", tyx_tup ha, kit_ty (by decide +kernel), _, rfl, iteF ⟨_, rfl, a, _, rfl, .inr ha, rfl, _, rfl, iteF ?_⟩⟩
    refine ⟨_, rfl, a, _, rfl, ha, rfl, _, _, rfl, _, _, rfl, _, _, rfl, _, _, rfl, _, _, rfl, _, _, rfl, rfl, ?_⟩
    have ik : inV (.str kind) [.str "fetch", .str "bring"] = true ↔ kind = "fetch" ∨ kind = "bring" := by
      have e := inV_strs (x := kind) (l := ["fetch", "bring"])
      rw [List.mem_cons, List.mem_singleton] at e
      exact e
    have isd : inV (.str side) [.str "left", .str "right", .str "any"] = true ↔ side = "left" ∨ side = "right" ∨ side = "any" := by
      have e := inV_strs (x := side) (l := ["left", "right", "any"])
      rw [List.mem_cons, List.mem_cons, List.mem_singleton] at e
      exact e
    have ic : inV (.int crew) [.int 0, .int 1] = true ↔ crew = 0 ∨ crew = 1 := by
      have e := inV_ints (x := crew) (l := [0, 1])
      rw [List.mem_cons, List.mem_singleton] at e
      exact e
    refine ⟨_, rfl, a_KINDS, _, rfl, .inr (hK _), rfl, rfl, _, rfl, ite2 (fun e => iteT ?_) (fun e => ?_)⟩
    · have e1 : ¬ (kind = "fetch" ∨ kind = "bring") := fun z => by
        have z2 := ik.mpr z
        rw [if_pos rfl, z2] at e
        cases e
      exact q false _ ⟨fun h => absurd h (by decide), fun h => absurd h.kind e1⟩ (Same.refl _)
    have k1 : kind = "fetch" ∨ kind = "bring" := ik.mp (by
      rw [if_pos rfl] at e
      cases z : inV (.str kind) [.str "fetch", .str "bring"] with
      | true => rfl
      | false => rw [z] at e; exact absurd rfl e)
    refine ⟨_, rfl, a_SIDES, _, rfl, .inr (hSd _), rfl, rfl, _, rfl, ite2 (fun e => iteT ?_) (fun e => ?_)⟩
    · have e1 : ¬ (side = "left" ∨ side = "right" ∨ side = "any") := fun z => by
        have z2 := isd.mpr z
        rw [if_pos rfl, z2] at e
        cases e
      exact q false _ ⟨fun h => absurd h (by decide), fun h => absurd h.side e1⟩ (Same.refl _)
    have s1 : side = "left" ∨ side = "right" ∨ side = "any" := isd.mp (by
      rw [if_pos rfl] at e
      cases z : inV (.str side) [.str "left", .str "right", .str "any"] with
      | true => rfl
      | false => rw [z] at e; exact absurd rfl e)
    refine ⟨_, rfl, small (by simp), fun p np => ⟨p, _, rfl, .inr tup_new, rfl, rfl, _, rfl, ite2 (fun e => ?_) (fun e => ?_)⟩⟩
    · have e1 : ¬ (crew = 0 ∨ crew = 1) := fun z => by
        have z2 := ic.mpr z
        rw [if_pos rfl, z2] at e
        cases e
      exact q false _ ⟨fun h => absurd h (by decide), fun h => absurd h.crew e1⟩ (same_new np)
    have c1 : crew = 0 ∨ crew = 1 := ic.mp (by
      rw [if_pos rfl] at e
      cases z : inV (.int crew) [.int 0, .int 1] with
      | true => rfl
      | false => rw [z] at e; exact absurd rfl e)
    -- 0 <= shelf < many_shelves
    refine ⟨_, rfl, _, _, rfl, rfl, _, rfl, ite2 (fun e => ?_) (fun e => ?_)⟩
    rotate_left
    · have e1 := nod e
      exact ⟨_, rfl, iteT (iteT (q false _ ⟨fun h => absurd h (by decide), fun h => absurd h.s0 e1⟩ (same_new np)))⟩
    have e1 := yed e
    refine ⟨_, rfl, _, _, rfl, rfl, _, rfl, ?_⟩
    by_cases e2 : shelf < n
    rotate_left
    · exact itnF e2 (iteT (q false _ ⟨fun h => absurd h (by decide), fun h => absurd h.s1 e2⟩ (same_new np)))
    refine iteNS e2 ?_
    -- 0 <= keep <= MOST_KEEP
    refine ⟨_, rfl, _, _, rfl, rfl, _, rfl, ite2 (fun e => ?_) (fun e => ?_)⟩
    rotate_left
    · have e3 := nod e
      exact ⟨_, rfl, iteT (q false _ ⟨fun h => absurd h (by decide), fun h => absurd h.k0 e3⟩ (same_new np))⟩
    have e3 := yed e
    refine ⟨_, _, rfl, rfl, _, rfl, ?_⟩
    by_cases e4 : keep ≤ 3
    rotate_left
    · exact itnF e4 (q false _ ⟨fun h => absurd h (by decide), fun h => absurd h.k3 e4⟩ (same_new np))
    refine iteNS e4 ?_
    have ht2 := Same.t (same_new (o := .tup [.int 0, .int 1]) np) ht
    refine ⟨_, rfl, _, _, _, _, true, rfl, .ty "tuple", tyx_tup ht2, kit_ty (by decide +kernel), _, rfl, iteT ?_⟩
    refine ⟨_, rfl, _, rfl, t, after, m, rfl, ht2, fun b hb => q b _ ?_ (same_new np)⟩
    rw [hb]
    exact ⟨fun h => ⟨k1, e1, e2, s1, c1, e3, e4, h⟩, fun h => h.after⟩
end

/-! ## own errors: made, caught, asked -/
/-- a def that may raise, as its callers use it -/
structure CalX (P : Program) (w : World) (K : PySem.W.Frag) (mg : Str → Option Value) (base : Heap) (k : Nat) (x : Str) (ps : List Str) (sp : Sp) (f : Addr) (fd : FuncData) : Prop where
  G : FnOk P w K mg base (L2.CX P w) k f fd ps sp
  g : mg x = some (.ref f)
  kp : PySem.W.keepIn K (.ref f) = true
  b : Binds K fd ps []
theorem Dfs.calX {P : Program} {w : World} {K : PySem.W.Frag} {mg : Str → Option Value} {base : Heap} {k : Nat} {x : Str} {ps : List Str} {sp : Sp} {f : Addr} {fd : FuncData} {st : Stmt} (D : Dfs K mg x st ps f fd) (G : FnOk P w K mg base (L2.CX P w) k f fd ps sp) : CalX P w K mg base k x ps sp f fd := ⟨G, D.g, D.F.kp, D.b⟩
/-- an own error's class, as an except clause or isinstance names it -/
structure Xn (K : PySem.W.Frag) (mg : Str → Option Value) (x : Str) (C : Addr) : Prop where
  g : mg x = some (.ref C)
  kp : PySem.W.keepIn K (.ref C) = true
  exC : PySem.W.subIn K (.ref C) (.type "BaseException") = some true
  tyC : PySem.W.typeIn K (.ref C) = some (.type "type")
  isC : PySem.W.isClsIn K C = true
theorem kit_own {K : PySem.W.Frag} {C D : Addr} {b : Bool} (h2 : PySem.W.isClsIn K D = true) (h3 : PySem.W.typeIn K (.ref D) = some (.type "type")) (h4 : PySem.W.subIn K (.ref C) (.ref D) = some b) (h5 : PySem.W.subIn K (.ref C) (.ref C) = some true) : PySem.W.kitOne K (.ref C) (.ref D) = some b := by
  have e2 : ((PySem.W.clsIn K D).isSome && PySem.W.typeIn K (.ref D) == some (.type "type")) = true := by
    have h2' : (PySem.W.clsIn K D).isSome = true := h2
    rw [h2', h3] <;> rfl
  unfold PySem.W.kitOne
  split
  · rename_i q
    have e : C = D := Value.ref.inj (beq_iff_eq.mp q)
    subst e
    rw [h5] at h4
    exact h4
  · show (if ((PySem.W.clsIn K D).isSome && PySem.W.typeIn K (.ref D) == some (.type "type")) = true then PySem.W.subIn K (.ref C) (.ref D) else none) = some b
    rw [if_pos e2]
    exact h4
theorem kit_typ {K : PySem.W.Frag} {C : Addr} {b : Bool} (h4 : PySem.W.subIn K (.ref C) (.type "ValueError") = some b) : PySem.W.kitOne K (.ref C) (.type "ValueError") = some b := by
  unfold PySem.W.kitOne
  split
  · rename_i q
    cases beq_iff_eq.mp q
  · show (if PySem.W.kitMeta "ValueError" = true then PySem.W.subIn K (.ref C) (.type "ValueError") else none) = some b
    rw [if_pos (by decide +kernel)]
    exact h4
theorem exm_own {K : PySem.W.Frag} {C D : Addr} {b : Bool} (h1 : PySem.W.subIn K (.ref D) (.type "BaseException") = some true) (h2 : PySem.W.isClsIn K D = true) (h3 : PySem.W.typeIn K (.ref D) = some (.type "type")) (h4 : PySem.W.subIn K (.ref C) (.ref D) = some b) : PySem.W.exmOne K (.ref C) (.ref D) = some b := by
  have e1 : (PySem.W.subIn K (.ref D) (.type "BaseException") == some true) = true := by rw [h1] <;> rfl
  have e2 : ((PySem.W.clsIn K D).isSome && PySem.W.typeIn K (.ref D) == some (.type "type")) = true := by
    have h2' : (PySem.W.clsIn K D).isSome = true := h2
    rw [h2', h3] <;> rfl
  show (if (PySem.W.subIn K (.ref D) (.type "BaseException") == some true) = true then (if ((PySem.W.clsIn K D).isSome && PySem.W.typeIn K (.ref D) == some (.type "type")) = true then PySem.W.subIn K (.ref C) (.ref D) else none) else none) = some b
  rw [if_pos e1, if_pos e2]
  exact h4
/-- what the class D must say, so that isinstance asks its instances rightly -/
structure ExD (K : PySem.W.Frag) (D : Addr) : Prop where
  hc : PySem.W.isClsIn K D = true
  hg : PySem.W.findIn K (.ref D) "__getattribute__" = some (some (.builtin "BaseException.__getattribute__"))
  hk : PySem.W.findIn K (.ref D) "__getattr__" = some none
  hs : PySem.W.subIn K (.ref D) (.type "BaseException") = some true
  hd : PySem.W.hasDictIn K D = true
  ha : PySem.W.findIn K (.ref D) "__class__" = some (some (.builtin "object.__class__"))
  hn : PySem.W.specialIn K (.builtin "object.__class__") "__get__" = some (some (.builtin "getset_descriptor.__get__"))
  ht : PySem.W.takesIn K (.builtin "object.__class__") = some true
  hm : PySem.W.mroIn K D (.type "object") = some true
theorem ExD.xf {K : PySem.W.Frag} {D : Addr} (h : ExD K D) : XfC K D := ⟨h.hg, h.hk, h.hs, h.hd⟩
/-- the dict of the error that the suite holds -/
def XdAt (d : Option Addr) (H : Hp) : Prop := d = none ∨ ∃ dd fs, d = some dd ∧ H dd = some (.xd fs)
/-- isinstance(e, c), e the error that the suite holds -/
def rIsX (K : PySem.W.Frag) (a : Addr) (cls : Value) (d : Option Addr) : List V → Hp → VK → Prop := fun xs H Q => ∃ (c : V) (cv : Value) (D : Addr) (b : Bool), xs = [.ref a, c] ∧ ClsV c cv ∧ cls = .ref D ∧ ExD K D ∧ XdAt d H ∧ PySem.W.kitOne K (.ref D) cv = some b ∧ Q (.bl b) H
/-- isinstance(e, (c1, c2, ..)) -/
def rIsXT (K : PySem.W.Frag) (a : Addr) (cls : Value) (d : Option Addr) : List V → Hp → VK → Prop := fun xs H Q => ∃ (tp : Addr) (cs : List V) (us : List Value) (D : Addr) (b : Bool), xs = [.ref a, .ref tp] ∧ H tp = some (.tup cs) ∧ Paired ClsV cs us ∧ cls = .ref D ∧ ExD K D ∧ XdAt d H ∧ PySem.W.kitAny K (.ref D) us = some b ∧ Q (.bl b) H
section
variable {X : Cx} {a D : Addr} {oe : Obj} {cls : Value} {d : Option Addr} {pn : List (Addr × Obj)}
theorem exd_inst {pins : List (Addr × Obj)} {σ : L2.St} {H : Hp} {s : Shared} (hz : Zc (.ref D) d oe) (hf : ∃ vs, oe.data = .fields vs) (I : L2.Inv (X.suite a ((a, oe) :: pn)) pins σ H s) (hd : XdAt d H) : ∃ od, PySem.W.InstAt s.heap a oe D od := by
  obtain ⟨hget, _⟩ := I.pin (a, oe) (List.mem_append.mpr (.inl List.mem_cons_self))
  obtain ⟨vs, hv⟩ := hf
  rcases hd with e | ⟨dd, fs, e, ea⟩
  · refine ⟨none, ?_⟩
    obtain ⟨oc, od, oda, osl⟩ := oe
    obtain ⟨h1, h2⟩ := hz
    dsimp only at h1 h2 hv
    subst h1 h2 hv e
    exact ⟨hget, rfl, rfl, trivial⟩
  · subst e
    have hx : ObjOk X.prog X.w H s.heap dd (.xd fs) := I.hok dd _ ea
    obtain ⟨mA, hns, hr⟩ := hx
    obtain ⟨od, ho, hl⟩ := lookIn_ns hns
    exact ⟨some od, hget, hz.1, by unfold PySem.W.notCls; rw [hv] <;> rfl, by rw [hz.2]; exact ho⟩
theorem call_isX (hz : Zc cls d oe) (hf : ∃ vs, oe.data = .fields vs) : CallR (X.suite a ((a, oe) :: pn)) (.builtin "isinstance") (rIsX X.K a cls d) := by
  intro pins s σ H xs us Q I r h
  obtain ⟨c, cv, D, b, rfl, k, rfl, C, hd, e, q⟩ := h
  obtain ⟨u1, u2, rfl, r1, r2⟩ := vals2 r
  have e2 := k.eq r2
  subst e2
  cases (show u1 = Value.ref a from r1)
  obtain ⟨od, J⟩ := exd_inst hz hf I hd
  exact PySem.W.kia_one (PySem.W.kitx_exc C.hc C.hg C.hk C.hs C.ha C.hn C.ht C.hm) I.kIn J e (fun z => nomatch z) fun tk => ⟨.bl b, H, I.tok tk, rfl, q⟩
theorem call_isXT (hz : Zc cls d oe) (hf : ∃ vs, oe.data = .fields vs) : CallR (X.suite a ((a, oe) :: pn)) (.builtin "isinstance") (rIsXT X.K a cls d) := by
  intro pins s σ H xs us Q I r h
  obtain ⟨tp, cs, ws, D, b, rfl, hT, k, rfl, C, hd, e, q⟩ := h
  obtain ⟨u1, u2, rfl, r1, r2⟩ := vals2 r
  cases (show u1 = Value.ref a from r1)
  cases (show u2 = Value.ref tp from r2)
  obtain ⟨od, J⟩ := exd_inst hz hf I hd
  obtain ⟨_, its, rv, o, h1, h2, n, h3⟩ := (show ObjOk X.prog X.w H s.heap tp (.tup cs) from I.hok tp _ hT)
  have e3 := ClsV.all k rv
  subst e3
  obtain ⟨oc, od', dt, sl⟩ := o
  simp only at h2 h3
  subst h2 h3
  exact PySem.W.kia_tup (PySem.W.kitx_exc C.hc C.hg C.hk C.hs C.ha C.hn C.ht C.hm) I.kIn J h1 e (fun z => nomatch z) fun tk => ⟨.bl b, H, I.tok tk, rfl, q⟩
end
/-- an own error of two fields -/
structure Xi2 (P : Program) (w : World) (K : PySem.W.Frag) (mg : Str → Option Value) (base : Heap) (C fI : Addr) (fd : FuncData) (f1 f2 : Str) (sp : Sp) : Prop where
  T : OexC K C
  D : ExD K C
  iC : PySem.W.findIn K (.ref C) "__init__" = some (some (.ref fI))
  tI : PySem.W.typeIn K (.ref fI) = some (.type "function")
  n1 : PySem.W.findIn K (.ref C) f1 = some none
  n2 : PySem.W.findIn K (.ref C) f2 = some none
  b : Binds K fd ["self", f1, f2] []
  G : FnOk P w K mg base CX0 1 fI fd ["self", f1, f2] sp
def spX2 (K : PySem.W.Frag) (C : Addr) (f1 f2 : Str) : Sp := fun vs H Q _ => ∃ (a : Addr) (x y : V), vs = [.ref a, x, y] ∧ OexC K C ∧ H a = some (exo a C none) ∧ ∀ dx, H dx = none → dx ≠ a → Q .non (upd (upd (upd H dx (exd dx [(f1, x)])) a (exo a C (some dx))) dx (exd dx [(f2, y), (f1, x)]))
theorem mk2 {K : PySem.W.Frag} {C : Addr} {f1 f2 : Str} {H : Hp} {x y : V} {Q : XK} (T : OexC K C) (q : ∀ d H', Same H H' → H d = none → H' d = some (.xd [(f2, y), (f1, x)]) → Q (.ref C) (some d) H') :
    [x, y].length ≤ 1000 ∧ ∀ a, H a = none → spX2 K C f1 f2 (.ref a :: ([x, y] ++ [])) (upd H a (exo a C none))
      (fun v H2 => v = .non ∧ ∃ (d : Addr) (fs : List (Str × V)), H2 a = some (exo a C (some d)) ∧ H2 d = some (exd d fs) ∧ H d = none ∧ Q (.ref C) (some d) (upd (L2.del H2 a) d (.xd fs))) (fun _ _ _ => False) := by
  refine ⟨by simp, fun a na => ⟨a, x, y, rfl, T, upd_same, fun dx ndx ne => ⟨rfl, dx, [(f2, y), (f1, x)], ?_, upd_same, ?_, q dx _ ?_ ?_ upd_same⟩⟩⟩
  · rw [upd_ne (Ne.symm ne), upd_same]
  · rw [upd_ne ne] at ndx
    exact ndx
  · intro b o h
    have h1 : b ≠ a := ne_of_none h na
    have h2 : b ≠ dx := fun z => by
      rw [z] at h
      rw [upd_ne ne, h] at ndx
      cases ndx
    rw [upd_ne h2, del_ne h1, upd_ne h2, upd_ne h1, upd_ne h2, upd_ne h1]
    exact h
  · rw [upd_ne ne] at ndx
    exact ndx

/-! ### what is no store is refused -/
inductive Bad : List Shelf → Int → List Wish → Nat → Option (Str × Int) → Prop
  | shelves {ss : List Shelf} {a : Int} {ws : List Wish} {n : Nat} (h : ss.length < 1 ∨ 5 < ss.length) : Bad ss a ws n (some ("shelves", 0))
  | shelf {ss : List Shelf} {a : Int} {ws : List Wish} {n : Nat} {i : Nat} {s : Shelf} (h1 : 1 ≤ ss.length) (h5 : ss.length ≤ 5) (g : ∀ j x, j < i → ss[j]? = some x → ShelfOk x) (e : ss[i]? = some s) (b : ¬ ShelfOk s) : Bad ss a ws n (some ("shelf", (i : Int)))
  | aisle {ss : List Shelf} {a : Int} {ws : List Wish} {n : Nat} (h1 : 1 ≤ ss.length) (h5 : ss.length ≤ 5) (g : ∀ x ∈ ss, ShelfOk x) (b : a < 0 ∨ ss.length < a) : Bad ss a ws n (some ("aisle", 0))
  | wishes {ss : List Shelf} {a : Int} {ws : List Wish} {n : Nat} (h1 : 1 ≤ ss.length) (h5 : ss.length ≤ 5) (g : ∀ x ∈ ss, ShelfOk x) (a0 : 0 ≤ a) (a1 : a ≤ ss.length) (b : 5 < n) : Bad ss a ws n (some ("wishes", 0))
  | wish {ss : List Shelf} {a : Int} {ws : List Wish} {n : Nat} {i : Nat} {x : Wish} (h1 : 1 ≤ ss.length) (h5 : ss.length ≤ 5) (g : ∀ x ∈ ss, ShelfOk x) (a0 : 0 ≤ a) (a1 : a ≤ ss.length) (n5 : n ≤ 5) (k : ∀ j y, j < i → ws[j]? = some y → WishOk ss.length n y) (e : ws[i]? = some x) (b : ¬ WishOk ss.length n x) : Bad ss a ws n (some ("wish", (i : Int)))
  | none {ss : List Shelf} {a : Int} {ws : List Wish} {n : Nat} (h : StoOk ⟨ss, a, ws⟩) : Bad ss a ws n none
/-- are the wishes asked -/
def Bad.far : Option (Str × Int) → Bool
  | .none => true
  | some (r, _) => r == "wish"
section
variable {P : Program} {w : World} {K : PySem.W.Frag} {mg : Str → Option Value} {base : Heap}
/-- what is let out: an own error of two fields, at the class C -/
def Out2 (E : XK) (H : Hp) (C : Addr) (f1 f2 : Str) (x y : V) : Prop := ∀ d H', Same H H' → H d = none → H' d = some (.xd [(f2, y), (f1, x)]) → E (.ref C) (some d) H'
def spRefuseX (K : PySem.W.Frag) (CB : Addr) : Sp := fun vs H Q E => ∃ (l m : Addr) (a : Int) (xs ys : List V) (ss : List Shelf) (ws : List Wish) (r : Option (Str × Int)), vs = [.ref l, .int a, .ref m] ∧ SqL K H l xs ∧ DpAll K H xs (dshelves ss) ∧ SqL K H m ys ∧
  (Bad.far r = true → DpAll K H ys (dwishes ws)) ∧ Bad ss a ws ys.length r ∧ (r = none → ∀ H', Same H H' → Q .non H') ∧ ∀ x n, r = some (x, n) → Out2 E H CB "word" "number" (.str x) (.int n)
theorem Out2.mono {E : XK} {H H' : Hp} {C : Addr} {f1 f2 : Str} {x y : V} (s : Same H H') (h : Out2 E H C f1 f2 x y) : Out2 E H' C f1 f2 x y := fun d H2 s2 n e => h d H2 (s.trans s2) (s.free n) e
/-! _refuse_no_store: 0 shelves, 1 aisle, 2 wishes, 3 number, 4 shelf, 5 wish -/
abbrev s__refuse_no_store : Stmt := topS 14
abbrev N__refuse_no_store : List Str := ["shelves", "aisle", "wishes", "number", "shelf", "wish"]
theorem sc__refuse_no_store : FnScope N__refuse_no_store ["shelves", "aisle", "wishes"] (defScope s__refuse_no_store) := ⟨rfl, rfl, rfl, by decide +kernel, rfl, by decide +kernel, by decide +kernel⟩
theorem ok__refuse_no_store {f f1 f2 CB fB : Addr} {fd fd1 fd2 fdB : FuncData} (D : Dfs K mg "_refuse_no_store" s__refuse_no_store ["shelves", "aisle", "wishes"] f fd) (T : Tx K mg) (Tk : Tc K mg) (X_BadStore : Xi2 P w K mg base CB fB fdB "word" "number" (spX2 K CB "word" "number")) (N_BadStore : Xn K mg "BadStore" CB)
    (C__is_shelf : Cal P w K mg base 1 "_is_shelf" ["shelf"] (spIsShelf K) f1 fd1) (C__is_wish : Cal P w K mg base 2 "_is_wish" ["wish", "many_shelves", "many_wishes"] (spIsWish K) f2 fd2) : CalX P w K mg base 3 "_refuse_no_store" ["shelves", "aisle", "wishes"] (spRefuseX K CB) f fd := by
  obtain ⟨_, g_MOST_SHELVES⟩ := Tk.c_MOST_SHELVES
  obtain ⟨_, g_MOST_WISHES⟩ := Tk.c_MOST_WISHES
  refine D.calX (D.F.okX sc__refuse_no_store (fun vs H Q E h => ?_) (fun cdv A outer s H vs Q E hr h => ?_))
  · obtain ⟨l, m, a, xs, ys, ss, ws, r, rfl, _⟩ := h
    rfl
  · obtain ⟨l, m, a, xs, ys, ss, ws, r, rfl, hl, dl, hm, dm, bad, q, o⟩ := h
    have lx : xs.length = ss.length := (dps_len dl).trans (List.length_map ..)
    refine ⟨_, (pss_cons (ps_if (pt_not (pt_chain op_le op_le pe_int (pe_callB (klen (K := K)) (by rfl) T.n_len (by decide +kernel) (pa_cons (pv 0) pa_nil)) (pe_glob (v := .int 5) (by rfl) g_MOST_SHELVES ⟨_, rfl⟩))) (pss_one (ps_raise rfl (takes_of rfl rfl rfl rfl) (pmk_oex X_BadStore.T X_BadStore.iC X_BadStore.tI X_BadStore.G (hr.mono (by decide)) X_BadStore.b .nil pass0 (by rfl) N_BadStore.g (pa_cons pe_str (pa_cons pe_int pa_nil))))) pss_nil)
      (pss_cons (ps_for (passes_of rfl) rfl (pi_enum (by rfl) T.n_enumerate (pa_cons (pv 0) pa_nil)) (pg_tup (by rfl) (pgs_cons (pg_name (i := 3) sc__refuse_no_store.nd rfl (Or.inl rfl)) (pgs_cons (pg_name (i := 4) sc__refuse_no_store.nd rfl (Or.inl rfl)) pgs_nil))) (pss_one (ps_if (pt_not (pt_val (pe_call C__is_shelf.G (hr.mono (by decide)) (by rfl) C__is_shelf.g C__is_shelf.kp C__is_shelf.b .nil pass0 (pa_cons (pv 4) pa_nil)))) (pss_one (ps_raise rfl (takes_of rfl rfl rfl rfl) (pmk_oex X_BadStore.T X_BadStore.iC X_BadStore.tI X_BadStore.G (hr.mono (by decide)) X_BadStore.b .nil pass0 (by rfl) N_BadStore.g (pa_cons pe_str (pa_cons (pv 3) pa_nil))))) pss_nil)))
      (pss_cons (ps_if (pt_not (pt_chain op_le op_le pe_int (pv 1) (pe_callB (klen (K := K)) (by rfl) T.n_len (by decide +kernel) (pa_cons (pv 0) pa_nil)))) (pss_one (ps_raise rfl (takes_of rfl rfl rfl rfl) (pmk_oex X_BadStore.T X_BadStore.iC X_BadStore.tI X_BadStore.G (hr.mono (by decide)) X_BadStore.b .nil pass0 (by rfl) N_BadStore.g (pa_cons pe_str (pa_cons pe_int pa_nil))))) pss_nil)
      (pss_cons (ps_if (pt_cmpR op_gt (pe_callB (klen (K := K)) (by rfl) T.n_len (by decide +kernel) (pa_cons (pv 2) pa_nil)) (pe_glob (v := .int 5) (by rfl) g_MOST_WISHES ⟨_, rfl⟩) (nomark _)) (pss_one (ps_raise rfl (takes_of rfl rfl rfl rfl) (pmk_oex X_BadStore.T X_BadStore.iC X_BadStore.tI X_BadStore.G (hr.mono (by decide)) X_BadStore.b .nil pass0 (by rfl) N_BadStore.g (pa_cons pe_str (pa_cons pe_int pa_nil))))) pss_nil)
      (pss_one (ps_for (passes_of rfl) rfl (pi_enum (by rfl) T.n_enumerate (pa_cons (pv 2) pa_nil)) (pg_tup (by rfl) (pgs_cons (pg_name (i := 3) sc__refuse_no_store.nd rfl (Or.inl rfl)) (pgs_cons (pg_name (i := 5) sc__refuse_no_store.nd rfl (Or.inl rfl)) pgs_nil))) (pss_one (ps_if (pt_not (pt_val (pe_call C__is_wish.G (hr.mono (by decide)) (by rfl) C__is_wish.g C__is_wish.kp C__is_wish.b .nil pass0 (pa_cons (pv 5) (pa_cons (pe_callB (klen (K := K)) (by rfl) T.n_len (by decide +kernel) (pa_cons (pv 0) pa_nil)) (pa_cons (pe_callB (klen (K := K)) (by rfl) T.n_len (by decide +kernel) (pa_cons (pv 2) pa_nil)) pa_nil)))))) (pss_one (ps_raise rfl (takes_of rfl rfl rfl rfl) (pmk_oex X_BadStore.T X_BadStore.iC X_BadStore.tI X_BadStore.G (hr.mono (by decide)) X_BadStore.b .nil pass0 (by rfl) N_BadStore.g (pa_cons pe_str (pa_cons (pv 3) pa_nil))))) pss_nil)))))))), ?_⟩
    by_cases hn : ss.length < 1 ∨ 5 < ss.length
    · have er : r = some (("shelves" : Str), 0) := by
        cases bad with
        | shelves h => rfl
        | shelf h1 h5 => omega
        | aisle h1 h5 => omega
        | wishes h1 h5 => omega
        | wish h1 h5 => omega
        | none h =>
          have := h.n1
          have := h.n5
          dsimp only at *
          omega
      have oo := o _ _ er
      refine ⟨_, rfl, l, xs, rfl, .inl hl, _, _, rfl, rfl, _, rfl, ?_⟩
      by_cases h1 : (1 : Int) ≤ xs.length
      · refine itD h1 ⟨_, _, rfl, rfl, _, rfl, itnF (by omega) ?_⟩
        exact mk2 X_BadStore.T oo
      · refine itF h1 ⟨_, rfl, iteT ?_⟩
        exact mk2 X_BadStore.T oo
    have n1 : 1 ≤ ss.length := by omega
    have n5 : ss.length ≤ 5 := by omega
    refine ⟨_, rfl, l, xs, rfl, .inl hl, _, _, rfl, rfl, _, rfl, itD (by omega) ⟨_, _, rfl, rfl, _, rfl, iteNS (by omega) ?_⟩⟩
    -- the shelves
    refine ⟨_, rfl, l, xs, rfl, hl, for_enum (K := K) (a := l) (xs := xs) (fun i σ H' => Same H H' ∧ (∀ j x, j < i → ss[j]? = some x → ShelfOk x) ∧ ∃ v3 v4 : Option V, σ = [some (.ref l), some (.int a), some (.ref m), v3, v4, none]) ⟨Same.refl _, fun j x h => absurd h (Nat.not_lt_zero _), none, none, rfl⟩ (fun i σ H' _ h => Same.l h.1 hl) ?_ ?_⟩
    · rintro i x σ H' p hx ⟨s, good, v3, v4, rfl⟩ np
      obtain ⟨d, hd, dx⟩ := dps_of_get dl hx
      obtain ⟨sh, hsh, rfl⟩ : ∃ sh, ss[i]? = some sh ∧ d = sh.d := by
        unfold dshelves at hd
        rw [List.getElem?_map] at hd
        cases e : ss[i]? with
        | none =>
          rw [e] at hd
          cases hd
        | some z =>
          rw [e] at hd
          exact ⟨z, rfl, (Option.some.inj hd).symm⟩
      have s2 := Same.new (o := .tup [.int (i : Nat), x]) s np
      refine ⟨p, _, rfl, tup_new, rfl, _, _, rfl, _, _, rfl, rfl, ?_⟩
      refine ⟨_, rfl, x, sh, rfl, dp_mono s2 dx, fun b H2 hb s3 => ⟨_, rfl, ?_⟩⟩
      cases b with
      | true =>
        have ok1 := hb.mp rfl
        refine itnB rfl ⟨s2.trans s3, fun j y hj hy => ?_, _, _, rfl⟩
        by_cases e : j = i
        · subst e
          rw [hsh] at hy
          cases hy
          exact ok1
        · exact good j y (by omega) hy
      | false =>
        have no1 : ¬ ShelfOk sh := fun z => absurd (hb.mpr z) Bool.false_ne_true
        have er : r = some (("shelf" : Str), (i : Int)) := by
          cases bad with
          | shelves h => omega
          | @shelf i2 s2 h1 h5 g e b =>
            have e2 : i2 = i := by
              rcases Nat.lt_trichotomy i2 i with c | c | c
              · exact absurd (good i2 _ c e) b
              · exact c
              · exact absurd (g i _ c hsh) no1
            rw [e2]
          | aisle h1 h5 g b => exact absurd (g _ (List.mem_of_getElem? hsh)) no1
          | wishes h1 h5 g a0 a1 b => exact absurd (g _ (List.mem_of_getElem? hsh)) no1
          | wish h1 h5 g a0 a1 n5 k e b => exact absurd (g _ (List.mem_of_getElem? hsh)) no1
          | none h => exact absurd (h.sh _ (List.mem_of_getElem? hsh)) no1
        have oo := (o _ _ er).mono (s2.trans s3)
        refine itnBf rfl ?_
        exact ⟨_, rfl, mk2 X_BadStore.T oo⟩
    rintro σ H1 ⟨s, good, v3, v4, rfl⟩
    rw [lx] at good
    have allG : ∀ x ∈ ss, ShelfOk x := fun x hx => by
      obtain ⟨j, hj⟩ := List.getElem?_of_mem hx
      obtain ⟨hj2, _⟩ := List.getElem?_eq_some_iff.mp hj
      exact good j x hj2 hj
    have hl1 := Same.l s hl
    have hm1 := Same.l s hm
    by_cases ha : a < 0 ∨ ss.length < a
    · have er : r = some (("aisle" : Str), 0) := by
        cases bad with
        | shelves h => omega
        | shelf h1 h5 g e b => exact absurd (allG _ (List.mem_of_getElem? e)) b
        | aisle h1 h5 g b => rfl
        | wishes h1 h5 g a0 a1 b => omega
        | wish h1 h5 g a0 a1 n5 k e b => omega
        | none h =>
          have := h.a0
          have := h.a1
          dsimp only at *
          omega
      have oo := (o _ _ er).mono s
      refine ⟨_, rfl, _, _, rfl, rfl, _, rfl, ?_⟩
      by_cases h1 : 0 ≤ a
      · refine itD h1 ⟨_, rfl, l, xs, rfl, .inl hl1, _, _, rfl, rfl, _, rfl, itnF (by omega) ?_⟩
        exact mk2 X_BadStore.T oo
      · refine itF h1 ⟨_, rfl, iteT ?_⟩
        exact mk2 X_BadStore.T oo
    refine ⟨_, rfl, _, _, rfl, rfl, _, rfl, itD (by omega) ⟨_, rfl, l, xs, rfl, .inl hl1, _, _, rfl, rfl, _, rfl, iteNS (by omega) ?_⟩⟩
    by_cases hw : 5 < ys.length
    · have er : r = some (("wishes" : Str), 0) := by
        cases bad with
        | shelves h => omega
        | shelf h1 h5 g e b => exact absurd (allG _ (List.mem_of_getElem? e)) b
        | aisle h1 h5 g b => omega
        | wishes h1 h5 g a0 a1 b => rfl
        | wish h1 h5 g a0 a1 n5 k e b => omega
        | none h =>
          have e1 := h.w5
          have e2 := (dps_len (dm rfl)).trans (List.length_map ..)
          dsimp only at e1
          omega
      have oo := (o _ _ er).mono s
      refine ⟨_, rfl, m, ys, rfl, .inl hm1, _, _, rfl, rfl, _, rfl, itD (by omega) ?_⟩
      exact mk2 X_BadStore.T oo
    refine ⟨_, rfl, m, ys, rfl, .inl hm1, _, _, rfl, rfl, _, rfl, itF (by omega) ?_⟩
    have dm' : DpAll K H ys (dwishes ws) := by
      cases bad with
      | shelves h => omega
      | shelf h1 h5 g e b => exact absurd (allG _ (List.mem_of_getElem? e)) b
      | aisle h1 h5 g b => omega
      | wishes h1 h5 g a0 a1 b => omega
      | wish h1 h5 g a0 a1 n5 k e b => exact dm (show (("wish" : Str) == "wish") = true by decide +kernel)
      | none h => exact dm rfl
    have ly : ys.length = ws.length := (dps_len dm').trans (List.length_map ..)
    refine ⟨_, rfl, m, ys, rfl, hm1, for_enum (K := K) (a := m) (xs := ys) (fun i σ H' => Same H H' ∧ (∀ j y, j < i → ws[j]? = some y → WishOk ss.length ys.length y) ∧ ∃ v3 v5 : Option V, σ = [some (.ref l), some (.int a), some (.ref m), v3, v4, v5]) ⟨s, fun j x h => absurd h (Nat.not_lt_zero _), v3, none, rfl⟩ (fun i σ H' _ h => Same.l h.1 hm) ?_ ?_⟩
    · rintro i x σ H' p hx ⟨s, goodW, v3, v5, rfl⟩ np
      obtain ⟨d, hd, dx⟩ := dps_of_get dm' hx
      obtain ⟨sh, hsh, rfl⟩ : ∃ sh, ws[i]? = some sh ∧ d = sh.d := by
        unfold dwishes at hd
        rw [List.getElem?_map] at hd
        cases e : ws[i]? with
        | none =>
          rw [e] at hd
          cases hd
        | some z =>
          rw [e] at hd
          exact ⟨z, rfl, (Option.some.inj hd).symm⟩
      have s2 := Same.new (o := .tup [.int (i : Nat), x]) s np
      refine ⟨p, _, rfl, tup_new, rfl, _, _, rfl, _, _, rfl, rfl, ?_⟩
      refine ⟨_, rfl, _, rfl, l, xs, rfl, .inl (Same.l s2 hl), _, rfl, m, ys, rfl, .inl (Same.l s2 hm), x, sh, _, _, rfl, dp_mono s2 dx, fun b H2 hb s3 => ⟨_, rfl, ?_⟩⟩
      rw [lx] at hb
      cases b with
      | true =>
        have ok1 := hb.mp rfl
        refine itnB rfl ⟨s2.trans s3, fun j y hj hy => ?_, _, _, rfl⟩
        by_cases e : j = i
        · subst e
          rw [hsh] at hy
          cases hy
          exact ok1
        · exact goodW j y (by omega) hy
      | false =>
        have no1 : ¬ WishOk ss.length ys.length sh := fun z => absurd (hb.mpr z) Bool.false_ne_true
        have er : r = some (("wish" : Str), (i : Int)) := by
          cases bad with
          | shelves h => omega
          | shelf h1 h5 g e b => exact absurd (allG _ (List.mem_of_getElem? e)) b
          | aisle h1 h5 g b => omega
          | wishes h1 h5 g a0 a1 b => omega
          | @wish i2 x2 h1 h5 g a0 a1 n5 k e b =>
            have e2 : i2 = i := by
              rcases Nat.lt_trichotomy i2 i with c | c | c
              · exact absurd (goodW i2 _ c e) b
              · exact c
              · exact absurd (k i _ c hsh) no1
            rw [e2]
          | none h =>
            have hw := h.ws _ (List.mem_of_getElem? hsh)
            dsimp only at hw
            rw [← ly] at hw
            exact absurd hw no1
        have oo := (o _ _ er).mono (s2.trans s3)
        refine itnBf rfl ?_
        exact ⟨_, rfl, mk2 X_BadStore.T oo⟩
    · rintro σ H2 ⟨s, goodW, v3, v5, rfl⟩
      have er : r = none := by
        cases bad with
        | shelves h => omega
        | shelf h1 h5 g e b => exact absurd (allG _ (List.mem_of_getElem? e)) b
        | aisle h1 h5 g b => omega
        | wishes h1 h5 g a0 a1 b => omega
        | wish h1 h5 g a0 a1 n5 k e b =>
          obtain ⟨hj2, _⟩ := List.getElem?_eq_some_iff.mp e
          exact absurd (goodW _ _ (by omega) e) b
        | none h => rfl
      exact q er H2 s
end

section
variable {P : Program} {w : World} {K : PySem.W.Frag} {mg : Str → Option Value} {base : Heap}
/-! BadStore.__init__: 0 self, 1 word, 2 number -/
abbrev s_BadStore___init__ : Stmt := inClass (topS 2) 0
abbrev N_BadStore___init__ : List Str := ["self", "word", "number"]
theorem sc_BadStore___init__ : FnScope N_BadStore___init__ ["self", "word", "number"] (defScope s_BadStore___init__) := ⟨rfl, rfl, rfl, by decide +kernel, rfl, by decide +kernel, by decide +kernel⟩
theorem ok_BadStore_init {f CB : Addr} {fd : FuncData} (F : Fun K "__init__" "BadStore.__init__" s_BadStore___init__ f fd) (n1 : PySem.W.findIn K (.ref CB) "word" = some none) (n2 : PySem.W.findIn K (.ref CB) "number" = some none) :
    FnOk P w K mg base CX0 1 f fd ["self", "word", "number"] (spX2 K CB "word" "number") := by
  refine F.ok sc_BadStore___init__ (fun vs H Q E h => ?_) (fun cdv A outer s H vs Q E hr h => ?_)
  · obtain ⟨a, x, y, rfl, _⟩ := h
    rfl
  · obtain ⟨a, x, y, rfl, T, ea, q⟩ := h
    refine ⟨_, (pss_cons (ps_ost (pv 0) (pv 1) rfl)
      (pss_one (ps_ost (pv 0) (pv 2) rfl))), ?_⟩
    refine ⟨_, rfl, _, rfl, a, CB, rfl, T, n1, .inl ⟨ea, fun dx ndx ne => ?_⟩⟩
    refine ⟨_, rfl, _, rfl, a, CB, rfl, T, n2, .inr ⟨dx, [("word", x)], upd_same, ?_, by simp, q dx ndx ne⟩⟩
    rw [upd_ne ne, upd_same]
end

section
variable {P : Program} {w : World} {K : PySem.W.Frag} {mg : Str → Option Value} {base : Heap}
def spInitX (K : PySem.W.Frag) (C CB : Addr) : Sp := fun vs H Q E => ∃ (p dx l m : Addr) (a : Int) (xs ys : List V) (ss : List Shelf) (ws : List Wish) (r : Option (Str × Int)) (B : Hp), vs = [.ref p, .ref l, .int a, .ref m] ∧ H p = some (.ins C dx []) ∧ Same B H ∧ B p = none ∧
  SqL K B l xs ∧ DpAll K B xs (dshelves ss) ∧ SqL K B m ys ∧ (Bad.far r = true → DpAll K B ys (dwishes ws)) ∧ Bad ss a ws ys.length r ∧ (r = none → ∀ H' dx' l' m' xs' ys', Same B H' → ObAt K C H' p dx' l' m' xs' ys' ⟨ss, a, ws⟩ → B l' = none → B m' = none → Q .non H') ∧ ∀ x n, r = some (x, n) → Out2 E B CB "word" "number" (.str x) (.int n)
/-! Store.__init__: 0 self, 1 shelves, 2 aisle, 3 wishes -/
abbrev s_Store___init__ : Stmt := inClass (topS 13) 0
abbrev N_Store___init__ : List Str := ["self", "shelves", "aisle", "wishes"]
theorem sc_Store___init__ : FnScope N_Store___init__ ["self", "shelves", "aisle", "wishes"] (defScope s_Store___init__) := ⟨rfl, rfl, rfl, by decide +kernel, rfl, by decide +kernel, by decide +kernel⟩
theorem ok_Store_init {f f1 C CB fS fW : Addr} {fd fd1 fdS fdW : FuncData} (F : Fun K "__init__" "Store.__init__" s_Store___init__ f fd) (T : Tx K mg) (TS : TSx K mg C f fS fW fd fdS fdW) (C__refuse_no_store : CalX P w K mg base 3 "_refuse_no_store" ["shelves", "aisle", "wishes"] (spRefuseX K CB) f1 fd1) :
    FnOk P w K mg base (L2.CX P w) 4 f fd ["self", "shelves", "aisle", "wishes"] (spInitX K C CB) := by
  refine F.okX sc_Store___init__ (fun vs H Q E h => ?_) (fun cdv A outer s H vs Q E hr h => ?_)
  · obtain ⟨p, dx, l, m, a, xs, ys, ss, ws, r, B, rfl, _⟩ := h
    rfl
  · obtain ⟨p, dx, l, m, a, xs, ys, ss, ws, r, B, rfl, hp, s, bp, hl, dl, hm, dm0, bad, q, o⟩ := h
    refine ⟨_, (pss_cons (ps_expr (pe_call C__refuse_no_store.G (hr.mono (by decide)) (by rfl) C__refuse_no_store.g C__refuse_no_store.kp C__refuse_no_store.b .nil (passes_call (takes_of rfl rfl rfl rfl) (fun _ _ _ _ h => h)) (pa_cons (pv 1) (pa_cons (pv 2) (pa_cons (pv 3) pa_nil)))))
      (pss_cons (ps_fld (pv 0) (pe_callTy (klist_of (K := K)) (by rfl) T.n_list (by decide +kernel) (pa_cons (pv 1) pa_nil)) rfl)
      (pss_cons (ps_fld (pv 0) (pe_callTy (klist_of (K := K)) (by rfl) T.n_list (by decide +kernel) (pa_cons (pv 3) pa_nil)) rfl)
      (pss_one (ps_fld (pv 0) (pv 2) rfl))))), ?_⟩
    refine ⟨_, rfl, _, rfl, _, rfl, l, m, a, xs, ys, ss, ws, r, rfl, Same.l s hl, dps_mono s dl, Same.l s hm, fun h => dps_mono s (dm0 h), bad, fun er H1 s1 => ?_, fun x n er => (o x n er).mono s⟩
    have q := q er
    have dm : DpAll K B ys (dwishes ws) := dm0 (by rw [er]; rfl)
    clear o bad dm0
    generalize hS : (⟨ss, a, ws⟩ : Sto) = S at q
    have dl' : DpAll K B xs (dshelves S.shelves) := by rw [← hS]; exact dl
    have dm' : DpAll K B ys (dwishes S.wishes) := by rw [← hS]; exact dm
    have ea : S.aisle = a := by rw [← hS]
    have s01 := s.trans s1
    -- self._shelves = list(shelves)
    refine ⟨_, rfl, l, xs, rfl, .inl (Same.l s01 hl), fun l2 nl2 => ?_⟩
    have hp1 := s1 _ _ hp
    have np2 : p ≠ l2 := ne_of_none hp1 nl2
    have hp2 : (upd H1 l2 (.lst xs)) p = some (.ins C dx []) := by
      rw [upd_ne np2]
      exact hp1
    refine ⟨_, rfl, p, C, dx, [], rfl, hp2, TS.cl, TS.nS, by simp, ?_⟩
    have s2 : Same (upd B l2 (.lst xs)) (upd H1 l2 (.lst xs)) := Same.grow s01 nl2
    have bp2 : (upd B l2 (.lst xs)) p = none := by
      rw [upd_ne np2]
      exact bp
    have s3 : Same (upd B l2 (.lst xs)) (upd (upd H1 l2 (.lst xs)) p (.ins C dx (putF "_shelves" (.ref l2) []))) := Same.put s2 bp2
    have hp3 : (upd (upd H1 l2 (.lst xs)) p (.ins C dx (putF "_shelves" (.ref l2) []))) p = _ := upd_same
    have sB2 : Same B (upd B l2 (.lst xs)) := same_new (s01.free nl2)
    generalize upd (upd H1 l2 (.lst xs)) p (.ins C dx (putF "_shelves" (.ref l2) [])) = H3 at s3 hp3
    have hB2 : SqL K (upd B l2 (.lst xs)) l2 xs := lst_new
    generalize upd B l2 (.lst xs) = B2 at s3 bp2 sB2 hB2
    -- self._wishes = list(wishes)
    refine ⟨_, rfl, m, ys, rfl, .inl (Same.l (sB2.trans s3) hm), fun m2 nm2 => ?_⟩
    have nb2 : B m2 = none := sB2.free (s3.free nm2)
    have np4 : p ≠ m2 := ne_of_none hp3 nm2
    have hp4 : (upd H3 m2 (.lst ys)) p = some (.ins C dx (putF "_shelves" (.ref l2) [])) := by
      rw [upd_ne np4]
      exact hp3
    refine ⟨_, rfl, p, C, dx, _, rfl, hp4, TS.cl, TS.nW, Nat.lt_of_le_of_lt (putF_len _ _ _) (by simp), ?_⟩
    have s5 : Same (upd B2 m2 (.lst ys)) (upd H3 m2 (.lst ys)) := Same.grow s3 nm2
    have bp5 : (upd B2 m2 (.lst ys)) p = none := by
      rw [upd_ne np4]
      exact bp2
    have sB5 : Same B2 (upd B2 m2 (.lst ys)) := same_new (s3.free nm2)
    have hB5 : SqL K (upd B2 m2 (.lst ys)) m2 ys := lst_new
    have s6 : Same (upd B2 m2 (.lst ys)) (upd (upd H3 m2 (.lst ys)) p (.ins C dx (putF "_wishes" (.ref m2) (putF "_shelves" (.ref l2) [])))) := Same.put s5 bp5
    have hp6 : (upd (upd H3 m2 (.lst ys)) p (.ins C dx (putF "_wishes" (.ref m2) (putF "_shelves" (.ref l2) [])))) p = _ := upd_same
    generalize upd (upd H3 m2 (.lst ys)) p (.ins C dx (putF "_wishes" (.ref m2) (putF "_shelves" (.ref l2) []))) = H6 at s6 hp6
    generalize upd B2 m2 (.lst ys) = B5 at s6 bp5 sB5 hB5
    -- self.aisle = aisle
    refine ⟨_, rfl, _, rfl, p, C, dx, _, rfl, hp6, TS.cl, TS.nA, Nat.lt_of_le_of_lt (putF_len _ _ _) (Nat.lt_of_le_of_lt (Nat.succ_le_succ (putF_len _ _ _)) (by simp)), ?_⟩
    rw [← ea]
    have s7 := Same.put (o := .ins C dx (fsS l2 m2 S.aisle)) s6 bp5
    have sB := sB2.trans sB5
    exact q _ dx l2 m2 xs ys (sB.trans s7) ⟨upd_same, Same.l (sB5.trans s7) hB2, dps_mono (sB.trans s7) dl', Same.l s7 hB5, dps_mono (sB.trans s7) dm'⟩ (s01.free nl2) nb2
end

section
variable {P : Program} {w : World} {K : PySem.W.Frag} {mg : Str → Option Value} {base : Heap}
def spShelvesM (K : PySem.W.Frag) (C : Addr) : Sp := fun vs H Q _ => ∃ (p : Addr) (S : Sto), vs = [.ref p] ∧ Ob K C H p S ∧ ∀ q xs, H q = none → DpAll K H xs (dshelves S.shelves) → Q (.ref q) (upd H q (.lst xs))
def spWishesM (K : PySem.W.Frag) (C : Addr) : Sp := fun vs H Q _ => ∃ (p : Addr) (S : Sto), vs = [.ref p] ∧ Ob K C H p S ∧ ∀ q xs, H q = none → DpAll K H xs (dwishes S.wishes) → Q (.ref q) (upd H q (.lst xs))
/-! Store.shelves: 0 self -/
abbrev s_Store_shelves : Stmt := inClass (topS 13) 1
abbrev N_Store_shelves : List Str := ["self"]
theorem sc_Store_shelves : FnScope N_Store_shelves ["self"] (defScope s_Store_shelves) := ⟨rfl, rfl, rfl, by decide +kernel, rfl, by decide +kernel, by decide +kernel⟩
theorem ok_Store_shelves {f C fI fW : Addr} {fd fdI fdW : FuncData} (F : Fun K "shelves" "Store.shelves" s_Store_shelves f fd) (T : Tx K mg) (TS : TSx K mg C fI f fW fdI fd fdW) : FnOk P w K mg base CX0 1 f fd ["self"] (spShelvesM K C) := by
  refine F.ok sc_Store_shelves (fun vs H Q E h => ?_) (fun cdv A outer s H vs Q E hr h => ?_)
  · obtain ⟨p, S, rfl, _⟩ := h
    rfl
  · obtain ⟨p, S, rfl, ⟨dx, l, m, xs, ys, ob⟩, q⟩ := h
    refine ⟨_, (pss_one (ps_ret (pe_callTy (klist_of (K := K)) (by rfl) T.n_list (by decide +kernel) (pa_cons (pe_fld (pv 0) rfl) pa_nil)))), ?_⟩
    exact ⟨_, rfl, p, C, dx, _, _, rfl, ob.o, TS.cl, TS.nS, fsS_sh, l, xs, rfl, .inl ob.l, fun r nr => q r xs nr ob.dx⟩
/-! Store.wishes: 0 self -/
abbrev s_Store_wishes : Stmt := inClass (topS 13) 2
abbrev N_Store_wishes : List Str := ["self"]
theorem sc_Store_wishes : FnScope N_Store_wishes ["self"] (defScope s_Store_wishes) := ⟨rfl, rfl, rfl, by decide +kernel, rfl, by decide +kernel, by decide +kernel⟩
theorem ok_Store_wishes {f C fI fS : Addr} {fd fdI fdS : FuncData} (F : Fun K "wishes" "Store.wishes" s_Store_wishes f fd) (T : Tx K mg) (TS : TSx K mg C fI fS f fdI fdS fd) : FnOk P w K mg base CX0 1 f fd ["self"] (spWishesM K C) := by
  refine F.ok sc_Store_wishes (fun vs H Q E h => ?_) (fun cdv A outer s H vs Q E hr h => ?_)
  · obtain ⟨p, S, rfl, _⟩ := h
    rfl
  · obtain ⟨p, S, rfl, ⟨dx, l, m, xs, ys, ob⟩, q⟩ := h
    refine ⟨_, (pss_one (ps_ret (pe_callTy (klist_of (K := K)) (by rfl) T.n_list (by decide +kernel) (pa_cons (pe_fld (pv 0) rfl) pa_nil)))), ?_⟩
    exact ⟨_, rfl, p, C, dx, _, _, rfl, ob.o, TS.cl, TS.nW, fsS_wi, m, ys, rfl, .inl ob.m, fun r nr => q r ys nr ob.dy⟩
end

section
variable {P : Program} {w : World} {K : PySem.W.Frag} {mg : Str → Option Value} {base : Heap}
/-- what is handed in as a store: its lists, and what is wrong in them -/
structure HandAt (K : PySem.W.Frag) (H : Hp) (t l m : Addr) (xs ys : List V) (ss : List Shelf) (a : Int) (ws : List Wish) (r : Option (Str × Int)) : Prop where
  t : SqT K H t [.ref l, .int a, .ref m]
  l : SqL K H l xs
  dx : DpAll K H xs (dshelves ss)
  m : SqL K H m ys
  dy : Bad.far r = true → DpAll K H ys (dwishes ws)
  bad : Bad ss a ws ys.length r
theorem HandAt.mono {H H' : Hp} {t l m : Addr} {xs ys : List V} {ss : List Shelf} {a : Int} {ws : List Wish} {r : Option (Str × Int)} (s : Same H H') (h : HandAt K H t l m xs ys ss a ws r) : HandAt K H' t l m xs ys ss a ws r :=
  ⟨Same.t s h.t, Same.l s h.l, dps_mono s h.dx, Same.l s h.m, fun z => dps_mono s (h.dy z), h.bad⟩
def spMadeX (K : PySem.W.Frag) (C CB : Addr) : Sp := fun vs H Q E => ∃ (t l m : Addr) (xs ys : List V) (ss : List Shelf) (a : Int) (ws : List Wish) (r : Option (Str × Int)), vs = [.ref t] ∧ HandAt K H t l m xs ys ss a ws r ∧
  (r = none → ∀ p H', Same H H' → H p = none → Ob K C H' p ⟨ss, a, ws⟩ → Q (.ref p) H') ∧ ∀ x n, r = some (x, n) → Out2 E H CB "word" "number" (.str x) (.int n)
/-! _law_made: 0 _law_store_here -/
abbrev s__law_made : Stmt := topS 22
abbrev N__law_made : List Str := ["_law_store_here"]
theorem sc__law_made : FnScope N__law_made ["_law_store_here"] (defScope s__law_made) := ⟨rfl, rfl, rfl, by decide +kernel, rfl, by decide +kernel, by decide +kernel⟩
theorem ok__law_made {f C CB fI fS fW : Addr} {fd fdI fdS fdW : FuncData} (D : Dfs K mg "_law_made" s__law_made ["_law_store_here"] f fd) (T : Tx K mg) (TS : TSx K mg C fI fS fW fdI fdS fdW) (G_init : FnOk P w K mg base (L2.CX P w) 4 fI fdI ["self", "shelves", "aisle", "wishes"] (spInitX K C CB)) :
    CalX P w K mg base 6 "_law_made" ["_law_store_here"] (spMadeX K C CB) f fd := by
  refine D.calX (D.F.okX sc__law_made (fun vs H Q E h => ?_) (fun cdv A outer s H vs Q E hr h => ?_))
  · obtain ⟨t, l, m, xs, ys, ss, a, ws, r, rfl, _⟩ := h
    rfl
  · obtain ⟨a, l, m, xs, ys, ss, ai, ws, r, rfl, st, q, o⟩ := h
    refine ⟨_, (pss_one (ps_ret (pe_make TS.mkS G_init (hr.mono (by decide)) rfl TS.g TS.b_init .nil (passes_call (takes_of rfl rfl rfl rfl) (fun _ _ _ _ h => h)) (pa_cons (pe_callTy (klist_of (K := K)) (by rfl) T.n_list (by decide +kernel) (pa_cons (pe_ix (kix_tup (K := K)) (pv 0) pe_int (fun _ _ => rfl)) pa_nil)) (pa_cons (pe_ix (kix_tup (K := K)) (pv 0) pe_int (fun _ _ => rfl)) (pa_cons (pe_callTy (klist_of (K := K)) (by rfl) T.n_list (by decide +kernel) (pa_cons (pe_ix (kix_tup (K := K)) (pv 0) pe_int (fun _ _ => rfl)) pa_nil)) pa_nil)))))), ?_⟩
    refine ⟨_, rfl, a, _, 0, .ref l, rfl, rfl, st.t, rfl, l, xs, rfl, .inl st.l, fun l2 nl2 => ?_⟩
    have s1 := same_new (o := .lst xs) nl2
    have st1 := st.mono s1
    refine ⟨_, rfl, a, _, 1, .int ai, rfl, rfl, st1.t, rfl, _, rfl, a, _, 2, .ref m, rfl, rfl, st1.t, rfl, m, ys, rfl, .inl st1.m, fun m2 nm2 => ?_⟩
    have s2 := same_new (o := .lst ys) nm2
    have st2 := st1.mono s2
    intro p dx np ndx nex
    have s3 := (same_new (o := .own p) ndx).trans (Same.new (p := p) (o := .ins C dx []) (Same.refl _) (by rw [upd_ne (fun z => nex z.symm)]; exact np))
    refine ⟨p, dx, l2, m2, ai, xs, ys, ss, ws, r, _, rfl, upd_same, s3, np, Same.l s2 lst_new, st2.dx, lst_new, st2.dy, st.bad, fun er H' _ _ _ _ _ s4 ob _ _ => ⟨rfl, q er p H' ((s1.trans s2).trans s4) ((s1.trans s2).free np) ⟨_, _, _, _, _, ob⟩⟩, fun x n er => ?_⟩
    exact (o x n er).mono (s1.trans s2)
end

/-- all own errors, by their classes; what isinstance and except say of BadStore's -/
structure Kin (K : PySem.W.Frag) (mg : Str → Option Value) (cA cB cS cT cR : Addr) : Prop where
  A : Xn K mg "AisleError" cA
  B : Xn K mg "BadStore" cB
  S : Xn K mg "BadStep" cS
  T : Xn K mg "BadText" cT
  R : Xn K mg "Barred" cR
theorem boot_VE : bootBuiltins "ValueError" = some (.type "ValueError") := by decide +kernel

/-! ### _law_refused: what is told of the error -/
structure KinB (K : PySem.W.Frag) (cA cB cS cT cR : Addr) : Prop where
  sA : PySem.W.subIn K (.ref cB) (.ref cA) = some true
  sB : PySem.W.subIn K (.ref cB) (.ref cB) = some true
  sS : PySem.W.subIn K (.ref cB) (.ref cS) = some false
  sT : PySem.W.subIn K (.ref cB) (.ref cT) = some false
  sR : PySem.W.subIn K (.ref cB) (.ref cR) = some false
  sV : PySem.W.subIn K (.ref cB) (.type "ValueError") = some true
def tsRefused (K : PySem.W.Frag) (cB cS cT cR : Addr) (a : Addr) (cls : Value) (d : Option Addr) : TS :=
  tSeq (tAsg (tCB (rIsXT K a cls d) (tCons (tVar 1) (tCons (tTup (tCons (tC (.ref cS)) (tCons (tC (.ref cT)) (tCons (tC (.ref cR)) tNil)))) tNil))) (gName 2))
    (tIfS (tAnd (tB (tCB (rIsX K a cls d) (tCons (tVar 1) (tCons (tC (.ref cB)) tNil)))) (tAnd (tB (tCB (rIsX K a cls d) (tCons (tVar 1) (tCons (tC (.ty "ValueError")) tNil)))) (tNot (tB (tVar 2)))))
      (tRet (tTup (tCons (tXf a cls d cB "word" (tVar 1)) (tCons (tXf a cls d cB "number" (tVar 1)) tNil)))) tNext)
theorem look1 {x y : V} {f g : Str} : [(f, x), (g, y)].lookup f = some x := by
  rw [lookup_put, if_pos rfl]
theorem look2 {x y : V} : [(("number" : Str), x), (("word" : Str), y)].lookup ("word" : Str) = some y := by
  rw [lookup_put, if_neg (by decide +kernel), lookup_put, if_pos rfl]
section
variable {P : Program} {w : World} {K : PySem.W.Frag} {mg : Str → Option Value} {base : Heap}
def spRefused (K : PySem.W.Frag) : Sp := fun vs H Q _ => ∃ (t l m : Addr) (xs ys : List V) (ss : List Shelf) (a : Int) (ws : List Wish) (r : Option (Str × Int)), vs = [.ref t] ∧ HandAt K H t l m xs ys ss a ws r ∧
  (r = none → ∀ H', Same H H' → Q .non H') ∧ ∀ x n, r = some (x, n) → ∀ v H', Same H H' → Dp K H' v (.tuple [.str x, .int n]) → Q v H'
/-! _law_refused: 0 _law_store_here, 1 e, 2 _law_others -/
abbrev s__law_refused : Stmt := topS 23
abbrev N__law_refused : List Str := ["_law_store_here", "e", "_law_others"]
theorem sc__law_refused : FnScope N__law_refused ["_law_store_here"] (defScope s__law_refused) := ⟨rfl, rfl, rfl, by decide +kernel, rfl, by decide +kernel, by decide +kernel⟩
theorem ok__law_refused {f f1 fB C cA cB cS cT cR : Addr} {fd fd1 fdB : FuncData} (D : Dfs K mg "_law_refused" s__law_refused ["_law_store_here"] f fd) (T : Tx K mg) (Kn : Kin K mg cA cB cS cT cR) (KB : KinB K cA cB cS cT cR) (X_BadStore : Xi2 P w K mg base cB fB fdB "word" "number" (spX2 K cB "word" "number"))
    (C__law_made : CalX P w K mg base 6 "_law_made" ["_law_store_here"] (spMadeX K C cB) f1 fd1) : Cal P w K mg base 7 "_law_refused" ["_law_store_here"] (spRefused K) f fd := by
  have XD := X_BadStore.D
  have XF := XD.xf
  refine D.cal (D.F.ok sc__law_refused (fun vs H Q E h => ?_) (fun cdv A outer s H vs Q E hr h => ?_))
  · obtain ⟨t, l, m, xs, ys, ss, a, ws, r, rfl, _⟩ := h
    rfl
  · obtain ⟨t, l, m, xs, ys, ss, a, ws, r, rfl, st, q, o⟩ := h
    refine ⟨_, pss_cons (ps_try_as (i := 1) (tb := fun W => tDrop (tCallS (spMadeX K C cB) (WE W) (tCons (tVar 0) tNil))) (ts := tsRefused K cB cS cT cR) (Wout := fun _ _ _ _ => False) rfl rfl sc__law_refused.nd rfl rfl ⟨rfl, by decide, Or.inl Kn.A.g⟩ takes0
        (fun W pn xe tk _ => pss_one (ps_expr (by exact (pe_callS C__law_made.G (hr.mono (by decide)) rfl C__law_made.g C__law_made.kp C__law_made.b (fun σ => passAt tk σ) (by exact (pa_cons (pv 0) pa_nil))))))
        (fun a oe cls d pn hz hf => pss_cons (ps_set (i := 2) sc__law_refused.nd rfl (Or.inl rfl) (by exact (pe_callB (call_isXT hz hf) (by rfl) T.n_isinstance (by decide +kernel) (pa_cons (pv 1) (pa_cons (pe_tup (pa_cons (pe_glob (v := .ref cS) (by rfl) Kn.S.g rfl) (pa_cons (pe_glob (v := .ref cT) (by rfl) Kn.T.g rfl) (pa_cons (pe_glob (v := .ref cR) (by rfl) Kn.R.g rfl) pa_nil)))) pa_nil)))))
          (pss_one (ps_if (by exact (PW.pt (pw_and (pt_val (pe_callB (call_isX hz hf) (by rfl) T.n_isinstance (by decide +kernel) (pa_cons (pv 1) (pa_cons (pe_glob (v := .ref cB) (by rfl) Kn.B.g rfl) pa_nil))))
            (pw_and (pt_val (pe_callB (call_isX hz hf) (by rfl) T.n_isinstance (by decide +kernel) (pa_cons (pv 1) (pa_cons (pe_bltn (v := .ty "ValueError") (by rfl) T.n_ValueError boot_VE rfl) pa_nil)))) (pw_and1 (pt_not (pt_val (pv 2))))))))
            (pss_one (ps_ret (by exact (pe_tup (pa_cons (pe_xf XF X_BadStore.n1 hz hf (pv 1)) (pa_cons (pe_xf XF X_BadStore.n2 hz hf (pv 1)) pa_nil)))))) pss_nil))))
      (pss_one (ps_ret pe_non)), ?_⟩
    refine ⟨_, rfl, t, l, m, xs, ys, ss, a, ws, r, rfl, st, fun er p H' s2 np ob => q er H' s2, fun x n er d H' s2 nd ed => ?_⟩
    refine ⟨true, exm_own Kn.A.exC Kn.A.isC Kn.A.tyC KB.sA, fun _ e ne => ?_, fun z => by cases z⟩
    refine ⟨_, rfl, small (by simp), fun tp ntp => ?_⟩
    have kS := kit_own Kn.S.isC Kn.S.tyC KB.sS KB.sB
    have kT := kit_own Kn.T.isC Kn.T.tyC KB.sT KB.sB
    have kR := kit_own Kn.R.isC Kn.R.tyC KB.sR KB.sB
    have kA : PySem.W.kitAny K (.ref cB) [.ref cS, .ref cT, .ref cR] = some false := by
      unfold PySem.W.kitAny
      rw [kS]
      unfold PySem.W.kitAny
      rw [kT]
      unfold PySem.W.kitAny
      rw [kR]
      rfl
    have s3 := same_new (o := .tup [.ref cS, .ref cT, .ref cR]) ntp
    have ed3 := s3 _ _ ed
    refine ⟨tp, _, _, cB, false, rfl, upd_same, .cons (.own _) (.cons (.own _) (.cons (.own _) .nil)), rfl, XD, .inr ⟨d, _, rfl, ed3⟩, kA, ?_⟩
    refine ⟨_, rfl, _, _, cB, true, rfl, .own _, rfl, XD, .inr ⟨d, _, rfl, ed3⟩, kit_own Kn.B.isC Kn.B.tyC KB.sB KB.sB, _, rfl, iteT ?_⟩
    refine ⟨_, rfl, _, _, cB, true, rfl, .ty _, rfl, XD, .inr ⟨d, _, rfl, ed3⟩, kit_typ KB.sV, _, rfl, iteT ?_⟩
    refine ⟨_, rfl, _, rfl, ?_⟩
    refine ⟨_, rfl, rfl, rfl, d, _, .str x, rfl, ed3, look2, ?_⟩
    refine ⟨_, rfl, rfl, rfl, d, _, .int n, rfl, ed3, look1, small (by simp), fun p np => ?_⟩
    exact o x n er _ _ ((s2.trans s3).trans (same_new np)) (.tup tup_new (.cons (.str _) (.cons (.int _) .nil)))
end

theorem room65 {k : Nat} {A : Around} (hr : Room k A) : A.units + 65 < cLine := by
  have := hr.un
  omega
/-! ### data that are laid flat enough to be compared -/
def Lay (n : Nat) (d : PyData) : Prop := d.canLay0 = true ∧ d.depth ≤ n
def Lays (n : Nat) (ds : List PyData) : Prop := PyData.canLayAll0 ds = true ∧ PyData.depthAll ds ≤ n
theorem Lay.shaped {n : Nat} {d : PyData} (h : Lay n d) (hn : n ≤ 64 := by decide) : SeqAt.shaped d = true := by
  unfold SeqAt.shaped
  rw [h.1, Bool.true_and]
  exact decide_eq_true (Nat.le_trans h.2 hn)
theorem Lay.refl {n : Nat} {d : PyData} (h : Lay n d) : PyData.eqv d d = true := SeqAt.eqv_refl d h.1
theorem lays_nil {n : Nat} : Lays n [] := ⟨rfl, Nat.zero_le _⟩
theorem Lays.cons {n : Nat} {d : PyData} {ds : List PyData} (h : Lay n d) (g : Lays n ds) : Lays n (d :: ds) :=
  ⟨by unfold PyData.canLayAll0; rw [h.1, g.1]; rfl, by unfold PyData.depthAll; exact Nat.max_le.mpr ⟨h.2, g.2⟩⟩
theorem Lays.tup {n : Nat} {ds : List PyData} (h : Lays n ds) : Lay (n + 1) (.tuple ds) := ⟨by unfold PyData.canLay0; exact h.1, by unfold PyData.depth; exact Nat.succ_le_succ h.2⟩
theorem Lays.lst {n : Nat} {ds : List PyData} (h : Lays n ds) : Lay (n + 1) (.list ds) := ⟨by unfold PyData.canLay0; exact h.1, by unfold PyData.depth; exact Nat.succ_le_succ h.2⟩
theorem lay_int {n : Nat} {i : Int} : Lay n (.int i) := ⟨by unfold PyData.canLay0; rfl, by unfold PyData.depth; exact Nat.zero_le _⟩
theorem lay_none {n : Nat} : Lay n .none := ⟨by unfold PyData.canLay0; rfl, by unfold PyData.depth; exact Nat.zero_le _⟩
theorem lay_str {n : Nat} {x : Str} (h : PyData.strOk x = true) : Lay n (.str x) := ⟨by unfold PyData.canLay0; exact h, by unfold PyData.depth; exact Nat.zero_le _⟩
theorem Lays.all {n : Nat} {ds : List PyData} (h : ∀ d ∈ ds, Lay n d) : Lays n ds := by
  induction ds with
  | nil => exact lays_nil
  | cons d ds ih => exact .cons (h d List.mem_cons_self) (ih fun e he => h e (List.mem_cons_of_mem _ he))
theorem Lay.more {n m : Nat} {d : PyData} (h : Lay n d) (e : n ≤ m) : Lay m d := ⟨h.1, Nat.le_trans h.2 e⟩
theorem lays_ints {n : Nat} (l : List Int) : Lays n (dints l) := .all fun d hd => by
  obtain ⟨i, _, rfl⟩ := List.mem_map.mp hd
  exact lay_int
theorem Shelf.lay (s : Shelf) : Lay 1 s.d := (Lays.cons lay_int (Lays.cons lay_int (Lays.cons lay_int lays_nil))).tup
theorem ok_fetch : PyData.strOk "fetch" = true := by decide +kernel
theorem ok_bring : PyData.strOk "bring" = true := by decide +kernel
theorem ok_left : PyData.strOk "left" = true := by decide +kernel
theorem ok_right : PyData.strOk "right" = true := by decide +kernel
theorem ok_any : PyData.strOk "any" = true := by decide +kernel
theorem Wish.lay {n m : Int} {x : Wish} (h : WishOk n m x) : Lay 2 x.d := by
  have h1 : PyData.strOk x.kind = true := by
    rcases h.kind with e | e
    · rw [e]; exact ok_fetch
    · rw [e]; exact ok_bring
  have h2 : PyData.strOk x.side = true := by
    rcases h.side with e | e | e
    · rw [e]; exact ok_left
    · rw [e]; exact ok_right
    · rw [e]; exact ok_any
  exact (Lays.cons (lay_str h1) (Lays.cons lay_int (Lays.cons (lay_str h2) (Lays.cons lay_int (Lays.cons lay_int (Lays.cons (lays_ints _).tup lays_nil)))))).tup
theorem shelves_lay (l : List Shelf) : Lay 2 (.list (dshelves l)) := (Lays.all fun d hd => by
  obtain ⟨i, _, rfl⟩ := List.mem_map.mp hd
  exact i.lay).lst
theorem wishes_lay {n m : Int} {l : List Wish} (h : ∀ x ∈ l, WishOk n m x) : Lay 3 (.list (dwishes l)) := (Lays.all fun d hd => by
  obtain ⟨i, hi, rfl⟩ := List.mem_map.mp hd
  exact Wish.lay (h i hi)).lst
/-! ### a list that grows, without the draws -/
structure Acq (K : PySem.W.Frag) (B0 B H : Hp) (l : Addr) (xs : List V) (ds : List PyData) : Prop where
  s : Same B0 B
  R : Same B H
  bl : B l = none
  el : H l = some (.lst xs)
  dx : DpAll K B xs ds
section
variable {K : PySem.W.Frag} {B0 B H H' : Hp} {l p : Addr} {xs : List V} {ds : List PyData} {o : HO}
theorem Acq.start (s : Same B0 B) (R : Same B H) (h : H l = none) : Acq K B0 B (upd H l (.lst [])) l [] [] := ⟨s, Same.new R h, R.free h, upd_same, .nil⟩
theorem Acq.grow (A : Acq K B0 B H l xs ds) (h : H p = none) : Acq K B0 (upd B p o) (upd H p o) l xs ds := by
  have n : l ≠ p := ne_of_none A.el h
  have z := A.R.free h
  exact ⟨A.s.trans (same_new z), Same.grow A.R h, by rw [upd_ne n]; exact A.bl, by rw [upd_ne n]; exact A.el, dps_mono (same_new z) A.dx⟩
theorem Acq.app {v : V} {d : PyData} (A : Acq K B0 B H l xs ds) (h : Dp K B v d) : Acq K B0 B (upd H l (.lst (xs ++ [v]))) l (xs ++ [v]) (ds ++ [d]) :=
  ⟨A.s, Same.put A.R A.bl, A.bl, upd_same, dps_app A.dx (.cons h .nil)⟩
/-- what a pure def made beside it -/
theorem Acq.pure (A : Acq K B0 B H l xs ds) (s : Same H H') : Acq K B0 (del1 H' l) H' l xs ds := by
  have s1 : Same B (del1 H' l) := same_del (A.R.trans s) A.bl
  exact ⟨A.s.trans s1, fun b o e => by
    by_cases hb : b = l
    · rw [hb, del1_same] at e
      cases e
    · rw [del1_ne hb] at e
      exact e, del1_same, s _ _ A.el, dps_mono s1 A.dx⟩
theorem Acq.keep (A : Acq K B0 B H l xs ds) (s : Same H H') : Acq K B0 B H' l xs ds := ⟨A.s, A.R.trans s, A.bl, s _ _ A.el, A.dx⟩
theorem Acq.all (A : Acq K B0 B H l xs ds) : Same B0 H ∧ SqL K H l xs ∧ DpAll K H xs ds := ⟨A.s.trans A.R, SqL.of A.el, dps_mono A.R A.dx⟩
end
/-! ### in, not in, of a list of ints -/
section
variable {z : Int} {l : List Int} {A B : Prop}
theorem in_y (h : z ∈ l) (q : A) : if (if false = true then !inV (V.int z) (l.map V.int) else inV (V.int z) (l.map V.int)) = true then A else B := by
  rw [inV_ints.mpr h]
  exact iteT q
theorem inF {l : List Int} {z : Int} (h : z ∉ l) : inV (V.int z) (l.map V.int) = false := by
  cases e : inV (V.int z) (l.map V.int) with
  | false => rfl
  | true => exact absurd (inV_ints.mp e) h
theorem in_n (h : z ∉ l) (q : B) : if (if false = true then !inV (V.int z) (l.map V.int) else inV (V.int z) (l.map V.int)) = true then A else B := by
  rw [inF h]
  exact iteF q
theorem ni_y (h : z ∉ l) (q : A) : if (if true = true then !inV (V.int z) (l.map V.int) else inV (V.int z) (l.map V.int)) = true then A else B := by
  rw [inF h]
  exact iteT q
theorem ni_n (h : z ∈ l) (q : B) : if (if true = true then !inV (V.int z) (l.map V.int) else inV (V.int z) (l.map V.int)) = true then A else B := by
  rw [inV_ints.mpr h]
  exact iteF q
end
theorem sne {a b : Str} (h : ¬ a = b) : ¬ (V.str a = V.str b) := fun z => h (V.str.inj z)
theorem ine {a b : Int} (h : ¬ a = b) : ¬ (V.int a = V.int b) := fun z => h (V.int.inj z)
theorem int_item {l : List Int} {i : Nat} {y : V} (h : (l.map V.int)[i]? = some y) : ∃ z, l[i]? = some z ∧ y = V.int z := by
  rw [List.getElem?_map] at h
  cases e : l[i]? with
  | none =>
    rw [e] at h
    cases h
  | some z =>
    rw [e] at h
    exact ⟨z, rfl, (Option.some.inj h).symm⟩
theorem take_snoc {α : Type} {l : List α} {i : Nat} {z : α} (h : l[i]? = some z) : l.take (i + 1) = l.take i ++ [z] := by
  rw [List.take_add_one, h]
  rfl
theorem two_dp {K : PySem.W.Frag} {H : Hp} {a : Addr} {r : Str} {n : Int} (h : SqT K H a [.str r, .int n]) : Dp K H (.ref a) (.tuple [.str r, .int n]) := .tup h (.cons (.str _) (.cons (.int _) .nil))
theorem pair1 {K : PySem.W.Frag} {H : Hp} {a : Addr} {r : Str} (h : SqT K H a [.str r]) : Dp K H (.ref a) (.tuple [.str r]) := .tup h (.cons (.str _) .nil)
theorem filter_snoc {α : Type} {p : α → Bool} {l : List α} {i : Nat} {t : α} (h : l[i]? = some t) : (l.take (i + 1)).filter p = (l.take i).filter p ++ (if p t = true then [t] else []) := by
  rw [take_snoc h, List.filter_append]
  cases e : p t <;> simp [List.filter, e]
theorem Rising.len {lo n : Int} {l : List Int} (h : Rising lo n l) : l.length ≤ (n - lo).toNat := by
  induction l generalizing lo with
  | nil => exact Nat.zero_le _
  | cons i r ih =>
    obtain ⟨a, b, c⟩ := h
    have := ih c
    rw [List.length_cons]
    omega

/-! ### what does not hang on a list that is left out -/
theorem RowSt.pure {K : PySem.W.Frag} {ρ : RowP} {B H H' : Hp} (R : RowSt K ρ B H) (s : Same H H') : RowSt K ρ B H' := by
  obtain ⟨n1, n2, e, g⟩ := R.row
  exact ⟨R.same.trans s, R.free, R.scr, n1, n2, s _ _ e, g⟩
mutual
def noL : PyData → Bool
  | .tuple ds => noLs ds
  | .list _ => false
  | .dict _ => false
  | _ => true
def noLs : List PyData → Bool
  | [] => true
  | d :: ds => noL d && noLs ds
end
mutual
theorem dp_del {K : PySem.W.Frag} {B : Hp} {r : Addr} {zs : List V} (e : B r = some (.lst zs)) : ∀ {v : V} {d : PyData}, Dp K B v d → noL d = true → Dp K (del1 B r) v d
  | _, _, .non, _ => .non
  | _, _, .bl b, _ => .bl b
  | _, _, .int i, _ => .int i
  | _, _, .str x, _ => .str x
  | _, _, .lst _ _, h => absurd h (by unfold noL; decide)
  | _, _, .tup h g, q => .tup (sqt_del e h) (dps_del e g (by unfold noL at q; exact q))
theorem dps_del {K : PySem.W.Frag} {B : Hp} {r : Addr} {zs : List V} (e : B r = some (.lst zs)) : ∀ {vs : List V} {ds : List PyData}, DpAll K B vs ds → noLs ds = true → DpAll K (del1 B r) vs ds
  | _, _, .nil, _ => .nil
  | _, _, .cons h g, q => by
    unfold noLs at q
    obtain ⟨q1, q2⟩ := Bool.and_eq_true_iff.mp q
    exact .cons (dp_del e h q1) (dps_del e g q2)
end
theorem noL_ints (l : List Int) : noLs (dints l) = true := by
  induction l with
  | nil => rfl
  | cons i l ih =>
    show (noL (.int i) && noLs (dints l)) = true
    rw [ih]
    rfl
theorem noL_shelves (l : List Shelf) : noLs (dshelves l) = true := by
  induction l with
  | nil => rfl
  | cons i l ih =>
    show (noL i.d && noLs (dshelves l)) = true
    rw [ih]
    rfl
theorem noL_wishes (l : List Wish) : noLs (dwishes l) = true := by
  induction l with
  | nil => rfl
  | cons x l ih =>
    show (noL x.d && noLs (dwishes l)) = true
    rw [ih]
    show ((true && (true && (true && (true && (true && (noLs (dints x.after) && true)))))) && true) = true
    rw [noL_ints]
    rfl
theorem sql_del {K : PySem.W.Frag} {B : Hp} {r l : Addr} {xs zs : List V} (e : B r = some (.lst zs)) (n : xs ≠ zs) (h : SqL K B l xs) : SqL K (del1 B r) l xs := by
  rcases h with (h | ⟨o, h⟩) | h
  · refine .inl (.inl ?_)
    rw [del1_ne (fun z => by
      rw [z, e] at h
      cases h
      exact n rfl)]
    exact h
  · refine .inl (.inr ⟨o, ?_⟩)
    rw [del1_ne (fun z => by rw [z, e] at h; cases h)]
    exact h
  · exact .inr h
theorem no_int_tup {K : PySem.W.Frag} {B : Hp} {i : Int} {ds : List PyData} (h : Dp K B (.int i) (.tuple ds)) : False := by cases h
theorem not_row1 {K : PySem.W.Frag} {B : Hp} {x : V} {i : Int} {r : List V} {ss : List Shelf} (h : DpAll K B (x :: .int i :: r) (dshelves ss)) : False := by
  cases ss with
  | nil => cases h
  | cons s ss =>
    cases ss with
    | nil =>
      cases h with
      | cons _ h => cases h
    | cons s2 ss =>
      cases h with
      | cons _ h =>
        cases h with
        | cons h _ => exact no_int_tup h
theorem not_row2 {K : PySem.W.Frag} {B : Hp} {x : V} {i : Int} {r : List V} {ss : List Wish} (h : DpAll K B (x :: .int i :: r) (dwishes ss)) : False := by
  cases ss with
  | nil => cases h
  | cons s ss =>
    cases ss with
    | nil =>
      cases h with
      | cons _ h => cases h
    | cons s2 ss =>
      cases h with
      | cons _ h =>
        cases h with
        | cons h _ => exact no_int_tup h
theorem ob_del {K : PySem.W.Frag} {C : Addr} {H : Hp} {r p : Addr} {x : V} {i j : Int} {S : Sto} (e : H r = some (.lst [x, .int i, .int j])) (h : Ob K C H p S) : Ob K C (del1 H r) p S := by
  obtain ⟨dx, l, m, xs, ys, o⟩ := h
  refine ⟨dx, l, m, xs, ys, ?_, sql_del e (fun z => ?_) o.l, dps_del e o.dx (noL_shelves _), sql_del e (fun z => ?_) o.m, dps_del e o.dy (noL_wishes _)⟩
  · rw [del1_ne (fun z => by
      have q := o.o
      rw [z, e] at q
      cases q)]
    exact o.o
  · have q := o.dx
    rw [z] at q
    exact not_row1 q
  · have q := o.dy
    rw [z] at q
    exact not_row2 q
/-- the row is known, B is all but it -/
theorem row_all {K : PySem.W.Frag} {ρ : RowP} {B H H' : Hp} (R : RowSt K ρ B H) (s : Same H H') : RowSt K ρ (del1 H' ρ.r) H' ∧ Same B (del1 H' ρ.r) := by
  obtain ⟨n1, n2, e, g⟩ := R.row
  have z := same_del (R.same.trans s) R.free
  exact ⟨⟨fun b o h => by
    by_cases hb : b = ρ.r
    · rw [hb, del1_same] at h
      cases h
    · rw [del1_ne hb] at h
      exact h, del1_same, Same.l z R.scr, n1, n2, s _ _ e, g⟩, z⟩

/-! ### expressions that only lay data down: what they give -/
def EvD (K : PySem.W.Frag) (σ : L2.St) (H : Hp) (t : TE) (d : PyData) : Prop := ∀ (H' : Hp) (Q : VK), Same H H' → (∀ v H'', Same H' H'' → Dp K H'' v d → Q v H'') → t σ H' Q
def Evs (K : PySem.W.Frag) (σ : L2.St) (H : Hp) (t : TA) (ds : List PyData) : Prop := ∀ (H' : Hp) (Q : List V → Hp → Prop), Same H H' → (∀ vs H'', Same H' H'' → DpAll K H'' vs ds → Q vs H'') → t σ H' Q
/-- a list of this walk's own -/
def EvR (K : PySem.W.Frag) (σ : L2.St) (H : Hp) (t : TE) (ds : List PyData) : Prop := ∀ (H' : Hp) (Q : VK), Same H H' → (∀ a xs H'', Same H' H'' → H'' a = some (.lst xs) → DpAll K H'' xs ds → Q (.ref a) H'') → t σ H' Q
/-- .. that is new -/
def EvL (K : PySem.W.Frag) (σ : L2.St) (H : Hp) (t : TE) (ds : List PyData) : Prop := ∀ (H' : Hp) (Q : VK), Same H H' → (∀ a xs H'', Same H' H'' → H' a = none → H'' a = some (.lst xs) → DpAll K H'' xs ds → Q (.ref a) H'') → t σ H' Q
section
variable {K : PySem.W.Frag} {σ : L2.St} {H : Hp}
theorem EvD.mono {H' : Hp} {t : TE} {d : PyData} (s : Same H H') (h : EvD K σ H t d) : EvD K σ H' t d := fun H2 Q s2 q => h H2 Q (s.trans s2) q
theorem ev_int {i : Int} : EvD K σ H (tC (.int i)) (.int i) := fun H' Q _ q => q _ H' (Same.refl _) (.int i)
theorem ev_str {i : Str} : EvD K σ H (tC (.str i)) (.str i) := fun H' Q _ q => q _ H' (Same.refl _) (.str i)
theorem ev_varI {k : Nat} {i : Int} (h : σ[k]? = some (some (.int i))) : EvD K σ H (tVar k) (.int i) := fun H' Q _ q => ⟨_, h, q _ H' (Same.refl _) (.int i)⟩
theorem ev_varS {k : Nat} {i : Str} (h : σ[k]? = some (some (.str i))) : EvD K σ H (tVar k) (.str i) := fun H' Q _ q => ⟨_, h, q _ H' (Same.refl _) (.str i)⟩
theorem ev_var {k : Nat} {v : V} {d : PyData} (h : σ[k]? = some (some v)) (hd : Dp K H v d) : EvD K σ H (tVar k) d := fun H' Q s q => ⟨_, h, q _ H' (Same.refl _) (dp_mono s hd)⟩
theorem ev_op {f : Int → Int → Int} {ta tb : TE} {i j : Int} (ha : EvD K σ H ta (.int i)) (hb : EvD K σ H tb (.int j)) : EvD K σ H (tOp (rI0 fun i j => V.int (f i j)) ta tb) (.int (f i j)) := fun H' Q s q => ha H' _ s fun v H1 s1 d1 => hb H1 _ (s.trans s1) fun u H2 s2 d2 => by
  rw [dp_int d1, dp_int d2]
  exact ⟨i, j, rfl, rfl, q _ H2 (s1.trans s2) (.int _)⟩
theorem ev_add {ta tb : TE} {i j : Int} (ha : EvD K σ H ta (.int i)) (hb : EvD K σ H tb (.int j)) : EvD K σ H (tOp (rI0 fun i j => V.int (i + j)) ta tb) (.int (i + j)) := ev_op (f := fun i j => i + j) ha hb
theorem ev_sub {ta tb : TE} {i j : Int} (ha : EvD K σ H ta (.int i)) (hb : EvD K σ H tb (.int j)) : EvD K σ H (tOp (rI0 fun i j => V.int (i - j)) ta tb) (.int (i - j)) := ev_op (f := fun i j => i - j) ha hb
theorem ev_neg {ta : TE} {i : Int} (ha : EvD K σ H ta (.int i)) : EvD K σ H (tUn (rU fun i => V.int (-i)) ta) (.int (-i)) := fun H' Q s q => ha H' _ s fun v H1 s1 d1 => by
  rw [dp_int d1]
  exact ⟨i, rfl, q _ H1 s1 (.int _)⟩
theorem evs_nil : Evs K σ H tNil [] := fun H' Q _ q => q [] H' (Same.refl _) .nil
theorem evs_cons {ta : TE} {tr : TA} {d : PyData} {ds : List PyData} (ha : EvD K σ H ta d) (hr : Evs K σ H tr ds) : Evs K σ H (tCons ta tr) (d :: ds) := fun H' Q s q => ha H' _ s fun v H1 s1 d1 => hr H1 _ (s.trans s1) fun vs H2 s2 d2 => q _ H2 (s1.trans s2) (.cons (dp_mono s2 d1) d2)
theorem ev_tup {ta : TA} {ds : List PyData} (ha : Evs K σ H ta ds) (hl : ds.length ≤ 1000 := by exact Nat.le_of_ble_eq_true rfl) : EvD K σ H (tTup ta) (.tuple ds) := fun H' Q s q => ha H' _ s fun vs H1 s1 d1 => ⟨small (by rw [dps_len d1]; exact hl), fun p np =>
  q _ _ (s1.trans (same_new np)) (.tup tup_new (dps_mono (same_new np) d1))⟩
theorem evl_lst {ta : TA} {ds : List PyData} (ha : Evs K σ H ta ds) (hl : ds.length ≤ 1000 := by exact Nat.le_of_ble_eq_true rfl) : EvL K σ H (tLst ta) ds := fun H' Q s q => ha H' _ s fun vs H1 s1 d1 => ⟨small (by rw [dps_len d1]; exact hl), fun p np =>
  q _ _ _ (s1.trans (same_new np)) (s1.free np) upd_same (dps_mono (same_new np) d1)⟩
theorem EvL.r {t : TE} {ds : List PyData} (h : EvL K σ H t ds) : EvR K σ H t ds := fun H' Q s q => h H' Q s fun a xs H'' s1 _ e d => q a xs H'' s1 e d
theorem EvL.d {t : TE} {ds : List PyData} (h : EvL K σ H t ds) : EvD K σ H t (.list ds) := fun H' Q s q => h H' Q s fun a xs H'' s1 _ e d => q _ H'' s1 (.lst (SqL.of e) d)
theorem evr_var {k : Nat} {a : Addr} {xs : List V} {ds : List PyData} (h : σ[k]? = some (some (.ref a))) (e : H a = some (.lst xs)) (hd : DpAll K H xs ds) : EvR K σ H (tVar k) ds := fun H' Q s q => ⟨_, h, q _ xs H' (Same.refl _) (s _ _ e) (dps_mono s hd)⟩
theorem evl_cat {ta tb : TE} {ds es : List PyData} (ha : EvR K σ H ta ds) (hb : EvR K σ H tb es) (hl : ds.length + es.length ≤ 1000) : EvL K σ H (tOp rCat ta tb) (ds ++ es) := fun H' Q s q => ha H' _ s fun a xs H1 s1 e1 d1 => hb H1 _ (s.trans s1) fun b ys H2 s2 e2 d2 =>
  ⟨a, b, xs, ys, rfl, rfl, s2 _ _ e1, e2, small (by rw [dps_len d1, dps_len d2]; exact hl), fun p np => q _ _ _ ((s1.trans s2).trans (same_new np)) ((s1.trans s2).free np) upd_same (dps_mono (same_new np) (dps_app (dps_mono s2 d1) d2))⟩
theorem dps_rep {H : Hp} {xs : List V} {ds : List PyData} (h : DpAll K H xs ds) : ∀ k : Nat, DpAll K H (List.replicate k xs).flatten (List.replicate k ds).flatten
  | 0 => .nil
  | k + 1 => by
    rw [List.replicate_succ, List.replicate_succ, List.flatten_cons, List.flatten_cons]
    exact dps_app h (dps_rep h k)
theorem evl_rep {ta tb : TE} {ds : List PyData} {k : Int} (ha : EvR K σ H ta ds) (hb : EvD K σ H tb (.int k)) (h0 : 0 ≤ k) (h1 : k ≤ 1000) (hl : ds.length * k.toNat ≤ 1000) : EvL K σ H (tOp rRep ta tb) (List.replicate k.toNat ds).flatten := fun H' Q s q => ha H' _ s fun a xs H1 s1 e1 d1 => hb H1 _ (s.trans s1) fun v H2 s2 d2 => by
  rw [dp_int d2]
  refine ⟨a, k, xs, rfl, rfl, s2 _ _ e1, by omega, by omega, small (by rw [dps_len d1]; exact hl), fun p np => q _ _ _ ((s1.trans s2).trans (same_new np)) ((s1.trans s2).free np) upd_same (dps_mono (s2.trans (same_new np)) (dps_rep d1 _))⟩
theorem evr_of {t : TE} {ds es : List PyData} (h : EvR K σ H t ds) (e : ds = es) : EvR K σ H t es := e ▸ h
theorem ev_of {t : TE} {d e : PyData} (h : EvD K σ H t d) (q : d = e) : EvD K σ H t e := q ▸ h
theorem EvL.go {t : TE} {ds : List PyData} {H' : Hp} {Q : VK} (h : EvL K σ H t ds) (s : Same H H') (q : ∀ a xs H'', Same H' H'' → H' a = none → H'' a = some (.lst xs) → DpAll K H'' xs ds → Q (.ref a) H'') : t σ H' Q := h H' Q s q
theorem EvD.go {t : TE} {d : PyData} {H' : Hp} {Q : VK} (h : EvD K σ H t d) (s : Same H H') (q : ∀ v H'', Same H' H'' → Dp K H'' v d → Q v H'') : t σ H' Q := h H' Q s q
theorem Evs.go {t : TA} {ds : List PyData} {H' : Hp} {Q : List V → Hp → Prop} (h : Evs K σ H t ds) (s : Same H H') (q : ∀ vs H'', Same H' H'' → DpAll K H'' vs ds → Q vs H'') : t σ H' Q := h H' Q s q
theorem EvL.set {t : TE} {ds : List PyData} {H' : Hp} {i : Nat} {tr : TS} {D : Ends} (h : EvL K σ H t ds) (s : Same H H') (q : ∀ a xs H'', Same H' H'' → H' a = none → H'' a = some (.lst xs) → DpAll K H'' xs ds → tr D (σ.set i (some (.ref a))) H'') : tSeq (tAsg t (gName i)) tr D σ H' := h H' _ s q
theorem EvL.asg {t : TE} {ds : List PyData} {H' : Hp} {i : Nat} {D : Ends} (h : EvL K σ H t ds) (s : Same H H') (q : ∀ a xs H'', Same H' H'' → H' a = none → H'' a = some (.lst xs) → DpAll K H'' xs ds → D.nx (σ.set i (some (.ref a))) H'') : tAsg t (gName i) D σ H' := h H' _ s q
theorem EvD.set {t : TE} {d : PyData} {H' : Hp} {i : Nat} {tr : TS} {D : Ends} (h : EvD K σ H t d) (s : Same H H') (q : ∀ v H'', Same H' H'' → Dp K H'' v d → tr D (σ.set i (some v)) H'') : tSeq (tAsg t (gName i)) tr D σ H' := h H' _ s q
theorem EvD.asg {t : TE} {d : PyData} {H' : Hp} {i : Nat} {D : Ends} (h : EvD K σ H t d) (s : Same H H') (q : ∀ v H'', Same H' H'' → Dp K H'' v d → D.nx (σ.set i (some v)) H'') : tAsg t (gName i) D σ H' := h H' _ s q
theorem EvD.ret {t : TE} {d : PyData} {H' : Hp} {D : Ends} (h : EvD K σ H t d) (s : Same H H') (q : ∀ v H'', Same H' H'' → Dp K H'' v d → D.rt v H'') : tRet t D σ H' := h H' _ s q
theorem ev_bool {b : Bool} : EvD K σ H (tC (.bl b)) (.bool b) := fun H' Q _ q => q _ H' (Same.refl _) (.bl b)
theorem cut_ft (xs : List V) (i j : Nat) : cutV xs (some (i : Int)) (some (j : Int)) = (xs.drop i).take (j - i) := by
  unfold cutV
  rw [HT.sIx_nat, HT.sIx_nat]
  refine List.ext_getElem? fun k => ?_
  rw [List.getElem?_take, List.getElem?_take, List.getElem?_drop, List.getElem?_drop]
  by_cases h1 : i ≤ xs.length
  · rw [Nat.min_eq_left h1]
    by_cases h2 : k < j - i
    · rw [if_pos h2]
      by_cases h3 : k < min j xs.length - i
      · rw [if_pos h3]
      · rw [if_neg h3, List.getElem?_eq_none (by omega)]
    · rw [if_neg h2, if_neg (by omega)]
  · rw [List.getElem?_eq_none (l := xs) (i := i + k) (by omega), if_neg (by omega)]
    split <;> rfl
theorem cut_t (xs : List V) (j : Nat) : cutV xs none (some (j : Int)) = xs.take j := by
  have e := cut_ft xs 0 j
  rw [List.drop_zero, Nat.sub_zero] at e
  rw [← e]
  unfold cutV
  rw [HT.sIx_none, HT.sIx_nat _ _ 0]
  simp
theorem dps_drop {vs : List V} {ds : List PyData} (h : DpAll K H vs ds) : ∀ n : Nat, DpAll K H (vs.drop n) (ds.drop n)
  | 0 => h
  | n + 1 => by
    cases ds with
    | nil =>
      rw [dps_nil h]
      exact .nil
    | cons d ds =>
      obtain ⟨x, r, rfl, _, hr⟩ := dps_cons h
      exact dps_drop hr n
/-- l[:j], l a list -/
theorem evl_to {k : Nat} {a : Addr} {xs : List V} {ds : List PyData} {j : Nat} {tj : TE} (h : σ[k]? = some (some (.ref a))) (hl : SqL K H a xs) (hd : DpAll K H xs ds) (hj : EvD K σ H tj (.int (j : Int))) : EvL K σ H (tSl (rSlL K) (tVar k) tNoPart (tPart tj)) (ds.take j) := fun H' Q s q =>
  ⟨_, h, hj H' _ s fun v H2 s2 d2 => ⟨(j : Int), dp_int d2, a, xs, rfl, Same.l (s.trans s2) hl, fun p np => by
    rw [cut_t]
    exact q p _ _ (s2.trans (same_new np)) (s2.free np) upd_same (dps_mono ((s.trans s2).trans (same_new np)) (dps_take hd j))⟩⟩
/-- l[i:j] -/
theorem evl_ft {k : Nat} {a : Addr} {xs : List V} {ds : List PyData} {i j : Nat} {ti tj : TE} (h : σ[k]? = some (some (.ref a))) (hl : SqL K H a xs) (hd : DpAll K H xs ds) (hi : EvD K σ H ti (.int (i : Int))) (hj : EvD K σ H tj (.int (j : Int))) : EvL K σ H (tSl (rSlL K) (tVar k) (tPart ti) (tPart tj)) ((ds.drop i).take (j - i)) := fun H' Q s q =>
  ⟨_, h, hi H' _ s fun u H1 s1 d1 => ⟨(i : Int), dp_int d1, hj H1 _ (s.trans s1) fun v H2 s2 d2 => ⟨(j : Int), dp_int d2, a, xs, rfl, Same.l ((s.trans s1).trans s2) hl, fun p np => by
    rw [cut_ft]
    exact q p _ _ ((s1.trans s2).trans (same_new np)) ((s1.trans s2).free np) upd_same (dps_mono (((s.trans s1).trans s2).trans (same_new np)) (dps_take (dps_drop hd i) _))⟩⟩⟩
/-- len(l) -/
theorem ev_len {k : Nat} {a : Addr} {xs : List V} {n : Int} (h : σ[k]? = some (some (.ref a))) (hl : SqL K H a xs) (e : (xs.length : Int) = n) : EvD K σ H (tCB (rLen K) (tCons (tVar k) tNil)) (.int n) := fun H' Q s q =>
  ⟨_, h, a, xs, rfl, .inl (Same.l s hl), by rw [e]; exact q _ H' (Same.refl _) (.int _)⟩
theorem ev_min {ta tb : TE} {i j : Int} (ha : EvD K σ H ta (.int i)) (hb : EvD K σ H tb (.int j)) : EvD K σ H (tCB (fun xs H Q => ∃ i j, xs = [V.int i, V.int j] ∧ Q (V.int (if j < i then j else i)) H) (tCons ta (tCons tb tNil))) (.int (min i j)) := fun H' Q s q => ha H' _ s fun v H1 s1 d1 => hb H1 _ (s.trans s1) fun u H2 s2 d2 => by
  rw [dp_int d1, dp_int d2]
  refine ⟨i, j, rfl, ?_⟩
  have e : (if j < i then j else i) = min i j := by split <;> omega
  rw [e]
  exact q _ H2 (s1.trans s2) (.int _)
theorem ev_eqI {ta tb : TE} {i j : Int} (ha : EvD K σ H ta (.int i)) (hb : EvD K σ H tb (.int j)) : EvD K σ H (tOp rEq ta tb) (.bool (decide (i = j))) := fun H' Q s q => ha H' _ s fun v H1 s1 d1 => hb H1 _ (s.trans s1) fun u H2 s2 d2 => by
  rw [dp_int d1, dp_int d2]
  refine ⟨rfl, ?_⟩
  have e : decide (V.int i = V.int j) = decide (i = j) := by
    by_cases h : i = j
    · rw [h, decide_eq_true rfl, decide_eq_true rfl]
    · rw [decide_eq_false h, decide_eq_false (ine h)]
  rw [e]
  exact q _ H2 (s1.trans s2) (.bl _)
theorem ev_ltI {ta tb : TE} {i j : Int} (ha : EvD K σ H ta (.int i)) (hb : EvD K σ H tb (.int j)) : EvD K σ H (tOp (rI0 fun i j => V.bl (decide (i < j))) ta tb) (.bool (decide (i < j))) := fun H' Q s q => ha H' _ s fun v H1 s1 d1 => hb H1 _ (s.trans s1) fun u H2 s2 d2 => by
  rw [dp_int d1, dp_int d2]
  exact ⟨i, j, rfl, rfl, q _ H2 (s1.trans s2) (.bl _)⟩
theorem ev_andB {ta tb : TE} {b c : Bool} (ha : EvD K σ H ta (.bool b)) (hb : EvD K σ H tb (.bool c)) : EvD K σ H (tAndV ta tb) (.bool (b && c)) := fun H' Q s q => ha H' _ s fun v H1 s1 d1 => by
  rw [dp_bool d1]
  refine ⟨b, rfl, ?_⟩
  cases b with
  | true => exact iteT (hb H1 _ (s.trans s1) fun u H2 s2 d2 => q _ H2 (s1.trans s2) d2)
  | false => exact iteF (q _ H1 s1 (.bl _))
theorem ev_intB {ta : TE} {b : Bool} (ha : EvD K σ H ta (.bool b)) : EvD K σ H (tCB (fun xs H Q => (∃ i, xs = [V.int i] ∧ Q (V.int i) H) ∨ ∃ k, xs = [V.bl k] ∧ Q (V.int (if k = true then 1 else 0)) H) (tCons ta tNil)) (.int (if b = true then 1 else 0)) := fun H' Q s q => ha H' _ s fun v H1 s1 d1 => by
  rw [dp_bool d1]
  exact .inr ⟨b, rfl, q _ H1 s1 (.int _)⟩
/-- (x,) * 6 and the like -/
theorem ev_repT {ta tb : TE} {ds : List PyData} {k : Int} (ha : EvD K σ H ta (.tuple ds)) (hb : EvD K σ H tb (.int k)) (h0 : 2 ≤ k) (h1 : k ≤ 1000) (ne : ds ≠ []) (hl : ds.length ≤ 1000) : EvD K σ H (tOp (rRepT K) ta tb) (.tuple (List.replicate k.toNat ds).flatten) := fun H' Q s q => ha H' _ s fun v H1 s1 d1 => hb H1 _ (s.trans s1) fun u H2 s2 d2 => by
  obtain ⟨a, xs, rfl, e1, dx⟩ := dp_tup d1
  rw [dp_int d2]
  have lx := dps_len dx
  refine ⟨a, k, xs, rfl, rfl, Same.t s2 e1, fun z => ne (List.eq_nil_of_length_eq_zero (by rw [← lx, z]; rfl)), h0, h1, by omega, fun p np => q _ _ ((s1.trans s2).trans (same_new np)) (.tup tup_new (dps_mono (s2.trans (same_new np)) (dps_rep dx _)))⟩
/-- [..][i], the list new -/
theorem ev_ixL {ta tb : TE} {ds : List PyData} {i : Int} {d : PyData} (ha : EvR K σ H ta ds) (hb : EvD K σ H tb (.int i)) (h0 : 0 ≤ i) (hd : ds[i.toNat]? = some d) : EvD K σ H (tOp (rIxL K) ta tb) d := fun H' Q s q => ha H' _ s fun a xs H1 s1 e1 d1 => hb H1 _ (s.trans s1) fun u H2 s2 d2 => by
  rw [dp_int d2]
  obtain ⟨x, hx, dx⟩ := dps_get d1 hd
  exact ⟨a, xs, i, x, rfl, rfl, SqL.of (s2 _ _ e1), at_of (j := i.toNat) (by omega) hx, q x H2 (s1.trans s2) (dp_mono s2 dx)⟩
theorem EvL.of {t : TE} {ds es : List PyData} (h : EvL K σ H t ds) (e : ds = es) : EvL K σ H t es := e ▸ h
theorem EvL.thn {t u : TE} {r : R2} {ds : List PyData} {H' : Hp} {Q : VK} (h : EvL K σ H t ds) (s : Same H H') (q : ∀ a xs H'', Same H' H'' → H' a = none → H'' a = some (.lst xs) → DpAll K H'' xs ds → u σ H'' (fun y H2 => r (.ref a) y H2 Q)) : tOp r t u σ H' Q := h H' _ s q
theorem EvL.cons {t : TE} {ds : List PyData} {H' : Hp} {tr : TA} {Q : List V → Hp → Prop} (h : EvL K σ H t ds) (s : Same H H') (q : ∀ a xs H'', Same H' H'' → H' a = none → H'' a = some (.lst xs) → DpAll K H'' xs ds → tr σ H'' fun vs H2 => Q (.ref a :: vs) H2) : tCons t tr σ H' Q := h H' _ s q
theorem EvD.cons {t : TE} {d : PyData} {H' : Hp} {tr : TA} {Q : List V → Hp → Prop} (h : EvD K σ H t d) (s : Same H H') (q : ∀ v H'', Same H' H'' → Dp K H'' v d → tr σ H'' fun vs H2 => Q (v :: vs) H2) : tCons t tr σ H' Q := h H' _ s q
/-- a draw, its bound an expression -/
theorem taken_go {ρ : RowP} {B : Hp} {k : Nat} {e : TE} {n : Int} {Q : VK} (R : RowSt K ρ B H) (hk : σ[k]? = some (some (.ref ρ.r))) (he : EvD K σ H e (.int n)) (hn : 0 < n) (q : ∀ z H', 0 ≤ z → z < n → RowSt K ρ B H' → Q (.int z) H') : tCall (spTaken K) [] E0 (tCons (tVar k) (tCons e tNil)) σ H Q :=
  ⟨_, hk, he H _ (Same.refl _) fun v H1 s1 d1 => by
    rw [dp_int d1]
    exact ⟨ρ, n, B, rfl, hn, R.pure s1, fun z H' z0 z1 R' => q z H' z0 z1 R'⟩⟩
/-- one of a new list, by a draw -/
theorem draw_ix {ρ : RowP} {B : Hp} {k : Nat} {t e : TE} {n : Int} {ds : List PyData} {Q : VK} (R : RowSt K ρ B H) (hk : σ[k]? = some (some (.ref ρ.r))) (h : EvL K σ H t ds) (he : EvD K σ H e (.int n)) (hn : n = ds.length) (hp : 0 < n) (nl : noLs ds = true)
    (q : ∀ (i : Nat) d v H', ds[i]? = some d → RowSt K ρ (del1 H' ρ.r) H' → Same B (del1 H' ρ.r) → Dp K (del1 H' ρ.r) v d → Q v H') : tOp (rIxL K) t (tCall (spTaken K) [] E0 (tCons (tVar k) (tCons e tNil))) σ H Q := by
  refine EvL.thn h (Same.refl _) fun a xs H1 s1 na e1 d1 => ?_
  obtain ⟨R1, s01⟩ := row_all R s1
  obtain ⟨n1, n2, er, _⟩ := (R.pure s1).row
  have hra := R.nr na
  refine ⟨_, hk, he H1 _ s1 fun v H2 s2 d2 => ?_⟩
  rw [dp_int d2]
  refine ⟨ρ, n, _, rfl, hp, R1.pure s2, fun z H3 z0 z1 R3 => ?_⟩
  have lx := dps_len d1
  obtain ⟨v, hat, hv, _⟩ := atI_mem (xs := xs) z0 (by omega)
  have d1' := dps_del er d1 nl
  obtain ⟨d, hd, dv⟩ := dps_of_get d1' hv
  obtain ⟨R4, s34⟩ := row_all R3 (Same.refl _)
  exact ⟨a, xs, z, v, rfl, rfl, SqL.of (R3.same _ _ (by rw [del1_ne (Ne.symm hra)]; exact e1)), hat, q z.toNat d v H3 hd R4 (s01.trans s34) (dp_mono s34 dv)⟩
theorem draw_cons {ρ : RowP} {B : Hp} {k : Nat} {t e : TE} {n : Int} {ds : List PyData} {tr : TA} {Q : List V → Hp → Prop} (R : RowSt K ρ B H) (hk : σ[k]? = some (some (.ref ρ.r))) (h : EvL K σ H t ds) (he : EvD K σ H e (.int n)) (hn : n = ds.length) (hp : 0 < n) (nl : noLs ds = true)
    (q : ∀ (i : Nat) d v H', ds[i]? = some d → RowSt K ρ (del1 H' ρ.r) H' → Same B (del1 H' ρ.r) → Dp K (del1 H' ρ.r) v d → tr σ H' fun vs H2 => Q (v :: vs) H2) : tCons (tOp (rIxL K) t (tCall (spTaken K) [] E0 (tCons (tVar k) (tCons e tNil)))) tr σ H Q :=
  draw_ix (Q := fun v H1 => tr σ H1 fun vs H2 => Q (v :: vs) H2) R hk h he hn hp nl q
theorem draw_asg {ρ : RowP} {B : Hp} {k i : Nat} {t e : TE} {n : Int} {ds : List PyData} {D : Ends} (R : RowSt K ρ B H) (hk : σ[k]? = some (some (.ref ρ.r))) (h : EvL K σ H t ds) (he : EvD K σ H e (.int n)) (hn : n = ds.length) (hp : 0 < n) (nl : noLs ds = true)
    (q : ∀ (j : Nat) d v H', ds[j]? = some d → RowSt K ρ (del1 H' ρ.r) H' → Same B (del1 H' ρ.r) → Dp K (del1 H' ρ.r) v d → D.nx (σ.set i (some v)) H') : tAsg (tOp (rIxL K) t (tCall (spTaken K) [] E0 (tCons (tVar k) (tCons e tNil)))) (gName i) D σ H :=
  draw_ix (Q := fun v H1 => D.nx (σ.set i (some v)) H1) R hk h he hn hp nl q
theorem taken_asg {ρ : RowP} {B : Hp} {k i : Nat} {e : TE} {n : Int} {D : Ends} (R : RowSt K ρ B H) (hk : σ[k]? = some (some (.ref ρ.r))) (he : EvD K σ H e (.int n)) (hn : 0 < n) (q : ∀ z H', 0 ≤ z → z < n → RowSt K ρ B H' → D.nx (σ.set i (some (.int z))) H') : tAsg (tCall (spTaken K) [] E0 (tCons (tVar k) (tCons e tNil))) (gName i) D σ H :=
  taken_go (Q := fun v H1 => D.nx (σ.set i (some v)) H1) R hk he hn q
end

/-! ### a wish that is none -/
def badW (k : Str) (n m far : Int) : List Wish :=
  [⟨"take", 0, "any", 0, 0, []⟩, ⟨"", 0, "any", 0, 0, []⟩, ⟨k, n + far, "any", 0, 0, []⟩, ⟨k, -1 - far, "any", 0, 0, []⟩, ⟨k, 0, "up", 0, 0, []⟩, ⟨k, 0, "any", 2 + far, 0, []⟩,
    ⟨k, 0, "left", -1 - far, 0, []⟩, ⟨k, 0, "any", 1, 4 + far, []⟩, ⟨k, 0, "any", 1, -1 - far, []⟩, ⟨k, 0, "any", 0, 3, [m + far]⟩, ⟨k, 0, "any", 0, 0, [-1 - far]⟩, ⟨k, 0, "any", 0, 0, [0, 0]⟩]
theorem badW_bad {k : Str} {n m far : Int} (h : 0 ≤ far) : ∀ x ∈ badW k n m far, ¬ WishOk n m x := by
  intro x hx ok
  unfold badW at hx
  simp only [List.mem_cons, List.not_mem_nil, or_false] at hx
  rcases hx with rfl | rfl | rfl | rfl | rfl | rfl | rfl | rfl | rfl | rfl | rfl | rfl
  · exact ok.kind.elim (fun z => absurd z (by decide +kernel)) (fun z => absurd z (by decide +kernel))
  · exact ok.kind.elim (fun z => absurd z (by decide +kernel)) (fun z => absurd z (by decide +kernel))
  · have := ok.s1
    dsimp only at this
    omega
  · have := ok.s0
    dsimp only at this
    omega
  · have := ok.side
    dsimp only at this
    exact this.elim (fun z => absurd z (by decide +kernel)) (fun z => z.elim (fun z => absurd z (by decide +kernel)) (fun z => absurd z (by decide +kernel)))
  · have := ok.crew
    dsimp only at this
    omega
  · have := ok.crew
    dsimp only at this
    omega
  · have := ok.k3
    dsimp only at this
    omega
  · have := ok.k0
    dsimp only at this
    omega
  · have := ok.after.2.1
    omega
  · have := ok.after.1
    omega
  · have := ok.after.2.2.1
    omega
theorem badW_last {k : Str} {n m : Int} : ¬ WishOk n m ⟨k, 0, "right", 0, 0, [1, 0]⟩ := fun ok => by
  have := ok.after.2.2.1
  omega
section
variable {P : Program} {w : World} {K : PySem.W.Frag} {mg : Str → Option Value} {base : Heap}
def spBadWish (K : PySem.W.Frag) : Sp := fun vs H Q _ => ∃ (ρ : RowP) (n m : Int) (B : Hp), vs = [.ref ρ.r, .int n, .int m] ∧ RowSt K ρ B H ∧
  ∀ v B' H' (x : Wish), Same B B' → RowSt K ρ B' H' → Dp K B' v x.d → ¬ WishOk n m x → Q v H'
/-! _law_bad_wish: 0 _law_row, 1 _law_shelves, 2 _law_many, 3 _law_far, 4 _law_kind, 5 _law_some -/
abbrev s__law_bad_wish : Stmt := topS 24
abbrev N__law_bad_wish : List Str := ["_law_row", "_law_shelves", "_law_many", "_law_far", "_law_kind", "_law_some"]
theorem sc__law_bad_wish : FnScope N__law_bad_wish ["_law_row", "_law_shelves", "_law_many"] (defScope s__law_bad_wish) := ⟨rfl, rfl, rfl, by decide +kernel, rfl, by decide +kernel, by decide +kernel⟩
theorem ok__law_bad_wish {f f1 : Addr} {fd fd1 : FuncData} (D : Dfs K mg "_law_bad_wish" s__law_bad_wish ["_law_row", "_law_shelves", "_law_many"] f fd) (T : Tx K mg) (C__law_taken : Cal P w K mg base 1 "_law_taken" ["_law_row", "_law_many"] (spTaken K) f1 fd1) :
    Cal P w K mg base 2 "_law_bad_wish" ["_law_row", "_law_shelves", "_law_many"] (spBadWish K) f fd := by
  refine D.cal (D.F.ok sc__law_bad_wish (fun vs H Q E h => ?_) (fun cdv A outer s H vs Q E hr h => ?_))
  · obtain ⟨ρ, n, m, B, rfl, _⟩ := h
    rfl
  · obtain ⟨ρ, n, m, B, rfl, R, q⟩ := h
    refine ⟨_, (pss_cons (ps_set (i := 3) sc__law_bad_wish.nd rfl (Or.inl rfl) (pe_call C__law_taken.G (hr.mono (by decide)) (by rfl) C__law_taken.g C__law_taken.kp C__law_taken.b .nil pass0 (pa_cons (pv 0) (pa_cons (pe_op op_pow pe_int pe_int) pa_nil))))
      (C8.pss_cut (ps_set (i := 4) sc__law_bad_wish.nd rfl (Or.inl rfl) (pe_ix (kix_list (K := K)) (pe_lst (pa_cons pe_str (pa_cons pe_str pa_nil))) (pe_call C__law_taken.G (hr.mono (by decide)) (by rfl) C__law_taken.g C__law_taken.kp C__law_taken.b .nil pass0 (pa_cons (pv 0) (pa_cons pe_int pa_nil))) (fun _ _ => rfl)))
      (pss_cons (ps_set (i := 5) sc__law_bad_wish.nd rfl (Or.inl rfl) (pe_lst (pa_cons (pe_tup (pa_cons pe_str (pa_cons pe_int (pa_cons pe_str (pa_cons pe_int (pa_cons pe_int (pa_cons (pe_tup pa_nil) pa_nil))))))) (pa_cons (pe_tup (pa_cons pe_str (pa_cons pe_int (pa_cons pe_str (pa_cons pe_int (pa_cons pe_int (pa_cons (pe_tup pa_nil) pa_nil))))))) (pa_cons (pe_tup (pa_cons (pv 4) (pa_cons (pe_op op_add (pv 1) (pv 3)) (pa_cons pe_str (pa_cons pe_int (pa_cons pe_int (pa_cons (pe_tup pa_nil) pa_nil))))))) pa_nil)))))
      (pss_cons (ps_set (i := 5) sc__law_bad_wish.nd rfl (Or.inl rfl) (pe_op op_cat (pv 5) (pe_lst (pa_cons (pe_tup (pa_cons (pv 4) (pa_cons (pe_op op_sub (pe_un un_neg pe_int) (pv 3)) (pa_cons pe_str (pa_cons pe_int (pa_cons pe_int (pa_cons (pe_tup pa_nil) pa_nil))))))) (pa_cons (pe_tup (pa_cons (pv 4) (pa_cons pe_int (pa_cons pe_str (pa_cons pe_int (pa_cons pe_int (pa_cons (pe_tup pa_nil) pa_nil))))))) (pa_cons (pe_tup (pa_cons (pv 4) (pa_cons pe_int (pa_cons pe_str (pa_cons (pe_op op_add pe_int (pv 3)) (pa_cons pe_int (pa_cons (pe_tup pa_nil) pa_nil))))))) pa_nil))))))
      (pss_cons (ps_set (i := 5) sc__law_bad_wish.nd rfl (Or.inl rfl) (pe_op op_cat (pv 5) (pe_lst (pa_cons (pe_tup (pa_cons (pv 4) (pa_cons pe_int (pa_cons pe_str (pa_cons (pe_op op_sub (pe_un un_neg pe_int) (pv 3)) (pa_cons pe_int (pa_cons (pe_tup pa_nil) pa_nil))))))) (pa_cons (pe_tup (pa_cons (pv 4) (pa_cons pe_int (pa_cons pe_str (pa_cons pe_int (pa_cons (pe_op op_add pe_int (pv 3)) (pa_cons (pe_tup pa_nil) pa_nil))))))) pa_nil)))))
      (pss_cons (ps_set (i := 5) sc__law_bad_wish.nd rfl (Or.inl rfl) (pe_op op_cat (pv 5) (pe_lst (pa_cons (pe_tup (pa_cons (pv 4) (pa_cons pe_int (pa_cons pe_str (pa_cons pe_int (pa_cons (pe_op op_sub (pe_un un_neg pe_int) (pv 3)) (pa_cons (pe_tup pa_nil) pa_nil))))))) (pa_cons (pe_tup (pa_cons (pv 4) (pa_cons pe_int (pa_cons pe_str (pa_cons pe_int (pa_cons pe_int (pa_cons (pe_tup (pa_cons (pe_op op_add (pv 2) (pv 3)) pa_nil)) pa_nil))))))) pa_nil)))))
      (C8.pss_cut (ps_set (i := 5) sc__law_bad_wish.nd rfl (Or.inl rfl) (pe_op op_cat (pv 5) (pe_lst (pa_cons (pe_tup (pa_cons (pv 4) (pa_cons pe_int (pa_cons pe_str (pa_cons pe_int (pa_cons pe_int (pa_cons (pe_tup (pa_cons (pe_op op_sub (pe_un un_neg pe_int) (pv 3)) pa_nil)) pa_nil))))))) (pa_cons (pe_tup (pa_cons (pv 4) (pa_cons pe_int (pa_cons pe_str (pa_cons pe_int (pa_cons pe_int (pa_cons (pe_tup (pa_cons pe_int (pa_cons pe_int pa_nil))) pa_nil))))))) pa_nil)))))
      (C8.pss_cut (ps_if (pt_cmpR op_gt (pv 2) pe_int (nomark _)) (pss_one (ps_expr (pe_bm PySem.F.plainAttrs_list PySem.F.slot_list_append PySem.F.type_list_append mt_append (pv 5) (pa_cons (pe_tup (pa_cons (pv 4) (pa_cons pe_int (pa_cons pe_str (pa_cons pe_int (pa_cons pe_int (pa_cons (pe_tup (pa_cons pe_int (pa_cons pe_int pa_nil))) pa_nil))))))) pa_nil)))) pss_nil)
      (pss_one (ps_ret (pe_ix (kix_list (K := K)) (pv 5) (pe_call C__law_taken.G (hr.mono (by decide)) (by rfl) C__law_taken.g C__law_taken.kp C__law_taken.b .nil pass0 (pa_cons (pv 0) (pa_cons (pe_callB (klen (K := K)) (by rfl) T.n_len (by decide +kernel) (pa_cons (pv 5) pa_nil)) pa_nil))) (fun _ _ => rfl)))))))))))), ?_⟩
    -- far
    refine ⟨_, rfl, _, _, rfl, rfl, ⟨by decide, by decide, by decide⟩, ρ, _, B, rfl, by decide, R, fun far H1 far0 far1 R1 => ?_⟩
    -- kind
    refine ⟨fun σ H' => ∃ (k : Str), RowSt K ρ B H' ∧ σ = [some (.ref ρ.r), some (.int n), some (.int m), some (.int far), some (.str k), none], ?_, ?_⟩
    · refine ⟨small (by decide), fun p np => ⟨_, rfl, ρ, 2, upd B p _, rfl, by decide, R1.grow np, fun z H2 z0 z1 R2 => ?_⟩⟩
      obtain ⟨v, hv, _, hmem⟩ := atI_mem (xs := [V.str "fetch", V.str "bring"]) z0 z1
      obtain ⟨kd, rfl⟩ : ∃ kd : Str, v = V.str kd := by
        rcases List.mem_cons.mp hmem with rfl | hmem
        · exact ⟨_, rfl⟩
        · rcases List.mem_cons.mp hmem with rfl | hmem
          · exact ⟨_, rfl⟩
          · simp at hmem
      exact ⟨p, _, z, _, rfl, rfl, SqL.of (R2.same _ _ upd_same), hv, kd, R2.less (same_new (R1.same.free np)) R1.scr, rfl⟩
    rintro σ H2 ⟨k, R2, rfl⟩
    -- the list
    refine EvL.set (K := K) (H := H2) (ds := dwishes ((badW k n m far).take 3)) ?_ (Same.refl _) fun a3 x3 H3 s3 n3 e3 d3 => ?_
    · exact evl_lst (by (repeat (first | exact evs_nil | refine evs_cons ?_ ?_ | exact ev_int | exact ev_str | exact ev_varI rfl | exact ev_varS rfl | refine ev_tup ?_ | refine ev_add ?_ ?_ | refine ev_sub ?_ ?_ | refine ev_neg ?_ | exact ev_var rfl (by assumption)))) (show 3 ≤ 1000 by decide)
    refine EvL.set (K := K) (H := H3) (ds := dwishes ((badW k n m far).take 3) ++ dwishes (((badW k n m far).drop 3).take 3)) ?_ (Same.refl _) fun a4 x4 H4 s4 n4 e4 d4 => ?_
    · exact evl_cat (evr_var rfl e3 d3) (EvL.r (evl_lst (by (repeat (first | exact evs_nil | refine evs_cons ?_ ?_ | exact ev_int | exact ev_str | exact ev_varI rfl | exact ev_varS rfl | refine ev_tup ?_ | refine ev_add ?_ ?_ | refine ev_sub ?_ ?_ | refine ev_neg ?_ | exact ev_var rfl (by assumption)))) (show 3 ≤ 1000 by decide))) (show 6 ≤ 1000 by decide)
    refine EvL.set (K := K) (H := H4) (ds := dwishes ((badW k n m far).take 6) ++ dwishes (((badW k n m far).drop 6).take 2)) ?_ (Same.refl _) fun a5 x5 H5 s5 n5 e5 d5 => ?_
    · exact evl_cat (evr_var rfl e4 d4) (EvL.r (evl_lst (by (repeat (first | exact evs_nil | refine evs_cons ?_ ?_ | exact ev_int | exact ev_str | exact ev_varI rfl | exact ev_varS rfl | refine ev_tup ?_ | refine ev_add ?_ ?_ | refine ev_sub ?_ ?_ | refine ev_neg ?_ | exact ev_var rfl (by assumption)))) (show 2 ≤ 1000 by decide))) (show 8 ≤ 1000 by decide)
    refine EvL.set (K := K) (H := H5) (ds := dwishes ((badW k n m far).take 8) ++ dwishes (((badW k n m far).drop 8).take 2)) ?_ (Same.refl _) fun a6 x6 H6 s6 n6 e6 d6 => ?_
    · exact evl_cat (evr_var rfl e5 d5) (EvL.r (evl_lst (by (repeat (first | exact evs_nil | refine evs_cons ?_ ?_ | exact ev_int | exact ev_str | exact ev_varI rfl | exact ev_varS rfl | refine ev_tup ?_ | refine ev_add ?_ ?_ | refine ev_sub ?_ ?_ | refine ev_neg ?_ | exact ev_var rfl (by assumption)))) (show 2 ≤ 1000 by decide))) (show 10 ≤ 1000 by decide)
    refine ⟨fun σ H' => ∃ (a : Addr) (xs : List V), Same H2 H' ∧ H2 a = none ∧ H' a = some (.lst xs) ∧ DpAll K H' xs (dwishes (badW k n m far)) ∧ σ = [some (.ref ρ.r), some (.int n), some (.int m), some (.int far), some (.str k), some (.ref a)], ?_, ?_⟩
    · refine EvL.asg (K := K) (H := H6) (ds := dwishes ((badW k n m far).take 10) ++ dwishes ((badW k n m far).drop 10)) ?_ (Same.refl _) fun a7 x7 H7 s7 n7 e7 d7 => ?_
      · exact evl_cat (evr_var rfl e6 d6) (EvL.r (evl_lst (by (repeat (first | exact evs_nil | refine evs_cons ?_ ?_ | exact ev_int | exact ev_str | exact ev_varI rfl | exact ev_varS rfl | refine ev_tup ?_ | refine ev_add ?_ ?_ | refine ev_sub ?_ ?_ | refine ev_neg ?_ | exact ev_var rfl (by assumption)))) (show 2 ≤ 1000 by decide))) (show 12 ≤ 1000 by decide)
      have s26 := ((s3.trans s4).trans s5).trans s6
      exact ⟨a7, x7, s26.trans s7, s26.free n7, e7, d7, rfl⟩
    rintro σ H7 ⟨a, xs, s7, na, e7, d7, rfl⟩
    have R7 := R2.pure s7
    refine ⟨fun σ H' => ∃ (ys : List V) (W : List Wish), RowSt K ρ B H' ∧ ρ.r ≠ a ∧ H' a = some (.lst ys) ∧ DpAll K H' ys (dwishes W) ∧ W ≠ [] ∧ (∀ x ∈ W, ¬ WishOk n m x) ∧ W.length ≤ 13 ∧ σ = [some (.ref ρ.r), some (.int n), some (.int m), some (.int far), some (.str k), some (.ref a)], ?_, ?_⟩
    · have hra := R2.nr na
      refine ⟨_, rfl, _, _, rfl, rfl, _, rfl, ite2 (fun _ => ?_) (fun _ => ?_)⟩
      rotate_left
      · exact ⟨xs, _, R7, hra, e7, d7, by unfold badW; simp, badW_bad far0, by unfold badW; simp, rfl⟩
      refine ⟨_, rfl, .inl ⟨rfl, _, SqL.of e7⟩, ?_⟩
      refine Evs.go (K := K) (H := H7) (t := tCons _ _) (ds := [Wish.d ⟨k, 0, "right", 0, 0, [1, 0]⟩]) ?_ (Same.refl _) fun vs H8 s8 d8 => ?_
      · exact evs_cons (ev_tup (by (repeat (first | exact evs_nil | refine evs_cons ?_ ?_ | exact ev_int | exact ev_str | exact ev_varI rfl | exact ev_varS rfl | refine ev_tup ?_ | refine ev_add ?_ ?_ | refine ev_sub ?_ ?_ | refine ev_neg ?_ | exact ev_var rfl (by assumption)))) (show 6 ≤ 1000 by decide)) evs_nil
      obtain ⟨y, r, rfl, dy, hr'⟩ := dps_cons d8
      obtain rfl := dps_nil hr'
      refine ⟨a, xs, y, rfl, rfl, s8 _ _ e7, ?_, ?_⟩
      · have e := dps_len d7
        unfold dwishes badW at e
        simp only [List.length_map, List.length_cons, List.length_nil] at e
        exact small1000 (by omega)
      have R8 := R7.pure s8
      have e8 := s8 _ _ e7
      have sd : Same (del1 H8 a) (upd H8 a (.lst (xs ++ [y]))) := fun b o h => by
        by_cases hb : b = a
        · rw [hb, del1_same] at h
          cases h
        · rw [del1_ne hb] at h
          rw [upd_ne hb]
          exact h
      refine ⟨xs ++ [y], badW k n m far ++ [⟨k, 0, "right", 0, 0, [1, 0]⟩], R8.put hra (R2.same.free na), hra, upd_same, ?_, by simp, ?_, by unfold badW; simp, rfl⟩
      · have e : dwishes (badW k n m far ++ [⟨k, 0, "right", 0, 0, [1, 0]⟩]) = dwishes (badW k n m far) ++ [Wish.d ⟨k, 0, "right", 0, 0, [1, 0]⟩] := List.map_append ..
        rw [e]
        exact dps_app (dps_mono sd (dps_del e8 (dps_mono s8 d7) (noL_wishes _))) (.cons (dp_mono sd (dp_del e8 dy rfl)) .nil)
      · intro x hx
        rcases List.mem_append.mp hx with hx | hx
        · exact badW_bad far0 x hx
        · rw [List.mem_singleton] at hx
          rw [hx]
          exact badW_last
    rintro σ H8 ⟨ys, W, R8, hra, e8, d8, ne, bad, lW, rfl⟩
    have ly : ys.length = W.length := (dps_len d8).trans (List.length_map ..)
    have lp : 0 < W.length := List.length_pos_iff.mpr ne
    obtain ⟨R9, sB9⟩ := row_all R8 (Same.refl _)
    obtain ⟨n1, n2, er, _⟩ := R8.row
    refine ⟨_, rfl, _, rfl, _, rfl, a, ys, rfl, .inl (SqL.of e8), ρ, _, _, rfl, by omega, R9, fun z H10 z0 z1 R10 => ?_⟩
    obtain ⟨v, hat, hv, _⟩ := atI_mem z0 z1
    have d9 := dps_del er d8 (noL_wishes _)
    obtain ⟨d, hd, dv⟩ := dps_of_get d9 hv
    obtain ⟨x, hx, rfl⟩ : ∃ x, W[z.toNat]? = some x ∧ d = x.d := by
      unfold dwishes at hd
      rw [List.getElem?_map] at hd
      cases e : W[z.toNat]? with
      | none =>
        rw [e] at hd
        cases hd
      | some z =>
        rw [e] at hd
        exact ⟨z, rfl, (Option.some.inj hd).symm⟩
    refine ⟨a, ys, z, v, rfl, rfl, SqL.of (R10.same _ _ (by rw [del1_ne (Ne.symm hra)]; exact e8)), hat, ?_⟩
    exact q v _ H10 x sB9 R10 dv (bad x (List.mem_of_getElem? hx))
end

/-! ### stores with one thing wrong -/
def badSh (far : Int) : List Shelf := [⟨10 + far, 0, 0⟩, ⟨3, 4, 0⟩, ⟨3, -1, 0⟩, ⟨-1, -1, 0⟩, ⟨0, 0, 2⟩, ⟨1, 1, -1⟩]
theorem badSh_bad {far : Int} (h : 0 ≤ far) : ∀ x ∈ badSh far, ¬ ShelfOk x := by
  intro x hx ok
  unfold badSh at hx
  simp only [List.mem_cons, List.not_mem_nil, or_false] at hx
  have h0 := ok.h0
  have h1 := ok.h1
  have h2 := ok.h2
  have h3 := ok.st
  rcases hx with rfl | rfl | rfl | rfl | rfl | rfl <;> dsimp only at h0 h1 h2 h3 <;> omega
theorem rising_filter {lo n m : Int} : ∀ {l : List Int}, Rising lo n l → Rising lo m (l.filter fun z => decide (z < m))
  | [], _ => trivial
  | i :: r, ⟨h1, h2, h3⟩ => by
    by_cases e : i < m
    · rw [List.filter_cons_of_pos (by exact decide_eq_true e)]
      exact ⟨h1, e, rising_filter h3⟩
    · rw [List.filter_cons_of_neg (by exact fun z => e (of_decide_eq_true z))]
      have h := rising_filter (m := m) h3
      cases hf : r.filter fun z => decide (z < m) with
      | nil => trivial
      | cons j t =>
        rw [hf] at h
        obtain ⟨a, b, c⟩ := h
        exact ⟨by omega, b, c⟩
def cutWish (m : Int) (x : Wish) : Wish := ⟨x.kind, x.shelf, x.side, x.crew, x.keep, x.after.filter fun z => decide (z < m)⟩
theorem cutWish_ok {n k m : Int} {x : Wish} (h : WishOk n k x) : WishOk n m (cutWish m x) := ⟨h.kind, h.s0, h.s1, h.side, h.crew, h.k0, h.k3, rising_filter h.after⟩
theorem dshelves_app (a b : List Shelf) : dshelves (a ++ b) = dshelves a ++ dshelves b := List.map_append ..
theorem dwishes_app (a b : List Wish) : dwishes (a ++ b) = dwishes a ++ dwishes b := List.map_append ..
theorem dshelves_take (a : List Shelf) (n : Nat) : dshelves (a.take n) = (dshelves a).take n := List.map_take ..
theorem dwishes_take (a : List Wish) (n : Nat) : dwishes (a.take n) = (dwishes a).take n := List.map_take ..
theorem dshelves_drop (a : List Shelf) (n : Nat) : dshelves (a.drop n) = (dshelves a).drop n := List.map_drop ..
theorem dwishes_drop (a : List Wish) (n : Nat) : dwishes (a.drop n) = (dwishes a).drop n := List.map_drop ..
theorem dshelves_rep (a : List Shelf) (n : Nat) : dshelves (List.replicate n a).flatten = (List.replicate n (dshelves a)).flatten := by
  unfold dshelves
  rw [List.map_flatten, List.map_replicate]
theorem dwishes_rep (a : List Wish) (n : Nat) : dwishes (List.replicate n a).flatten = (List.replicate n (dwishes a)).flatten := by
  unfold dwishes
  rw [List.map_flatten, List.map_replicate]
theorem wish_item {ws : List Wish} {i : Nat} {d : PyData} (h : (dwishes ws)[i]? = some d) : ∃ x, ws[i]? = some x ∧ d = x.d := by
  unfold dwishes at h
  rw [List.getElem?_map] at h
  cases e : ws[i]? with
  | none =>
    rw [e] at h
    cases h
  | some z =>
    rw [e] at h
    exact ⟨z, rfl, (Option.some.inj h).symm⟩
theorem shelf_item {ws : List Shelf} {i : Nat} {d : PyData} (h : (dshelves ws)[i]? = some d) : ∃ x, ws[i]? = some x ∧ d = x.d := by
  unfold dshelves at h
  rw [List.getElem?_map] at h
  cases e : ws[i]? with
  | none =>
    rw [e] at h
    cases h
  | some z =>
    rw [e] at h
    exact ⟨z, rfl, (Option.some.inj h).symm⟩
theorem same_del2 {H H' : Hp} {r : Addr} (s : Same H H') : Same (del1 H r) (del1 H' r) := fun b o h => by
  by_cases e : b = r
  · rw [e, del1_same] at h
    cases h
  · rw [del1_ne e] at h ⊢
    exact s b o h
section
variable {P : Program} {w : World} {K : PySem.W.Frag} {mg : Str → Option Value} {base : Heap}
def spWrong (K : PySem.W.Frag) : Sp := fun vs H Q _ => ∃ (ρ : RowP) (v : V) (S : Sto) (B : Hp), vs = [.ref ρ.r, v] ∧ RowSt K ρ B H ∧ Dp K B v S.d ∧ StoOk S ∧
  ∀ (p t l m : Addr) (xs ys : List V) (ss : List Shelf) (a : Int) (ws : List Wish) (x : Str) (n : Int) (B' H' : Hp), Same B B' → RowSt K ρ B' H' → SqT K B' p [.ref t, .str x, .int n] → HandAt K B' t l m xs ys ss a ws (some (x, n)) → PyData.strOk x = true → Q (.ref p) H'
abbrev sc2__law_wrong : Scope := { kind := .function, names := [(".0", .local), ("_law_wish_here", .local), ("tuple", .globalImplicit), ("_law_many", .cell)], isGenerator := false, isCoroutine := false, more := [] }
/-- what is handed back -/
theorem wrong_fin {ρ : RowP} {B H : Hp} {Q : VK} {l m : Addr} {xs ys : List V} {ss : List Shelf} {a : Int} {ws : List Wish} {x : Str} {n : Int} (R : RowSt K ρ B H)
    (q : ∀ (p t l m : Addr) (xs ys : List V) (ss : List Shelf) (a : Int) (ws : List Wish) (x : Str) (n : Int) (B' H' : Hp), Same B B' → RowSt K ρ B' H' → SqT K B' p [.ref t, .str x, .int n] → HandAt K B' t l m xs ys ss a ws (some (x, n)) → PyData.strOk x = true → Q (.ref p) H')
    (hl : SqL K (del1 H ρ.r) l xs) (dl : DpAll K H xs (dshelves ss)) (hm : SqL K (del1 H ρ.r) m ys) (dm : Bad.far (some (x, n)) = true → DpAll K H ys (dwishes ws)) (bad : Bad ss a ws ys.length (some (x, n))) (ok : PyData.strOk x = true) :
    ∀ t, H t = none → ∀ p, (upd H t (.tup [.ref l, .int a, .ref m])) p = none → Q (.ref p) (upd (upd H t (.tup [.ref l, .int a, .ref m])) p (.tup [.ref t, .str x, .int n])) := by
  intro t nt p np
  have s1 := same_new (o := .tup [.ref l, .int a, .ref m]) nt
  have s2 := same_new (o := .tup [.ref t, .str x, .int n]) np
  obtain ⟨R2, sB⟩ := row_all R (s1.trans s2)
  obtain ⟨n1, n2, er, _⟩ := (R.pure (s1.trans s2)).row
  have sd := same_del2 (r := ρ.r) (s1.trans s2)
  refine q p t l m xs ys ss a ws x n _ _ sB R2 (sqt_del er tup_new) ⟨sqt_del er (Same.t s2 tup_new), Same.l sd hl, dps_del er (dps_mono (s1.trans s2) dl) (noL_shelves _), Same.l sd hm, fun h => dps_del er (dps_mono (s1.trans s2) (dm h)) (noL_wishes _), bad⟩ ok
theorem ok_wshelves : PyData.strOk "shelves" = true := by decide +kernel
theorem ok_wshelf : PyData.strOk "shelf" = true := by decide +kernel
theorem ok_waisle : PyData.strOk "aisle" = true := by decide +kernel
theorem ok_wwishes : PyData.strOk "wishes" = true := by decide +kernel
theorem ok_wwish : PyData.strOk "wish" = true := by decide +kernel
theorem far_shelves : Bad.far (some (("shelves" : Str), (0 : Int))) = false := by unfold Bad.far; decide +kernel
theorem far_aisle : Bad.far (some (("aisle" : Str), (0 : Int))) = false := by unfold Bad.far; decide +kernel
theorem far_wishes : Bad.far (some (("wishes" : Str), (0 : Int))) = false := by unfold Bad.far; decide +kernel
theorem far_shelf {n : Int} : Bad.far (some (("shelf" : Str), n)) = false := show (("shelf" : Str) == "wish") = false by decide +kernel
/-! _law_wrong: 0 _law_row, 1 _law_store_here, 2 _law_shelves, 3 _law_aisle, 4 _law_wishes, 5 _law_far, 6 _law_way, 7 _law_bad, 8 _law_at, 9 _law_made_here, 10 _law_rest, 11 _law_many, 12 _law_good, 13 _law_wish_here, 14 _law_one -/
abbrev s__law_wrong : Stmt := topS 25
abbrev N__law_wrong : List Str := ["_law_row", "_law_store_here", "_law_shelves", "_law_aisle", "_law_wishes", "_law_far", "_law_way", "_law_bad", "_law_at", "_law_made_here", "_law_rest", "_law_many", "_law_good", "_law_wish_here", "_law_one"]
theorem sc__law_wrong : FnScope N__law_wrong ["_law_row", "_law_store_here"] (defScope s__law_wrong) := ⟨rfl, rfl, rfl, by decide +kernel, rfl, by decide +kernel, by decide +kernel⟩
theorem ok__law_wrong {f f1 f2 : Addr} {fd fd1 fd2 : FuncData} (D : Dfs K mg "_law_wrong" s__law_wrong ["_law_row", "_law_store_here"] f fd) (T : Tx K mg) (C__law_taken : Cal P w K mg base 1 "_law_taken" ["_law_row", "_law_many"] (spTaken K) f1 fd1)
    (C__law_bad_wish : Cal P w K mg base 2 "_law_bad_wish" ["_law_row", "_law_shelves", "_law_many"] (spBadWish K) f2 fd2) : Cal P w K mg base 3 "_law_wrong" ["_law_row", "_law_store_here"] (spWrong K) f fd := by
  refine D.cal (D.F.ok sc__law_wrong (fun vs H Q E h => ?_) (fun cdv A outer s H vs Q E hr h => ?_))
  · obtain ⟨ρ, v, S, B, rfl, _⟩ := h
    rfl
  · obtain ⟨ρ, v, S, B, rfl, R, hv, ok, q⟩ := h
    obtain ⟨a0, l0, m0, xs0, ys0, rfl, so⟩ := sto_at hv
    have lx0 := so.lx
    have ly0 := so.ly
    have n1 := ok.n1
    have n5 := ok.n5
    have w5 := ok.w5
    have so_scr := R.scr
    refine ⟨_, (pss_cons (ps_asg (pv 1) (pg_tup (by rfl) (pgs_cons (pg_name (i := 2) sc__law_wrong.nd rfl (Or.inl rfl)) (pgs_cons (pg_name (i := 3) sc__law_wrong.nd rfl (Or.inl rfl)) (pgs_cons (pg_name (i := 4) sc__law_wrong.nd rfl (Or.inl rfl)) pgs_nil)))))
      (pss_cons (ps_set (i := 5) sc__law_wrong.nd rfl (Or.inl rfl) (pe_call C__law_taken.G (hr.mono (by decide)) (by rfl) C__law_taken.g C__law_taken.kp C__law_taken.b .nil pass0 (pa_cons (pv 0) (pa_cons (pe_op op_pow pe_int pe_int) pa_nil))))
      (C8.pss_cut (ps_set (i := 6) sc__law_wrong.nd rfl (Or.inl rfl) (pe_call C__law_taken.G (hr.mono (by decide)) (by rfl) C__law_taken.g C__law_taken.kp C__law_taken.b .nil pass0 (pa_cons (pv 0) (pa_cons pe_int pa_nil))))
      (pss_cons (ps_if (pt_cmpR op_eq (pv 6) pe_int (nomark _)) (pss_one (ps_ret (pe_tup (pa_cons (pe_tup (pa_cons (pe_ix (kix_list (K := K)) (pe_lst (pa_cons (pe_lst pa_nil) (pa_cons (pe_op op_rep (pe_slice (ksl_list (K := K)) (pv 2) po_none (po_some pe_int)) pe_int) pa_nil))) (pe_call C__law_taken.G (hr.mono (by decide)) (by rfl) C__law_taken.g C__law_taken.kp C__law_taken.b .nil pass0 (pa_cons (pv 0) (pa_cons pe_int pa_nil))) (fun _ _ => rfl)) (pa_cons pe_int (pa_cons (pv 4) pa_nil)))) (pa_cons pe_str (pa_cons pe_int pa_nil)))))) pss_nil)
      (pss_cons (ps_if (pt_cmpR op_lt (pv 6) pe_int (nomark _)) (C8.pss_cut (ps_set (i := 7) sc__law_wrong.nd rfl (Or.inl rfl) (pe_ix (kix_list (K := K)) (pe_lst (pa_cons (pe_tup (pa_cons (pe_op op_add pe_int (pv 5)) (pa_cons pe_int (pa_cons pe_int pa_nil)))) (pa_cons (pe_tup (pa_cons pe_int (pa_cons pe_int (pa_cons pe_int pa_nil)))) (pa_cons (pe_tup (pa_cons pe_int (pa_cons (pe_un un_neg pe_int) (pa_cons pe_int pa_nil)))) (pa_cons (pe_tup (pa_cons (pe_un un_neg pe_int) (pa_cons (pe_un un_neg pe_int) (pa_cons pe_int pa_nil)))) (pa_cons (pe_tup (pa_cons pe_int (pa_cons pe_int (pa_cons pe_int pa_nil)))) (pa_cons (pe_tup (pa_cons pe_int (pa_cons pe_int (pa_cons (pe_un un_neg pe_int) pa_nil)))) pa_nil))))))) (pe_call C__law_taken.G (hr.mono (by decide)) (by rfl) C__law_taken.g C__law_taken.kp C__law_taken.b .nil pass0 (pa_cons (pv 0) (pa_cons pe_int pa_nil))) (fun _ _ => rfl)))
      (C8.pss_cut (ps_set (i := 8) sc__law_wrong.nd rfl (Or.inl rfl) (pe_call C__law_taken.G (hr.mono (by decide)) (by rfl) C__law_taken.g C__law_taken.kp C__law_taken.b .nil pass0 (pa_cons (pv 0) (pa_cons (pe_op op_add (pe_callB (call_min2 rfl) (by rfl) T.n_min (by decide +kernel) (pa_cons pe_int (pa_cons (pe_callB (klen (K := K)) (by rfl) T.n_len (by decide +kernel) (pa_cons (pv 2) pa_nil)) pa_nil))) pe_int) pa_nil))))
      (pss_cons (ps_set (i := 9) sc__law_wrong.nd rfl (Or.inl rfl) (pe_op op_cat (pe_op op_cat (pe_op op_cat (pe_slice (ksl_list (K := K)) (pv 2) po_none (po_some (pv 8))) (pe_lst (pa_cons (pv 7) pa_nil))) (pe_slice (ksl_list (K := K)) (pv 2) (po_some (pv 8)) (po_some pe_int))) (pe_op op_rep (pe_lst (pa_cons (pe_tup (pa_cons pe_int (pa_cons pe_int (pa_cons pe_int pa_nil)))) pa_nil)) (pe_callTy call_int1 (by rfl) T.n_int (by decide +kernel) (pa_cons (pe_and (pe_cmpR op_eq (pv 6) pe_int (nomark _)) (pe_one (pe_cmpR op_lt (pe_callB (klen (K := K)) (by rfl) T.n_len (by decide +kernel) (pa_cons (pv 2) pa_nil)) pe_int (nomark _)))) pa_nil)))))
      (pss_one (ps_ret (pe_tup (pa_cons (pe_tup (pa_cons (pv 9) (pa_cons (pe_ix (kix_list (K := K)) (pe_lst (pa_cons (pv 3) (pa_cons pe_int pa_nil))) (pe_op op_sub (pv 6) pe_int) (fun _ _ => rfl)) (pa_cons (pv 4) pa_nil)))) (pa_cons pe_str (pa_cons (pv 8) pa_nil))))))))) pss_nil)
      (pss_cons (ps_if (pt_cmpR op_eq (pv 6) pe_int (nomark _)) (pss_one (ps_ret (pe_tup (pa_cons (pe_tup (pa_cons (pv 2) (pa_cons (pe_ix (kix_list (K := K)) (pe_lst (pa_cons (pe_op op_add (pe_op op_add (pe_callB (klen (K := K)) (by rfl) T.n_len (by decide +kernel) (pa_cons (pv 2) pa_nil)) pe_int) (pv 5)) (pa_cons (pe_op op_sub (pe_un un_neg pe_int) (pv 5)) pa_nil))) (pe_call C__law_taken.G (hr.mono (by decide)) (by rfl) C__law_taken.g C__law_taken.kp C__law_taken.b .nil pass0 (pa_cons (pv 0) (pa_cons pe_int pa_nil))) (fun _ _ => rfl)) (pa_cons (pe_op op_rep (pe_lst (pa_cons (pe_op op_repT (pe_tup (pa_cons pe_str pa_nil)) pe_int) pa_nil)) pe_int) pa_nil)))) (pa_cons pe_str (pa_cons pe_int pa_nil)))))) pss_nil)
      (pss_cons (ps_if (pt_cmpR op_eq (pv 6) pe_int (nomark _)) (pss_one (ps_ret (pe_tup (pa_cons (pe_tup (pa_cons (pv 2) (pa_cons (pv 3) (pa_cons (pe_op op_rep (pe_lst (pa_cons (pe_tup (pa_cons pe_str (pa_cons pe_int (pa_cons pe_str (pa_cons pe_int (pa_cons pe_int (pa_cons (pe_tup pa_nil) pa_nil))))))) pa_nil)) pe_int) pa_nil)))) (pa_cons pe_str (pa_cons pe_int pa_nil)))))) pss_nil)
      (C8.pss_cut (ps_set (i := 8) sc__law_wrong.nd rfl (Or.inl rfl) (pe_call C__law_taken.G (hr.mono (by decide)) (by rfl) C__law_taken.g C__law_taken.kp C__law_taken.b .nil pass0 (pa_cons (pv 0) (pa_cons (pe_op op_add (pe_callB (call_min2 rfl) (by rfl) T.n_min (by decide +kernel) (pa_cons pe_int (pa_cons (pe_callB (klen (K := K)) (by rfl) T.n_len (by decide +kernel) (pa_cons (pv 4) pa_nil)) pa_nil))) pe_int) pa_nil))))
      (C8.pss_cut (ps_set (i := 10) sc__law_wrong.nd rfl (Or.inl rfl) (pe_slice (ksl_list (K := K)) (pv 4) (po_some (pv 8)) (po_some pe_int)))
      (C8.pss_cut (ps_set (i := 11) sc__law_wrong.nd rfl (Or.inr rfl) (pe_op op_add (pe_op op_add (pv 8) pe_int) (pe_callB (klen (K := K)) (by rfl) T.n_len (by decide +kernel) (pa_cons (pv 10) pa_nil))))
      (C8.pss_cut (ps_setLc (i := 12) (own := [("_law_wish_here", 13)]) (g := gName 13) (te := tOp (rCatA K) (tSl (rSlT K) (tVar 13) tNoPart (tPart (tC (.int 5)))) (tTup (tCons (tCB (rTupleOf K) (tCons (tLc (iTup K (tOp (rIxT K) (tVar 13) (tC (.int 5)))) (gName 14) (tTest (tOp (rI0 fun i j => V.bl (decide (i < j))) (tVar 14) (tVar 11))) (tVar 14) [14]) tNil)) tNil))) rfl sc__law_wrong.nd rfl rfl (sw_true rfl rfl rfl (by decide +kernel)) (pi_list (by exact (pe_slice (ksl_list (K := K)) (pv 4) po_none (po_some (pv 8))))) (blkOk_by (own := [("_law_wish_here", 13)]) (N := N__law_wrong) (sc := defScope s__law_wrong) (by decide +kernel)) (fun _ _ _ _ _ => (pg_name (i := 13) sc__law_wrong.nd rfl (Or.inl rfl))) (fun _ _ _ _ _ => pts_nil) (fun _ _ _ _ _ => by
      refine pe_op (kcatA (K := K)) (pe_slice (ksl_tup (K := K)) (pv 13) po_none (po_some pe_int)) ?_
      refine pe_tup (pa_cons ?_ pa_nil)
      refine pe_callTy (ktuple_of (K := K)) (by rfl) T.n_tuple (by decide +kernel) (pa_cons ?_ pa_nil)
      refine pe_lc (own := [("_law_one", 14)]) (g := gName 14) rfl sc__law_wrong.nd (pi_tup ?_) (blkOk_by (own := [("_law_one", 14)]) (N := N__law_wrong) (sc := sc2__law_wrong) (by decide +kernel)) ?_ ?_ ?_
      · exact pe_ix (kix_tup (K := K)) (pv 13) pe_int (fun _ _ => rfl)
      · exact fun _ _ _ _ _ => (pg_name (i := 14) sc__law_wrong.nd rfl (Or.inl rfl))
      · exact fun _ _ _ _ _ => (pts_one (pt_cmpR op_lt (pv 14) (pv 11) (nomark _)))
      · exact fun _ _ _ _ _ => (pv 14)))
      (pss_one (ps_ret (pe_tup (pa_cons (pe_tup (pa_cons (pv 2) (pa_cons (pv 3) (pa_cons (pe_op op_cat (pe_op op_cat (pv 12) (pe_lst (pa_cons (pe_call C__law_bad_wish.G (hr.mono (by decide)) (by rfl) C__law_bad_wish.g C__law_bad_wish.kp C__law_bad_wish.b .nil pass0 (pa_cons (pv 0) (pa_cons (pe_callB (klen (K := K)) (by rfl) T.n_len (by decide +kernel) (pa_cons (pv 2) pa_nil)) (pa_cons (pv 11) pa_nil)))) pa_nil))) (pv 10)) pa_nil)))) (pa_cons pe_str (pa_cons (pv 8) pa_nil))))))))))))))))), ?_⟩
    refine ⟨_, rfl, a0, _, rfl, (so.mono R.same).t, rfl, _, _, rfl, _, _, rfl, _, _, rfl, rfl, ?_⟩
    -- far, way
    refine ⟨_, rfl, _, _, rfl, rfl, ⟨by decide, by decide, by decide⟩, ρ, _, B, rfl, by decide, R, fun far H1 far0 far1 R1 => ?_⟩
    refine ⟨fun σ H' => ∃ way : Int, 0 ≤ way ∧ way < 8 ∧ RowSt K ρ B H' ∧ σ = [some (.ref ρ.r), some (.ref a0), some (.ref l0), some (.int S.aisle), some (.ref m0), some (.int far), some (.int way), none, none, none, none, none, none, none, none], ?_, ?_⟩
    · exact ⟨_, rfl, ρ, _, B, rfl, by decide, R1, fun way H2 w0 w1 R2 => ⟨way, w0, w1, R2, rfl⟩⟩
    rintro σ H2 ⟨way, w0, w1, R2, rfl⟩
    obtain ⟨R2', s2'⟩ := row_all R2 (Same.refl _)
    have soH := so.mono R2.same
    refine ⟨_, rfl, rfl, _, rfl, ?_⟩
    by_cases c0 : way = 0
    · refine itD (by rw [c0]) ?_
      -- no shelves, or six
      refine ⟨small (by simp), fun e1 ne1 => ⟨_, rfl, 1, rfl, l0, xs0, rfl, Same.l (same_new ne1) soH.l, fun p2 np2 => ?_⟩⟩
      have z1 := same_new (o := .lst []) ne1
      have ec : cutV xs0 none (some 1) = xs0.take 1 := cut_t xs0 1
      rw [ec]
      have z2 := same_new (o := .lst (xs0.take 1)) np2
      have lt : (xs0.take 1).length = 1 := by
        rw [List.length_take]
        omega
      refine ⟨p2, 6, xs0.take 1, rfl, rfl, upd_same, by decide, by decide, small (by rw [lt]; decide), fun e2 ne2 => ⟨small (by simp), fun e3 ne3 => ?_⟩⟩
      have z3 := same_new (o := .lst (List.replicate (6 : Int).toNat (xs0.take 1)).flatten) ne2
      have z4 := same_new (o := .lst [.ref e1, .ref e2]) ne3
      have z := ((z1.trans z2).trans z3).trans z4
      have h1 := (z2.trans (z3.trans z4)) _ _ (upd_same (H := H2) (a := e1) (o := .lst []))
      have h2 := z4 _ _ (upd_same (a := e2) (o := .lst (List.replicate (6 : Int).toNat (xs0.take 1)).flatten))
      obtain ⟨R6, s6⟩ := row_all R2 z
      have r1 := R2.nr ne1
      have r2 := R2.nr ((z1.trans z2).free ne2)
      have r3 := R2.nr (((z1.trans z2).trans z3).free ne3)
      refine ⟨_, rfl, ρ, 2, _, rfl, by decide, R6, fun y H7 y0 y1 R7 => ?_⟩
      obtain ⟨R8, s8⟩ := row_all R7 (Same.refl _)
      have hl1 : (del1 H7 ρ.r) e1 = some (.lst []) := s8 _ _ (by rw [del1_ne (Ne.symm r1)]; exact h1)
      have hl2 : (del1 H7 ρ.r) e2 = some (.lst (List.replicate (6 : Int).toNat (xs0.take 1)).flatten) := s8 _ _ (by rw [del1_ne (Ne.symm r2)]; exact h2)
      have hl3 : (del1 H7 ρ.r) e3 = some (.lst [.ref e1, .ref e2]) := s8 _ _ (by rw [del1_ne (Ne.symm r3)]; exact upd_same)
      have soD := so.mono (s6.trans s8)
      have soD7 := soD.mono R8.same
      by_cases y2 : y = 0
      · subst y2
        refine ⟨e3, _, 0, .ref e1, rfl, rfl, SqL.of (R8.same _ _ hl3), rfl, _, rfl, small (by simp), fun t nt => ⟨small (by simp), fun p np => ?_⟩⟩
        exact wrong_fin (R7.less s6 so_scr) q (ss := []) (ws := []) (SqL.of hl1) .nil soD.m (fun z => by rw [far_shelves] at z; cases z) (.shelves (.inl (by decide))) ok_wshelves t nt p np
      · have y3 : y = 1 := by omega
        subst y3
        refine ⟨e3, _, 1, .ref e2, rfl, rfl, SqL.of (R8.same _ _ hl3), rfl, _, rfl, small (by simp), fun t nt => ⟨small (by simp), fun p np => ?_⟩⟩
        refine wrong_fin (R7.less s6 so_scr) q (ss := (List.replicate 6 (S.shelves.take 1)).flatten) (ws := []) (SqL.of hl2) ?_ soD.m (fun z => by rw [far_shelves] at z; cases z) (.shelves (.inr ?_)) ok_wshelves t nt p np
        · rw [dshelves_rep, dshelves_take]
          exact dps_rep (dps_take soD7.dx 1) 6
        · have : (S.shelves.take 1).length = 1 := by
            rw [List.length_take]
            omega
          simp [this]
    refine itF (ine c0) ?_
    refine ⟨_, rfl, _, _, rfl, rfl, _, rfl, ?_⟩
    by_cases c3 : way < 3
    · refine itD c3 ?_
      refine ⟨fun σ H' => ∃ (B1 : Hp) (v : V) (s : Shelf), Same B B1 ∧ RowSt K ρ B1 H' ∧ Dp K B1 v s.d ∧ ¬ ShelfOk s ∧ σ = [some (.ref ρ.r), some (.ref a0), some (.ref l0), some (.int S.aisle), some (.ref m0), some (.int far), some (.int way), some v, none, none, none, none, none, none, none], ?_, ?_⟩
      · refine draw_asg (K := K) (ds := dshelves (badSh far)) R2 rfl ?_ ev_int rfl (by decide) (noL_shelves _) fun i d v H3 hd R3 s3 dv => ?_
        · exact evl_lst (by (repeat (first | exact evs_nil | refine evs_cons ?_ ?_ | exact ev_int | exact ev_str | exact ev_varI rfl | exact ev_varS rfl | refine ev_tup ?_ | refine ev_add ?_ ?_ | refine ev_sub ?_ ?_ | refine ev_neg ?_ | exact ev_var rfl (by assumption)))) (show 6 ≤ 1000 by decide)
        obtain ⟨x, hx, rfl⟩ := shelf_item hd
        exact ⟨_, v, x, s3, R3, dv, badSh_bad far0 x (List.mem_of_getElem? hx), rfl⟩
      rintro σ H3 ⟨B1, vb, sb, sB1, R3, dvb, nb, rfl⟩
      have so1 := so.mono sB1
      have so3 := so1.mono R3.same
      refine ⟨fun σ H' => ∃ at1 : Nat, at1 ≤ 4 ∧ at1 ≤ S.shelves.length ∧ RowSt K ρ B1 H' ∧ σ = [some (.ref ρ.r), some (.ref a0), some (.ref l0), some (.int S.aisle), some (.ref m0), some (.int far), some (.int way), some vb, some (.int (at1 : Int)), none, none, none, none, none, none], ?_, ?_⟩
      · refine taken_asg (K := K) (n := min 4 (xs0.length : Int) + 1) R3 rfl (ev_add (ev_min ev_int (ev_len rfl so3.l rfl)) ev_int) (by omega) fun z H4 z0 z1 R4 => ?_
        exact ⟨z.toNat, by omega, by omega, R4, by rw [Int.toNat_of_nonneg z0]; rfl⟩
      rintro σ H4 ⟨at1, at4, atn, R4, rfl⟩
      have so4 := so1.mono R4.same
      have dvb4 := dp_mono R4.same dvb
      generalize hk : (if (decide (way = 2) && decide ((xs0.length : Int) < 4)) = true then (1 : Int) else 0) = k
      have hk01 : 0 ≤ k ∧ k ≤ 1 ∧ (k = 1 → S.shelves.length < 4) := by
        rw [← hk]
        cases h1 : (decide (way = 2) && decide ((xs0.length : Int) < 4)) with
        | true =>
          have h2 := of_decide_eq_true (Bool.and_eq_true_iff.mp h1).2
          exact ⟨by decide, by decide, fun _ => by omega⟩
        | false => exact ⟨by decide, by decide, fun z => absurd z (by decide)⟩
      obtain ⟨k0, k1, k2⟩ := hk01
      generalize hW : S.shelves.take at1 ++ [sb] ++ (S.shelves.drop at1).take (4 - at1) ++ (List.replicate k.toNat [(⟨9, 10, 0⟩ : Shelf)]).flatten = W
      have eW : dshelves W = (dshelves S.shelves).take at1 ++ [sb.d] ++ ((dshelves S.shelves).drop at1).take (4 - at1) ++ (List.replicate k.toNat [Shelf.d ⟨9, 10, 0⟩]).flatten := by
        rw [← hW, dshelves_app, dshelves_app, dshelves_app, dshelves_take, dshelves_take, dshelves_drop, dshelves_rep]
        rfl
      have lrep : (List.replicate k.toNat [(⟨9, 10, 0⟩ : Shelf)]).flatten.length = k.toNat := by simp
      have lt1 : (S.shelves.take at1).length = at1 := by
        rw [List.length_take]
        omega
      have lt2 : ((S.shelves.drop at1).take (4 - at1)).length = min (4 - at1) (S.shelves.length - at1) := by
        rw [List.length_take, List.length_drop]
      have lW : W.length ≤ 5 ∧ at1 < W.length := by
        rw [← hW]
        simp only [List.length_append, lrep, lt1, lt2, List.length_cons, List.length_nil]
        omega
      have ld : (dshelves S.shelves).length = S.shelves.length := List.length_map ..
      refine EvL.set (K := K) (H := H4) (ds := dshelves W) ?_ (Same.refl _) fun a9 x9 H5 s5 n9 e9 d9 => ?_
      · refine EvL.of (evl_cat (EvL.r (evl_cat (EvL.r (evl_cat (EvL.r (evl_to (j := at1) rfl so4.l so4.dx (ev_varI rfl))) (EvL.r (evl_lst (evs_cons (ev_var rfl dvb4) evs_nil) (show 1 ≤ 1000 by decide))) ?_)) (EvL.r (evl_ft (i := at1) (j := 4) rfl so4.l so4.dx (ev_varI rfl) ev_int)) ?_))
          (EvL.r (evl_rep (ds := [Shelf.d ⟨9, 10, 0⟩]) (k := k) (EvL.r (evl_lst (evs_cons (ev_tup (by (repeat (first | exact evs_nil | refine evs_cons ?_ ?_ | exact ev_int | exact ev_str | exact ev_varI rfl | exact ev_varS rfl | refine ev_tup ?_ | refine ev_add ?_ ?_ | refine ev_sub ?_ ?_ | refine ev_neg ?_ | exact ev_var rfl (by assumption))))) evs_nil) (show 1 ≤ 1000 by decide))) ?_ k0 (by omega) ?_)) ?_) eW.symm
        · rw [List.length_take, ld]
          simp
          omega
        · simp only [List.length_append, List.length_take, List.length_drop, ld, List.length_cons, List.length_nil]
          omega
        · rw [← hk]
          exact ev_intB (ev_andB (ev_eqI (ev_varI rfl) ev_int) (ev_ltI (ev_len rfl so4.l rfl) ev_int))
        · simp
          omega
        · simp only [List.length_append, List.length_take, List.length_drop, ld, List.length_cons, List.length_nil, List.length_flatten, List.map_replicate, List.sum_replicate_nat]
          omega
      have R5 := R4.pure s5
      have hr9 := R4.nr n9
      have soB5 := so1.mono (row_all R4 s5).2
      refine ⟨_, rfl, ?_⟩
      obtain ⟨ai, hai⟩ : ∃ ai : Int, [PyData.int S.aisle, PyData.int 99][(way - 1).toNat]? = some (.int ai) := by
        by_cases c1 : way = 1
        · exact ⟨S.aisle, by rw [c1]; rfl⟩
        · have c2 : way = 2 := by omega
          exact ⟨99, by rw [c2]; rfl⟩
      refine EvD.cons (K := K) (H := H5) (d := .int ai) ?_ (Same.refl _) fun va H6 s6 dva => ?_
      · exact ev_ixL (ds := [.int S.aisle, .int 99]) (i := way - 1) (EvL.r (evl_lst (evs_cons (ev_varI rfl) (evs_cons ev_int evs_nil)) (show 2 ≤ 1000 by decide))) (ev_sub (ev_varI rfl) ev_int) (by omega) hai
      rw [dp_int dva]
      have R6 := R5.pure s6
      have e96 := s6 _ _ e9
      have soD := so1.mono (row_all R4 (s5.trans s6)).2
      refine ⟨_, rfl, small (by simp), fun t nt => ⟨_, rfl, small (by simp), fun p np => ?_⟩⟩
      refine wrong_fin (R6.less sB1 so_scr) q (ss := W) (ws := []) (SqL.of (by rw [del1_ne (Ne.symm hr9)]; exact e96)) (dps_mono s6 d9) soD.m (fun z => by rw [far_shelf] at z; cases z) ?_ ok_wshelf t nt p np
      refine .shelf (s := sb) (by omega) lW.1 (fun j x hj hx => ?_) ?_ nb
      · rw [← hW, List.append_assoc, List.append_assoc, List.getElem?_append_left (by rw [lt1]; exact hj), List.getElem?_take, if_pos hj] at hx
        exact ok.sh x (List.mem_of_getElem? hx)
      · rw [← hW, List.append_assoc, List.append_assoc, List.getElem?_append_right (by rw [lt1]; exact Nat.le_refl _), lt1, Nat.sub_self]
        rfl
    refine itF c3 ⟨_, rfl, rfl, _, rfl, ?_⟩
    by_cases e3 : way = 3
    · refine itD (by rw [e3]) ?_
      refine ⟨_, rfl, ?_⟩
      refine draw_cons (K := K) (ds := [.int ((xs0.length : Int) + 1 + far), .int (-1 - far)]) R2 rfl ?_ ev_int rfl (by decide) rfl fun i d v H3 hd R3 s3 dv => ?_
      · exact evl_lst (evs_cons (ev_add (ev_add (ev_len rfl soH.l rfl) ev_int) (ev_varI rfl)) (evs_cons (ev_sub (ev_neg ev_int) (ev_varI rfl)) evs_nil)) (show 2 ≤ 1000 by decide)
      obtain ⟨ai, rfl, hai⟩ : ∃ ai : Int, d = .int ai ∧ (ai < 0 ∨ (S.shelves.length : Int) < ai) := by
        cases i with
        | zero =>
          refine ⟨_, (Option.some.inj hd).symm, .inr ?_⟩
          rw [← lx0]
          omega
        | succ i =>
          cases i with
          | zero =>
            refine ⟨_, (Option.some.inj hd).symm, .inl ?_⟩
            omega
          | succ i => cases hd
      rw [dp_int dv]
      refine EvL.cons (K := K) (H := H3) (ds := (List.replicate 6 [PyData.tuple (List.replicate 6 [PyData.str "no"]).flatten]).flatten) ?_ (Same.refl _) fun m1 ys H4 s4 nm hm dm => ?_
      · exact evl_rep (k := 6) (EvL.r (evl_lst (evs_cons (ev_repT (k := 6) (ev_tup (evs_cons ev_str evs_nil)) ev_int (by decide) (by decide) (by simp) (show 1 ≤ 1000 by decide)) evs_nil) (show 1 ≤ 1000 by decide))) ev_int (by decide) (by decide) (show 6 ≤ 1000 by decide)
      have soD := so.mono (s3.trans (same_del2 s4))
      have R4 := (R3.less s3 so_scr).pure s4
      have hrm := (R3.nr nm)
      refine ⟨small (by simp), fun t nt => ⟨small (by simp), fun p np => ?_⟩⟩
      exact wrong_fin R4 q (ss := S.shelves) (ws := []) soD.l (so.mono R4.same).dx (SqL.of (by rw [del1_ne (Ne.symm hrm)]; exact hm)) (fun z => by rw [far_aisle] at z; cases z) (.aisle n1 n5 ok.sh hai) ok_waisle t nt p np
    refine itF (ine e3) ⟨_, rfl, rfl, _, rfl, ?_⟩
    by_cases e4 : way = 4
    · refine itD (by rw [e4]) ?_
      refine ⟨_, rfl, _, rfl, ?_⟩
      refine EvL.cons (K := K) (H := H2) (ds := (List.replicate 6 (dwishes [⟨"no", 0, "any", 0, 0, []⟩])).flatten) ?_ (Same.refl _) fun m1 ys H4 s4 nm hm dm => ?_
      · exact evl_rep (k := 6) (EvL.r (evl_lst (evs_cons (ev_tup (by (repeat (first | exact evs_nil | refine evs_cons ?_ ?_ | exact ev_int | exact ev_str | exact ev_varI rfl | exact ev_varS rfl | refine ev_tup ?_ | refine ev_add ?_ ?_ | refine ev_sub ?_ ?_ | refine ev_neg ?_ | exact ev_var rfl (by assumption))))) evs_nil) (show 1 ≤ 1000 by decide))) ev_int (by decide) (by decide) (show 6 ≤ 1000 by decide)
      have R4 := R2.pure s4
      have hrm := R2.nr nm
      have soD := so.mono (s2'.trans (same_del2 s4))
      have ly : ys.length = 6 := dps_len dm
      refine ⟨small (by simp), fun t nt => ⟨small (by simp), fun p np => ?_⟩⟩
      exact wrong_fin R4 q (ss := S.shelves) (ws := []) soD.l (so.mono R4.same).dx (SqL.of (by rw [del1_ne (Ne.symm hrm)]; exact hm)) (fun z => by rw [far_wishes] at z; cases z) (.wishes n1 n5 ok.sh ok.a0 ok.a1 (by omega)) ok_wwishes t nt p np
    refine itF (ine e4) ?_
    -- at, rest, many
    refine ⟨fun σ H' => ∃ at1 : Nat, at1 ≤ 4 ∧ at1 ≤ S.wishes.length ∧ RowSt K ρ B H' ∧ σ = [some (.ref ρ.r), some (.ref a0), some (.ref l0), some (.int S.aisle), some (.ref m0), some (.int far), some (.int way), none, some (.int (at1 : Int)), none, none, none, none, none, none], ?_, ?_⟩
    · refine taken_asg (K := K) (n := min 4 (ys0.length : Int) + 1) R2 rfl (ev_add (ev_min ev_int (ev_len rfl soH.m rfl)) ev_int) (by omega) fun z H4 z0 z1 R4 => ?_
      exact ⟨z.toNat, by omega, by omega, R4, by rw [Int.toNat_of_nonneg z0]; rfl⟩
    rintro σ H4 ⟨at1, at4, atn, R4, rfl⟩
    have so4 := so.mono R4.same
    generalize hT : (S.wishes.drop at1).take (4 - at1) = Tl
    have eT : ((dwishes S.wishes).drop at1).take (4 - at1) = dwishes Tl := by
      rw [← hT, dwishes_take, dwishes_drop]
    have lT : Tl.length = min (4 - at1) (S.wishes.length - at1) := by
      rw [← hT, List.length_take, List.length_drop]
    refine ⟨fun σ H' => ∃ (a10 : Addr) (x10 : List V), Same H4 H' ∧ H4 a10 = none ∧ H' a10 = some (.lst x10) ∧ DpAll K H' x10 (dwishes Tl) ∧ σ = [some (.ref ρ.r), some (.ref a0), some (.ref l0), some (.int S.aisle), some (.ref m0), some (.int far), some (.int way), none, some (.int (at1 : Int)), none, some (.ref a10), none, none, none, none], ?_, ?_⟩
    · refine EvL.asg (K := K) (H := H4) (ds := dwishes Tl) ?_ (Same.refl _) fun a10 x10 H5 s5 n10 e10 d10 => ⟨a10, x10, s5, n10, e10, d10, rfl⟩
      exact EvL.of (evl_ft (i := at1) (j := 4) rfl so4.m so4.dy (ev_varI rfl) ev_int) eT
    rintro σ H5 ⟨a10, x10, s5, n10, e10, d10, rfl⟩
    have R5 := R4.pure s5
    have so5 := so.mono R5.same
    have l10 : x10.length = Tl.length := (dps_len d10).trans (List.length_map ..)
    refine ⟨fun σ H' => Same H5 H' ∧ σ = [some (.ref ρ.r), some (.ref a0), some (.ref l0), some (.int S.aisle), some (.ref m0), some (.int far), some (.int way), none, some (.int (at1 : Int)), none, some (.ref a10), some (.int ((at1 : Int) + 1 + (Tl.length : Int))), none, none, none], ?_, ?_⟩
    · refine EvD.asg (K := K) (H := H5) (d := .int ((at1 : Int) + 1 + (Tl.length : Int))) ?_ (Same.refl _) fun v H6 s6 d6 => ⟨s6, by rw [dp_int d6]; rfl⟩
      exact ev_add (ev_add (ev_varI rfl) ev_int) (ev_len rfl (SqL.of e10) (by rw [l10]))
    rintro σ H6 ⟨s6, rfl⟩
    have R6 := R5.pure s6
    have so6 := so.mono R6.same
    generalize hmany : (at1 : Int) + 1 + (Tl.length : Int) = many
    generalize hG : (S.wishes.take at1).map (cutWish many) = G
    have lG : G.length = at1 := by
      rw [← hG, List.length_map, List.length_take]
      omega
    -- good
    refine ⟨fun σ H' => ∃ (D : Addr) (us : List V), Same H6 H' ∧ H6 D = none ∧ H' D = some (.lst us) ∧ DpAll K H' us (dwishes G) ∧ σ = [some (.ref ρ.r), some (.ref a0), some (.ref l0), some (.int S.aisle), some (.ref m0), some (.int far), some (.int way), none, some (.int (at1 : Int)), none, some (.ref a10), some (.int many), some (.ref D), none, none], ?_, ?_⟩
    · have ec : cutV ys0 none (some (at1 : Int)) = ys0.take at1 := cut_t ys0 at1
      refine ⟨_, rfl, _, rfl, (at1 : Int), rfl, m0, ys0, rfl, so6.m, fun p1 np1 => ?_⟩
      rw [ec]
      have z1 := same_new (o := .lst (ys0.take at1)) np1
      refine ⟨p1, rfl, ⟨_, SqL.of upd_same⟩, fun D nD => ?_⟩
      have dy := dps_take (so6.mono z1).dy at1
      rw [← dwishes_take] at dy
      have ep : (upd H6 p1 (.lst (ys0.take at1))) p1 = some (.lst (ys0.take at1)) := upd_same
      have nD6 := z1.free nD
      generalize upd H6 p1 (.lst (ys0.take at1)) = H7 at z1 nD dy ep
      refine lc_list (K := K) (a := p1) (xs := ys0.take at1) (fun j H' => ∃ Bq us, Acq K H7 Bq H' D us (dwishes ((((S.wishes.take at1).take j)).map (cutWish many)))) ⟨H7, [], ?_⟩ (fun j H' _ ⟨Bq, us, A⟩ => SqL.of ((A.s.trans A.R) _ _ ep)) ?_ ?_
      · exact Acq.start (Same.refl _) (Same.refl _) nD
      · rintro j y H' hy ⟨Bq, us, Aq⟩
        have sA := Aq.s.trans Aq.R
        obtain ⟨d, hd, dyy⟩ := dps_of_get dy hy
        obtain ⟨x, hx, rfl⟩ := wish_item hd
        have hxm := ok.ws x (List.mem_of_mem_take (List.mem_of_getElem? hx))
        obtain ⟨c, t, rfl, hc, ht⟩ := wish_at (dp_mono sA dyy)
        have e5 : cutV [V.str x.kind, .int x.shelf, .str x.side, .int x.crew, .int x.keep, .ref t] none (some 5) = [V.str x.kind, .int x.shelf, .str x.side, .int x.crew, .int x.keep] := cut_t _ 5
        refine ⟨rfl, ?_⟩
        refine ⟨_, rfl, 5, rfl, c, _, rfl, hc, (fun h => absurd (show (5 : Nat) = 6 from h.2) (by decide)), fun p2 np2 => ?_⟩
        rw [e5]
        have z2 := same_new (o := .tup [V.str x.kind, .int x.shelf, .str x.side, .int x.crew, .int x.keep]) np2
        have ht2 := Same.t z2 ht
        refine ⟨_, rfl, c, _, 5, .ref t, rfl, rfl, Same.t z2 hc, rfl, t, rfl, ⟨_, ht2⟩, fun D2 nD2 => ?_⟩
        have hp2 := tup_new (K := K) (H := H') (p := p2) (xs := [V.str x.kind, .int x.shelf, .str x.side, .int x.crew, .int x.keep])
        generalize hH8 : upd H' p2 (.tup [V.str x.kind, .int x.shelf, .str x.side, .int x.crew, .int x.keep]) = H8 at z2 ht2 nD2 hp2
        refine lc_tup (K := K) (a := t) (xs := x.after.map V.int) (fun i H'' => Same H8 H'' ∧ H'' D2 = some (.lst (((x.after.take i).filter fun z => decide (z < many)).map V.int))) ⟨same_new nD2, by rw [List.take_zero, upd_same]; rfl⟩ (fun i H'' _ h => Same.t h.1 ht2) ?_ ?_
        · rintro i y2 H'' hi ⟨s1, eD⟩
          obtain ⟨z, hz, rfl⟩ := int_item hi
          have ef := filter_snoc (p := fun z => decide (z < many)) hz
          rw [ef]
          refine ⟨rfl, _, rfl, _, rfl, _, _, rfl, rfl, _, rfl, ?_⟩
          by_cases e2 : z < many
          · rw [decide_eq_true e2, if_pos rfl]
            refine iteT ⟨_, rfl, _, eD, ?_, ?_, ?_⟩
            · rw [List.length_map]
              refine small1000 (Nat.le_trans (List.length_filter_le _ _) ?_)
              rw [List.length_take]
              have := hxm.after.len
              omega
            · intro b' o' h
              rw [upd_ne (ne_of_none h nD2)]
              exact s1 b' o' h
            · rw [upd_same, List.map_append]
              rfl
          · rw [decide_eq_false e2, if_neg Bool.false_ne_true, List.append_nil]
            exact iteF ⟨s1, eD⟩
        · rintro H9 ⟨s9, eD⟩
          rw [List.length_map, List.take_length] at eD
          refine ⟨D2, _, rfl, .inl ⟨SqL.of eD, fun p3 np3 => ⟨small (by simp), fun p4 np4 => ?_⟩⟩⟩
          have z3 := same_new (o := .tup ((x.after.filter fun z => decide (z < many)).map V.int)) np3
          have z4 := same_new (o := .tup [.ref p3]) np4
          have hp2' := Same.t (s9.trans (z3.trans z4)) hp2
          refine ⟨p2, p4, _, _, rfl, rfl, hp2', tup_new, small (by simp), fun h => absurd h (by simp), fun _ h => absurd h (by simp), fun _ _ p5 np5 => ?_⟩
          have z5 := same_new (o := .tup ([V.str x.kind, .int x.shelf, .str x.side, .int x.crew, .int x.keep] ++ [.ref p3])) np5
          have sall := z2.trans (s9.trans ((z3.trans z4).trans z5))
          have A2 := Aq.pure sall
          have dnew := at_wish (s := cutWish many x) (K := K) (tup_new (p := p5)) (Same.t (z4.trans z5) (tup_new (p := p3)))
          have A3 := A2.app (dp_del A2.el dnew (by have e := noL_wishes [cutWish many x]; unfold dwishes noLs at e; exact (Bool.and_eq_true_iff.mp e).1))
          refine ⟨us, A2.el, ?_, ?_⟩
          · have e := dps_len Aq.dx
            unfold dwishes at e
            rw [List.length_map, List.length_map, List.length_take, List.length_take] at e
            exact small1000 (by omega)
          · rw [take_snoc hx, List.map_append, dwishes_app]
            exact ⟨_, _, A3⟩
      · rintro H8 ⟨Bq, us, Aq⟩
        obtain ⟨sA, _, dA⟩ := Aq.all
        have ly : (ys0.take at1).length = (S.wishes.take at1).length := (dps_len dy).trans (List.length_map ..)
        rw [ly, List.take_length, hG] at dA
        exact ⟨D, us, z1.trans sA, nD6, Aq.el, dA, by rw [← hmany]; rfl⟩
    rintro σ H7 ⟨D, us, s7, nD, eD, dG, rfl⟩
    have R7 := R6.pure s7
    have so7 := so.mono R7.same
    obtain ⟨R7', s7'⟩ := row_all R7 (Same.refl _)
    obtain ⟨r1, r2, er, _⟩ := R7.row
    have hrD := R6.nr nD
    have hr10 := R4.nr n10
    have e10' := s7 _ _ (s6 _ _ e10)
    refine ⟨_, rfl, _, rfl, _, rfl, _, rfl, _, rfl, l0, xs0, rfl, .inl so7.l, _, rfl, ρ, _, _, _, rfl, R7', fun v B8 H8 xb s8 R8 dvb nb => ⟨small (by simp), fun p8 np8 => ?_⟩⟩
    have eD8 : B8 D = some (.lst us) := s8 _ _ (by rw [del1_ne (Ne.symm hrD)]; exact eD)
    have e108 : B8 a10 = some (.lst x10) := s8 _ _ (by rw [del1_ne (Ne.symm hr10)]; exact e10')
    have dG8 := dps_mono s8 (dps_del er dG (noL_wishes _))
    have d108 := dps_mono s8 (dps_del er (dps_mono (s6.trans s7) d10) (noL_wishes _))
    have so8 := so.mono (s7'.trans s8)
    have lus : us.length = at1 := (dps_len dG).trans ((List.length_map ..).trans lG)
    have z8 := same_new (o := .lst [v]) np8
    refine ⟨D, p8, us, [v], rfl, rfl, z8 _ _ (R8.same _ _ eD8), upd_same, small (by rw [lus]; simp; omega), fun p9 np9 => ?_⟩
    have z9 := same_new (o := .lst (us ++ [v])) np9
    refine ⟨_, rfl, p9, a10, _, _, rfl, rfl, upd_same, (z8.trans z9) _ _ (R8.same _ _ e108), small (by rw [List.length_append, lus, l10]; simp; omega), fun p10 np10 => ⟨small (by simp), fun t nt => ⟨_, rfl, small (by simp), fun p np => ?_⟩⟩⟩
    have z10 := same_new (o := .lst (us ++ [v] ++ x10)) np10
    have z := (z8.trans z9).trans z10
    have R10 := R8.pure z
    have hr9 := R8.nr ((z8.trans z9).free np10)
    have soD := so8.mono (row_all R8 z).2
    have sB10 := R8.same.trans z
    have hbad : ¬ WishOk S.shelves.length many xb := by
      rw [← lx0]
      exact nb
    have eAll : dwishes (G ++ [xb] ++ Tl) = dwishes G ++ [xb.d] ++ dwishes Tl := by
      rw [dwishes_app, dwishes_app]
      rfl
    have dAll : DpAll K (upd (upd (upd H8 p8 (.lst [v])) p9 (.lst (us ++ [v]))) p10 (.lst (us ++ [v] ++ x10))) (us ++ [v] ++ x10) (dwishes (G ++ [xb] ++ Tl)) := by
      rw [eAll]
      exact dps_app (dps_app (dps_mono sB10 dG8) (.cons (dp_mono sB10 dvb) .nil)) (dps_mono sB10 d108)
    have lall : (us ++ [v] ++ x10).length = at1 + 1 + Tl.length := by
      rw [List.length_append, List.length_append, lus, l10]
      rfl
    refine wrong_fin (R10.less (s7'.trans s8) so_scr) q (ss := S.shelves) (ws := G ++ [xb] ++ Tl) soD.l (so8.mono sB10).dx (SqL.of (by rw [del1_ne (Ne.symm hr9)]; exact upd_same)) (fun _ => dAll) ?_ ok_wwish t nt p np
    have em : (((us ++ [v] ++ x10).length : Nat) : Int) = many := by
      rw [lall, ← hmany]
      omega
    refine .wish (x := xb) n1 n5 ok.sh ok.a0 ok.a1 (by rw [lall, lT]; omega) (fun j y hj hy => ?_) ?_ (by rw [em]; exact hbad)
    · rw [em]
      rw [List.append_assoc, List.getElem?_append_left (by rw [lG]; exact hj), ← hG, List.getElem?_map] at hy
      cases e : (S.wishes.take at1)[j]? with
      | none =>
        rw [e] at hy
        cases hy
      | some x =>
        rw [e] at hy
        rw [← Option.some.inj hy]
        exact cutWish_ok (ok.ws x (List.mem_of_mem_take (List.mem_of_getElem? e)))
    · rw [List.append_assoc, List.getElem?_append_right (by rw [lG]; exact Nat.le_refl _), lG, Nat.sub_self]
      rfl
end

theorem sql_ne {K : PySem.W.Frag} {B : Hp} {r l : Addr} {xs : List V} (n : l ≠ r) (h : SqL K B l xs) : SqL K (del1 B r) l xs := by
  rcases h with (h | ⟨o, h⟩) | h
  · refine .inl (.inl ?_)
    rw [del1_ne n]
    exact h
  · refine .inl (.inr ⟨o, ?_⟩)
    rw [del1_ne n]
    exact h
  · exact .inr h
theorem obat_del {K : PySem.W.Frag} {C : Addr} {H : Hp} {r p dx l m : Addr} {xs ys zs : List V} {S : Sto} (e : H r = some (.lst zs)) (nl : l ≠ r) (nm : m ≠ r) (h : ObAt K C H p dx l m xs ys S) : ObAt K C (del1 H r) p dx l m xs ys S := by
  refine ⟨?_, sql_ne nl h.l, dps_del e h.dx (noL_shelves _), sql_ne nm h.m, dps_del e h.dy (noL_wishes _)⟩
  rw [del1_ne (fun z => by
    have q := h.o
    rw [z, e] at q
    cases q)]
  exact h.o
/-! ### bounds just met -/
def greatW : List Wish := [⟨"fetch", 4, "left", 1, 3, [0, 1, 2, 3, 4]⟩, ⟨"bring", 0, "right", 0, 0, [4]⟩, ⟨"bring", 4, "any", 0, 3, []⟩, ⟨"fetch", 0, "any", 1, 1, [3]⟩, ⟨"fetch", 0, "any", 1, 1, [3]⟩]
def greatS : Sto := ⟨[⟨9, 9, 1⟩, ⟨0, 0, 0⟩, ⟨9, 0, 0⟩, ⟨1, 1, 1⟩, ⟨9, 5, 0⟩], 5, greatW⟩
def leastS : Sto := ⟨[⟨0, 0, 0⟩], 0, []⟩
theorem greatS_ok : StoOk greatS := by
  refine ⟨by decide, by decide, ?_, by decide, by decide, by decide, ?_⟩
  · intro x hx
    unfold greatS at hx
    simp only [List.mem_cons, List.not_mem_nil, or_false] at hx
    rcases hx with rfl | rfl | rfl | rfl | rfl <;> exact ⟨by decide, by decide, by decide, by decide⟩
  · intro x hx
    unfold greatS greatW at hx
    simp only [List.mem_cons, List.not_mem_nil, or_false] at hx
    rcases hx with rfl | rfl | rfl | rfl | rfl
    · exact ⟨.inl rfl, by decide, by decide, .inl rfl, .inr rfl, by decide, by decide, ⟨by decide, by decide, by decide, by decide, by decide, by decide, by decide, by decide, by decide, by decide, trivial⟩⟩
    · exact ⟨.inr rfl, by decide, by decide, .inr (.inl rfl), .inl rfl, by decide, by decide, ⟨by decide, by decide, trivial⟩⟩
    · exact ⟨.inr rfl, by decide, by decide, .inr (.inr rfl), .inl rfl, by decide, by decide, trivial⟩
    · exact ⟨.inl rfl, by decide, by decide, .inr (.inr rfl), .inr rfl, by decide, by decide, ⟨by decide, by decide, trivial⟩⟩
    · exact ⟨.inl rfl, by decide, by decide, .inr (.inr rfl), .inr rfl, by decide, by decide, ⟨by decide, by decide, trivial⟩⟩
theorem leastS_ok : StoOk leastS := by
  refine ⟨by decide, by decide, ?_, by decide, by decide, by decide, fun x hx => absurd hx (by unfold leastS; simp)⟩
  intro x hx
  unfold leastS at hx
  simp only [List.mem_cons, List.not_mem_nil, or_false] at hx
  rcases hx with rfl
  exact ⟨by decide, by decide, by decide, by decide⟩
theorem EvD.callR {K : PySem.W.Frag} {σ : L2.St} {H H' : Hp} {t u : TE} {d : PyData} {sp : Sp} {r : R2} {Q : VK} (h : EvD K σ H t d) (s : Same H H') (q : ∀ v H'', Same H' H'' → Dp K H'' v d → sp [v] H'' (fun x H1 => u σ H1 fun y H2 => r x y H2 Q) E0) : tOp r (tCall sp [] E0 (tCons t tNil)) u σ H' Q := h H' _ s q
theorem hand_of {K : PySem.W.Frag} {H : Hp} {a l m : Addr} {xs ys : List V} {S : Sto} (so : StoAt K H a l m xs ys S) (ok : StoOk S) : HandAt K H a l m xs ys S.shelves S.aisle S.wishes none := ⟨so.t, so.l, so.dx, so.m, fun _ => so.dy, .none ok⟩
/-- the lists that were handed in, beside the row -/
structure HanSt (K : PySem.W.Frag) (ρ : RowP) (h0 h1 hh : Addr) (B H : Hp) : Prop where
  R : RowSt K ρ B H
  e0 : ∃ zs, H h0 = some (.lst zs)
  e1 : ∃ zs, H h1 = some (.lst zs)
  b0 : B h0 = none
  b1 : B h1 = none
  r0 : ρ.r ≠ h0
  r1 : ρ.r ≠ h1
  eh : B hh = some (.lst [.ref h0, .ref h1])
theorem HanSt.pure {K : PySem.W.Frag} {ρ : RowP} {h0 h1 hh : Addr} {B H H' : Hp} (h : HanSt K ρ h0 h1 hh B H) (s : Same H H') : HanSt K ρ h0 h1 hh B H' :=
  ⟨h.R.pure s, h.e0.imp fun _ e => s _ _ e, h.e1.imp fun _ e => s _ _ e, h.b0, h.b1, h.r0, h.r1, h.eh⟩
theorem HanSt.put {K : PySem.W.Frag} {ρ : RowP} {h0 h1 hh q : Addr} {B H : Hp} {zs : List V} (h : HanSt K ρ h0 h1 hh B H) (r : ρ.r ≠ q) (b : B q = none) : HanSt K ρ h0 h1 hh B (upd H q (.lst zs)) := by
  refine ⟨h.R.put r b, ?_, ?_, h.b0, h.b1, h.r0, h.r1, h.eh⟩
  · by_cases e : h0 = q
    · exact ⟨zs, by rw [e]; exact upd_same⟩
    · rw [upd_ne e]
      exact h.e0
  · by_cases e : h1 = q
    · exact ⟨zs, by rw [e]; exact upd_same⟩
    · rw [upd_ne e]
      exact h.e1
def spLaw (K : PySem.W.Frag) : Sp := fun vs H Q _ => ∃ (a : Addr) (ns : List Int), vs = [.ref a] ∧ SqL K H a (ns.map V.int) ∧ ns.length ≤ 63 ∧ ∀ H', Q (.bl true) H'
section
variable {P : Program} {w : World} {K : PySem.W.Frag} {mg : Str → Option Value} {base : Heap}
/-! law: 0 _law_script, 1 _law_row, 2 _law_store_here, 3 _law_handed, 4 _law_told, 5 _law_turn, 6 _law_wrong_here, 7 _law_word, 8 _law_number, 9 _law_wishes, 10 _law_great -/
abbrev s_law : Stmt := topS 26
abbrev N_law : List Str := ["_law_script", "_law_row", "_law_store_here", "_law_handed", "_law_told", "_law_turn", "_law_wrong_here", "_law_word", "_law_number", "_law_wishes", "_law_great"]
theorem sc_law : FnScope N_law ["_law_script"] (defScope s_law) := ⟨rfl, rfl, rfl, by decide +kernel, rfl, by decide +kernel, by decide +kernel⟩
theorem ok_law {f f1 f2 f3 C CB fI fS fW : Addr} {fd fd1 fd2 fd3 fdI fdS fdW : FuncData} (D : Dfs K mg "law" s_law ["_law_script"] f fd) (T : Tx K mg) (TS : TSx K mg C fI fS fW fdI fdS fdW)
    (G_init : FnOk P w K mg base (L2.CX P w) 4 fI fdI ["self", "shelves", "aisle", "wishes"] (spInitX K C CB))
    (G_shelves : FnOk P w K mg base CX0 1 fS fdS ["self"] (spShelvesM K C)) (G_wishes : FnOk P w K mg base CX0 1 fW fdW ["self"] (spWishesM K C))
    (C__law_store : Cal P w K mg base 3 "_law_store" ["_law_row"] (spStore K) f1 fd1) (C__law_wrong : Cal P w K mg base 3 "_law_wrong" ["_law_row", "_law_store_here"] (spWrong K) f2 fd2)
    (C__law_refused : Cal P w K mg base 7 "_law_refused" ["_law_store_here"] (spRefused K) f3 fd3) :
    FnOk P w K mg base CX0 9 f fd ["_law_script"] (spLaw K) := by
  refine D.F.ok sc_law (fun vs H Q E h => ?_) (fun cdv A outer s H vs Q E hr h => ?_)
  · obtain ⟨a, ns, rfl, _⟩ := h
    rfl
  · obtain ⟨a, ns, rfl, hS, _, q⟩ := h
    refine ⟨_, (pss_cons (ps_set (i := 1) sc_law.nd rfl (Or.inl rfl) (pe_lst (pa_cons (pv 0) (pa_cons pe_int (pa_cons pe_int pa_nil)))))
      (pss_cons (ps_set (i := 2) sc_law.nd rfl (Or.inl rfl) (pe_call C__law_store.G (hr.mono (by decide)) (by rfl) C__law_store.g C__law_store.kp C__law_store.b .nil pass0 (pa_cons (pv 1) pa_nil)))
      (pss_cons (ps_set (i := 3) sc_law.nd rfl (Or.inl rfl) (pe_lst (pa_cons (pe_callTy (klist_of (K := K)) (by rfl) T.n_list (by decide +kernel) (pa_cons (pe_ix (kix_tup (K := K)) (pv 2) pe_int (fun _ _ => rfl)) pa_nil)) (pa_cons (pe_callTy (klist_of (K := K)) (by rfl) T.n_list (by decide +kernel) (pa_cons (pe_ix (kix_tup (K := K)) (pv 2) pe_int (fun _ _ => rfl)) pa_nil)) pa_nil))))
      (C8.pss_cut (ps_set (i := 4) sc_law.nd rfl (Or.inl rfl) (pe_make TS.mkS G_init (hr.mono (by decide)) rfl TS.g TS.b_init .nil passL (pa_cons (pe_ix (kix_list (K := K)) (pv 3) pe_int (fun _ _ => rfl)) (pa_cons (pe_ix (kix_tup (K := K)) (pv 2) pe_int (fun _ _ => rfl)) (pa_cons (pe_ix (kix_list (K := K)) (pv 3) pe_int (fun _ _ => rfl)) pa_nil)))))
      (C8.pss_cut (ps_if (pt_cmpR (kneD (K := K) hr.units) (pv 3) (pe_lst (pa_cons (pe_ix (kix_tup (K := K)) (pv 2) pe_int (fun _ _ => rfl)) (pa_cons (pe_ix (kix_tup (K := K)) (pv 2) pe_int (fun _ _ => rfl)) pa_nil))) (nomark _)) (pss_one (ps_ret pe_bl)) pss_nil)
      (pss_cons (ps_for PassesOwn.never rfl (pi_range1 (by rfl) T.n_range (pa_cons pe_int pa_nil)) (pg_name (i := 5) sc_law.nd rfl (Or.inl rfl)) (pss_cons (ps_if (PW.pt (pw_or (pt_cmpR (kneD (K := K) hr.units) (pe_meth0 (pv 4) TS.cl TS.m_shelves G_shelves (hr.mono (by decide)) TS.b_shelves .nil pass0) (pe_ix (kix_tup (K := K)) (pv 2) pe_int (fun _ _ => rfl)) (nomark _)) (pw_or1 (pt_cmpR (kneD (K := K) hr.units) (pe_meth0 (pv 4) TS.cl TS.m_wishes G_wishes (hr.mono (by decide)) TS.b_wishes .nil pass0) (pe_ix (kix_tup (K := K)) (pv 2) pe_int (fun _ _ => rfl)) (nomark _))))) (pss_one (ps_ret pe_bl)) pss_nil)
      (pss_cons (ps_expr (pe_bm PySem.F.plainAttrs_list PySem.F.slot_list_append PySem.F.type_list_append mt_append (pe_meth0 (pv 4) TS.cl TS.m_shelves G_shelves (hr.mono (by decide)) TS.b_shelves .nil pass0) (pa_cons pe_int pa_nil)))
      (pss_cons (ps_expr (pe_bm0 PySem.F.plainAttrs_list PySem.F.slot_list_clear PySem.F.type_list_clear mt_clear (pe_meth0 (pv 4) TS.cl TS.m_wishes G_wishes (hr.mono (by decide)) TS.b_wishes .nil pass0)))
      (pss_cons (ps_expr (pe_bm0 PySem.F.plainAttrs_list PySem.F.slot_list_clear PySem.F.type_list_clear mt_clear (pe_ix (kix_list (K := K)) (pv 3) pe_int (fun _ _ => rfl))))
      (pss_one (ps_expr (pe_bm0 PySem.F.plainAttrs_list PySem.F.slot_list_clear PySem.F.type_list_clear mt_clear (pe_ix (kix_list (K := K)) (pv 3) pe_int (fun _ _ => rfl))))))))))
      (C8.pss_cut (ps_asg (pe_call C__law_wrong.G (hr.mono (by decide)) (by rfl) C__law_wrong.g C__law_wrong.kp C__law_wrong.b .nil pass0 (pa_cons (pv 1) (pa_cons (pv 2) pa_nil))) (pg_tup (by rfl) (pgs_cons (pg_name (i := 6) sc_law.nd rfl (Or.inl rfl)) (pgs_cons (pg_name (i := 7) sc_law.nd rfl (Or.inl rfl)) (pgs_cons (pg_name (i := 8) sc_law.nd rfl (Or.inl rfl)) pgs_nil)))))
      (C8.pss_cut (ps_if (pt_cmpR (kneD (K := K) hr.units) (pe_call C__law_refused.G (hr.mono (by decide)) (by rfl) C__law_refused.g C__law_refused.kp C__law_refused.b .nil pass0 (pa_cons (pv 6) pa_nil)) (pe_tup (pa_cons (pv 7) (pa_cons (pv 8) pa_nil))) (nomark _)) (pss_one (ps_ret pe_bl)) pss_nil)
      (pss_cons (ps_set (i := 9) sc_law.nd rfl (Or.inl rfl) (pe_lst (pa_cons (pe_tup (pa_cons pe_str (pa_cons pe_int (pa_cons pe_str (pa_cons pe_int (pa_cons pe_int (pa_cons (pe_tup (pa_cons pe_int (pa_cons pe_int (pa_cons pe_int (pa_cons pe_int (pa_cons pe_int pa_nil)))))) pa_nil))))))) (pa_cons (pe_tup (pa_cons pe_str (pa_cons pe_int (pa_cons pe_str (pa_cons pe_int (pa_cons pe_int (pa_cons (pe_tup (pa_cons pe_int pa_nil)) pa_nil))))))) pa_nil))))
      (pss_cons (ps_set (i := 9) sc_law.nd rfl (Or.inl rfl) (pe_op op_cat (pe_op op_cat (pv 9) (pe_lst (pa_cons (pe_tup (pa_cons pe_str (pa_cons pe_int (pa_cons pe_str (pa_cons pe_int (pa_cons pe_int (pa_cons (pe_tup pa_nil) pa_nil))))))) pa_nil))) (pe_op op_rep (pe_lst (pa_cons (pe_tup (pa_cons pe_str (pa_cons pe_int (pa_cons pe_str (pa_cons pe_int (pa_cons pe_int (pa_cons (pe_tup (pa_cons pe_int pa_nil)) pa_nil))))))) pa_nil)) pe_int)))
      (pss_cons (ps_set (i := 10) sc_law.nd rfl (Or.inl rfl) (pe_tup (pa_cons (pe_lst (pa_cons (pe_tup (pa_cons pe_int (pa_cons pe_int (pa_cons pe_int pa_nil)))) (pa_cons (pe_tup (pa_cons pe_int (pa_cons pe_int (pa_cons pe_int pa_nil)))) (pa_cons (pe_tup (pa_cons pe_int (pa_cons pe_int (pa_cons pe_int pa_nil)))) (pa_cons (pe_tup (pa_cons pe_int (pa_cons pe_int (pa_cons pe_int pa_nil)))) (pa_cons (pe_tup (pa_cons pe_int (pa_cons pe_int (pa_cons pe_int pa_nil)))) pa_nil)))))) (pa_cons pe_int (pa_cons (pv 9) pa_nil)))))
      (pss_one (ps_ret (pe_and (pe_cmpR op_isN (pe_call C__law_refused.G (hr.mono (by decide)) (by rfl) C__law_refused.g C__law_refused.kp C__law_refused.b .nil pass0 (pa_cons (pv 10) pa_nil)) pe_non (nomark _)) (pe_one (pe_cmpR op_isN (pe_call C__law_refused.G (hr.mono (by decide)) (by rfl) C__law_refused.g C__law_refused.kp C__law_refused.b .nil pass0 (pa_cons (pe_tup (pa_cons (pe_lst (pa_cons (pe_tup (pa_cons pe_int (pa_cons pe_int (pa_cons pe_int pa_nil)))) pa_nil)) (pa_cons pe_int (pa_cons (pe_lst pa_nil) pa_nil)))) pa_nil)) pe_non (nomark _))))))))))))))))), ?_⟩
    -- row, store
    refine ⟨_, rfl, small (by simp), fun r nr => ?_⟩
    have R0 : RowSt K ⟨r, a, ns⟩ H (upd H r (.lst [.ref a, .int 0, .int 0])) := ⟨same_new nr, nr, hS, 0, 0, upd_same, by decide⟩
    generalize hρ : (⟨r, a, ns⟩ : RowP) = ρ at R0
    have er : r = ρ.r := by rw [← hρ]
    refine ⟨_, rfl, ρ, H, by rw [← er]; rfl, R0, fun v B2 H2 S s2 R2 dv ok => ?_⟩
    obtain ⟨a0, l, m, xs, ys, rfl, so⟩ := sto_at dv
    -- handed
    have so2 := so.mono R2.same
    refine ⟨_, rfl, a0, _, 0, .ref l, rfl, rfl, so2.t, rfl, l, xs, rfl, .inl so2.l, fun h0 nh0 => ?_⟩
    have z1 := same_new (o := .lst xs) nh0
    have so3 := so2.mono z1
    refine ⟨_, rfl, a0, _, 2, .ref m, rfl, rfl, so3.t, rfl, m, ys, rfl, .inl so3.m, fun h1 nh1 => ?_⟩
    refine ⟨small (by simp), fun hh nhh => ?_⟩
    have z2 := same_new (o := .lst ys) nh1
    have z3 := same_new (o := .lst [.ref h0, .ref h1]) nhh
    have R3 : RowSt K ρ (upd B2 hh (.lst [.ref h0, .ref h1])) (upd (upd (upd H2 h0 (.lst xs)) h1 (.lst ys)) hh (.lst [.ref h0, .ref h1])) := ((R2.new nh0).new nh1).grow nhh
    have hhe : (upd (upd (upd H2 h0 (.lst xs)) h1 (.lst ys)) hh (.lst [.ref h0, .ref h1])) hh = some (.lst [.ref h0, .ref h1]) := upd_same
    have h01 : h0 ≠ h1 := ne_of_none upd_same nh1
    have e0 : (upd (upd (upd H2 h0 (.lst xs)) h1 (.lst ys)) hh (.lst [.ref h0, .ref h1])) h0 = some (.lst xs) := z3 _ _ (z2 _ _ upd_same)
    have e1 : (upd (upd (upd H2 h0 (.lst xs)) h1 (.lst ys)) hh (.lst [.ref h0, .ref h1])) h1 = some (.lst ys) := z3 _ _ upd_same
    have n0h : h0 ≠ hh := ne_of_none (z2 _ _ upd_same) nhh
    have n1h : h1 ≠ hh := ne_of_none (upd_same (H := upd H2 h0 (.lst xs)) (a := h1)) nhh
    have b0 : (upd B2 hh (.lst [.ref h0, .ref h1])) h0 = none := by
      rw [upd_ne n0h]
      exact R2.same.free nh0
    have b1 : (upd B2 hh (.lst [.ref h0, .ref h1])) h1 = none := by
      rw [upd_ne n1h]
      exact R2.same.free (z1.free nh1)
    have bh : (upd B2 hh (.lst [.ref h0, .ref h1])) hh = some (.lst [.ref h0, .ref h1]) := upd_same
    have r0 := R2.nr nh0
    have r1 := R2.nr (z1.free nh1)
    have s23 : Same B2 (upd B2 hh (.lst [.ref h0, .ref h1])) := same_new (R2.same.free (z1.free (z2.free nhh)))
    have soB := so.mono s23
    generalize upd B2 hh (.lst [.ref h0, .ref h1]) = B3 at R3 b0 b1 bh s23 soB
    generalize upd (upd (upd H2 h0 (.lst xs)) h1 (.lst ys)) hh (.lst [.ref h0, .ref h1]) = H3 at R3 hhe e0 e1
    have hs3 : HanSt K ρ h0 h1 hh B3 H3 := ⟨R3, ⟨_, e0⟩, ⟨_, e1⟩, b0, b1, r0, r1, bh⟩
    -- told
    refine ⟨fun σ H' => ∃ (p dx l' m' : Addr) (xs' ys' : List V) (B' : Hp), σ = [some (.ref a), some (.ref ρ.r), some (.ref a0), some (.ref hh), some (.ref p), none, none, none, none, none, none] ∧ Same B3 B' ∧ HanSt K ρ h0 h1 hh B' H' ∧ H' h0 = some (.lst xs) ∧ H' h1 = some (.lst ys) ∧ ObAt K C B' p dx l' m' xs' ys' S, ?_, ?_⟩
    · have so3 := soB.mono R3.same
      refine ⟨_, rfl, hh, _, 0, .ref h0, rfl, rfl, SqL.of hhe, rfl, _, rfl, a0, _, 1, .int S.aisle, rfl, rfl, so3.t, rfl, _, rfl, hh, _, 1, .ref h1, rfl, rfl, SqL.of hhe, rfl, ?_⟩
      intro p dx np ndx nex
      have s4 := (same_new (o := .own p) ndx).trans (Same.new (p := p) (o := .ins C dx []) (Same.refl _) (by rw [upd_ne (fun z => nex z.symm)]; exact np))
      refine ⟨p, dx, h0, h1, S.aisle, xs, ys, S.shelves, S.wishes, none, _, rfl, upd_same, s4, np, SqL.of e0, so3.dx, SqL.of e1, fun _ => so3.dy, .none ok, fun _ H' dx' l' m' xs' ys' s5 ob nl nm => ⟨rfl, ?_⟩, fun x n e => by cases e⟩
      obtain ⟨n1, n2, e3, _⟩ := (R3.pure s5).row
      have k0 := s5 _ _ e0
      have k1 := s5 _ _ e1
      have m0 : (del1 H' ρ.r) h0 = some (.lst xs) := by
        rw [del1_ne (Ne.symm r0)]
        exact k0
      have m1 : (del1 (del1 H' ρ.r) h0) h1 = some (.lst ys) := by
        rw [del1_ne (Ne.symm h01), del1_ne (Ne.symm r1)]
        exact k1
      obtain ⟨R5, s35⟩ := row_all R3 s5
      have s36 := same_del s35 b0
      have s37 := same_del s36 b1
      have ob1 := obat_del e3 (fun z => by rw [z] at nl; obtain ⟨_, _, e, _⟩ := R3.row; rw [e] at nl; cases nl) (fun z => by rw [z] at nm; obtain ⟨_, _, e, _⟩ := R3.row; rw [e] at nm; cases nm) ob
      have ob2 := obat_del m0 (fun z => by rw [z, e0] at nl; cases nl) (fun z => by rw [z, e0] at nm; cases nm) ob1
      have ob3 := obat_del m1 (fun z => by rw [z, e1] at nl; cases nl) (fun z => by rw [z, e1] at nm; cases nm) ob2
      have sd : ∀ (X : Hp) (z : Addr), Same (del1 X z) X := fun X z b o h => by
        by_cases e : b = z
        · rw [e, del1_same] at h
          cases h
        · rw [del1_ne e] at h
          exact h
      have R6 : RowSt K ρ (del1 (del1 (del1 H' ρ.r) h0) h1) H' := R5.less ((sd _ _).trans (sd _ _)) (Same.l s37 R3.scr)
      refine ⟨p, dx', l', m', xs', ys', _, by rw [← er]; rfl, s37, ⟨R6, ⟨_, k0⟩, ⟨_, k1⟩, ?_, del1_same, r0, r1, s37 _ _ bh⟩, k0, k1, ob3⟩
      rw [del1_ne h01]
      exact del1_same
    rintro σ H4 ⟨p, dx, l', m', xs', ys', B4, rfl, s34, hs4, k0, k1, ob⟩
    have so4 := soB.mono s34
    -- handed are as they were
    refine ⟨fun σ H' => Same H4 H' ∧ σ = [some (.ref a), some (.ref ρ.r), some (.ref a0), some (.ref hh), some (.ref p), none, none, none, none, none, none], ?_, ?_⟩
    · have so5 := so4.mono hs4.R.same
      refine ⟨_, rfl, _, rfl, a0, _, 0, .ref l, rfl, rfl, so5.t, rfl, _, rfl, a0, _, 2, .ref m, rfl, rfl, so5.t, rfl, small (by simp), fun q1 nq1 => ?_⟩
      have s5 := same_new (o := .lst [.ref l, .ref m]) nq1
      have so6 := so5.mono s5
      have lay : Lay 4 (.list [.list (dshelves S.shelves), .list (dwishes S.wishes)]) := (Lays.cons ((shelves_lay _).more (by decide)) (Lays.cons (wishes_lay ok.ws) lays_nil)).lst
      refine ⟨_, _, .lst (SqL.of (s5 _ _ (hs4.R.same _ _ hs4.eh))) (.cons (.lst (SqL.of (s5 _ _ k0)) so6.dx) (.cons (.lst (SqL.of (s5 _ _ k1)) so6.dy) .nil)), .lst lst_new (.cons (.lst so6.l so6.dx) (.cons (.lst so6.m so6.dy) .nil)), lay.shaped, lay.shaped, _, rfl, itnB lay.refl ⟨s5, rfl⟩⟩
    rintro σ H5 ⟨s45, rfl⟩
    have hs5 := hs4.pure s45
    -- for turn in range(2)
    refine ⟨2, rfl, by decide, by decide, for_range (lo := 0) (n := (2 : Int).toNat) (fun i σ H' => ∃ v5 : Option V, σ = [some (.ref a), some (.ref ρ.r), some (.ref a0), some (.ref hh), some (.ref p), v5, none, none, none, none, none] ∧ HanSt K ρ h0 h1 hh B4 H') ⟨none, rfl, hs5⟩ ?_ ?_⟩
    · rintro i σ H6 hi ⟨v5, rfl, hs6⟩
      have ob6 : ObAt K C H6 p dx l' m' xs' ys' S := ⟨hs6.R.same _ _ ob.o, Same.l hs6.R.same ob.l, dps_mono hs6.R.same ob.dx, Same.l hs6.R.same ob.m, dps_mono hs6.R.same ob.dy⟩
      have so6 := so4.mono hs6.R.same
      refine ⟨_, rfl, p, dx, _, rfl, ob6.o, fsS_m1, p, S, rfl, ⟨_, _, _, _, _, ob6⟩, fun q1 zs1 nq1 d1 => ?_⟩
      have t1 := same_new (o := .lst zs1) nq1
      have so7 := so6.mono t1
      refine ⟨_, rfl, a0, _, 0, .ref l, rfl, rfl, so7.t, rfl, .list (dshelves S.shelves), .list (dshelves S.shelves), .lst lst_new (dps_mono t1 d1), .lst so7.l so7.dx, (shelves_lay _).shaped, (shelves_lay _).shaped, _, rfl, itnB (shelves_lay _).refl ?_⟩
      have hs7 := hs6.pure t1
      have ob7 : ObAt K C (upd H6 q1 (.lst zs1)) p dx l' m' xs' ys' S := ⟨t1 _ _ ob6.o, Same.l t1 ob6.l, dps_mono t1 ob6.dx, Same.l t1 ob6.m, dps_mono t1 ob6.dy⟩
      generalize upd H6 q1 (.lst zs1) = H7 at so7 hs7 ob7
      refine ⟨_, rfl, p, dx, _, rfl, ob7.o, fsS_m2, p, S, rfl, ⟨_, _, _, _, _, ob7⟩, fun q2 zs2 nq2 d2 => ?_⟩
      have t2 := same_new (o := .lst zs2) nq2
      have so8 := so7.mono t2
      refine ⟨_, rfl, a0, _, 2, .ref m, rfl, rfl, so8.t, rfl, .list (dwishes S.wishes), .list (dwishes S.wishes), .lst lst_new (dps_mono t2 d2), .lst so8.m so8.dy, (wishes_lay ok.ws).shaped, (wishes_lay ok.ws).shaped, _, rfl, itnB (wishes_lay ok.ws).refl ?_⟩
      have hs8 := hs7.pure t2
      have ob8 : ObAt K C (upd H7 q2 (.lst zs2)) p dx l' m' xs' ys' S := ⟨t2 _ _ ob7.o, Same.l t2 ob7.l, dps_mono t2 ob7.dx, Same.l t2 ob7.m, dps_mono t2 ob7.dy⟩
      generalize upd H7 q2 (.lst zs2) = H8 at so8 hs8 ob8
      -- told.shelves().append(0)
      refine ⟨_, rfl, p, dx, _, rfl, ob8.o, fsS_m1, p, S, rfl, ⟨_, _, _, _, _, ob8⟩, fun q3 zs3 nq3 d3 => ?_⟩
      have hs9 := hs8.pure (same_new (o := .lst zs3) nq3)
      refine ⟨.inl ⟨rfl, _, lst_new⟩, q3, zs3, _, rfl, rfl, upd_same, ?_, ?_⟩
      · have e := dps_len d3
        have e2 : (dshelves S.shelves).length = S.shelves.length := List.length_map ..
        have := ok.n5
        exact small1000 (by omega)
      have hs10 := hs9.put (zs := zs3 ++ [.int 0]) (hs8.R.nr nq3) (hs8.R.same.free nq3)
      generalize upd (upd H8 q3 (.lst zs3)) q3 (.lst (zs3 ++ [.int 0])) = H10 at hs10
      have ob10 : ObAt K C H10 p dx l' m' xs' ys' S := ⟨hs10.R.same _ _ ob.o, Same.l hs10.R.same ob.l, dps_mono hs10.R.same ob.dx, Same.l hs10.R.same ob.m, dps_mono hs10.R.same ob.dy⟩
      -- told.wishes().clear()
      refine ⟨_, rfl, p, dx, _, rfl, ob10.o, fsS_m2, p, S, rfl, ⟨_, _, _, _, _, ob10⟩, fun q4 zs4 nq4 d4 => ?_⟩
      have hs11 := hs10.pure (same_new (o := .lst zs4) nq4)
      refine ⟨.inl ⟨rfl, _, lst_new⟩, q4, zs4, rfl, rfl, upd_same, ?_⟩
      have hs12 := hs11.put (zs := []) (hs10.R.nr nq4) (hs10.R.same.free nq4)
      generalize upd (upd H10 q4 (.lst zs4)) q4 (.lst []) = H12 at hs12
      -- handed[0].clear()
      obtain ⟨us, eu⟩ := hs12.e0
      refine ⟨_, rfl, hh, _, 0, .ref h0, rfl, rfl, SqL.of (hs12.R.same _ _ hs12.eh), rfl, .inl ⟨rfl, _, SqL.of eu⟩, h0, us, rfl, rfl, eu, ?_⟩
      have hs13 := hs12.put (zs := []) hs12.r0 hs12.b0
      generalize upd H12 h0 (.lst []) = H13 at hs13
      obtain ⟨us1, eu1⟩ := hs13.e1
      refine ⟨_, rfl, hh, _, 1, .ref h1, rfl, rfl, SqL.of (hs13.R.same _ _ hs13.eh), rfl, .inl ⟨rfl, _, SqL.of eu1⟩, h1, us1, rfl, rfl, eu1, ?_⟩
      exact ⟨_, rfl, hs13.put (zs := []) hs13.r1 hs13.b1⟩
    rintro σ H6 ⟨v5, rfl, hs6⟩
    have dv4 : Dp K B4 (.ref a0) S.d := so4.d
    -- wrong
    refine ⟨fun σ H' => ∃ (t tl tm : Addr) (txs tys : List V) (ss : List Shelf) (ai : Int) (ws : List Wish) (x : Str) (n : Int), σ = [some (.ref a), some (.ref ρ.r), some (.ref a0), some (.ref hh), some (.ref p), v5, some (.ref t), some (.str x), some (.int n), none, none] ∧ HandAt K H' t tl tm txs tys ss ai ws (some (x, n)) ∧ PyData.strOk x = true, ?_, ?_⟩
    · refine ⟨_, rfl, _, rfl, ρ, .ref a0, S, B4, rfl, hs6.R, dv4, ok, fun q5 t tl tm txs tys ss ai ws x n B7 H7 s7 R7 sq ha ok7 => ?_⟩
      refine ⟨q5, _, rfl, Same.t R7.same sq, rfl, _, _, rfl, _, _, rfl, _, _, rfl, rfl, ?_⟩
      exact ⟨t, tl, tm, txs, tys, ss, ai, ws, x, n, rfl, ha.mono R7.same, ok7⟩
    rintro σ H7 ⟨t, tl, tm, txs, tys, ss, ai, ws, x, n, rfl, ha, okx⟩
    -- refused
    refine ⟨fun σ H' => σ = [some (.ref a), some (.ref ρ.r), some (.ref a0), some (.ref hh), some (.ref p), v5, some (.ref t), some (.str x), some (.int n), none, none], ?_, ?_⟩
    · refine ⟨_, rfl, t, tl, tm, txs, tys, ss, ai, ws, _, rfl, ha, fun e => (by cases e), fun x2 n2 e v H8 s8 dv8 => ?_⟩
      cases e
      refine ⟨_, rfl, _, rfl, small (by simp), fun q6 nq6 => ?_⟩
      have s9 := same_new (o := .tup [.str x, .int n]) nq6
      have lay : Lay 2 (.tuple [.str x, .int n]) := (Lays.cons (lay_str okx) (Lays.cons lay_int lays_nil)).tup
      exact ⟨_, _, dp_mono s9 dv8, .tup tup_new (.cons (.str _) (.cons (.int _) .nil)), lay.shaped, lay.shaped, _, rfl, itnB lay.refl rfl⟩
    rintro σ H8 rfl
    -- bounds just met
    refine EvL.set (K := K) (H := H8) (ds := dwishes (greatW.take 2)) ?_ (Same.refl _) fun a9 x9 H9 s9 n9 e9 d9 => ?_
    · exact evl_lst (by (repeat (first | exact evs_nil | refine evs_cons ?_ ?_ | exact ev_int | exact ev_str | exact ev_varI rfl | exact ev_varS rfl | refine ev_tup ?_ | refine ev_add ?_ ?_ | refine ev_sub ?_ ?_ | refine ev_neg ?_ | exact ev_var rfl (by assumption)))) (show 2 ≤ 1000 by decide)
    refine EvL.set (K := K) (H := H9) (ds := (dwishes (greatW.take 2) ++ dwishes ((greatW.drop 2).take 1)) ++ (List.replicate (2 : Int).toNat (dwishes (greatW.drop 4))).flatten) ?_ (Same.refl _) fun a10 x10 H10 s10 n10 e10 d10 => ?_
    · exact evl_cat (EvL.r (evl_cat (evr_var rfl e9 d9) (EvL.r (evl_lst (by (repeat (first | exact evs_nil | refine evs_cons ?_ ?_ | exact ev_int | exact ev_str | exact ev_varI rfl | exact ev_varS rfl | refine ev_tup ?_ | refine ev_add ?_ ?_ | refine ev_sub ?_ ?_ | refine ev_neg ?_ | exact ev_var rfl (by assumption)))) (show 1 ≤ 1000 by decide))) (show 3 ≤ 1000 by decide))) (EvL.r (evl_rep (EvL.r (evl_lst (by (repeat (first | exact evs_nil | refine evs_cons ?_ ?_ | exact ev_int | exact ev_str | exact ev_varI rfl | exact ev_varS rfl | refine ev_tup ?_ | refine ev_add ?_ ?_ | refine ev_sub ?_ ?_ | refine ev_neg ?_ | exact ev_var rfl (by assumption)))) (show 1 ≤ 1000 by decide))) ev_int (by decide) (by decide) (show 2 ≤ 1000 by decide))) (show 5 ≤ 1000 by decide)
    refine EvD.set (K := K) (H := H10) (d := Sto.d greatS) ?_ (Same.refl _) fun v11 H11 s11 d11 => ?_
    · exact ev_tup (evs_cons (EvL.d (evl_lst (by (repeat (first | exact evs_nil | refine evs_cons ?_ ?_ | exact ev_int | exact ev_str | exact ev_varI rfl | exact ev_varS rfl | refine ev_tup ?_ | refine ev_add ?_ ?_ | refine ev_sub ?_ ?_ | refine ev_neg ?_ | exact ev_var rfl (by assumption)))) (show 5 ≤ 1000 by decide))) (evs_cons ev_int (evs_cons (ev_var rfl (.lst (SqL.of e10) d10)) evs_nil))) (show 3 ≤ 1000 by decide)
    obtain ⟨g0, gl, gm, gxs, gys, rfl, sg⟩ := sto_at d11
    refine ⟨_, rfl, g0, gl, gm, gxs, gys, _, _, _, none, rfl, hand_of sg greatS_ok, fun _ H12 s12 => ?_, fun x n e => by cases e⟩
    refine ⟨rfl, _, rfl, itD rfl ?_⟩
    refine EvD.callR (K := K) (H := H12) (d := Sto.d leastS) ?_ (Same.refl _) fun v13 H13 s13 d13 => ?_
    · exact ev_tup (evs_cons (EvL.d (evl_lst (by (repeat (first | exact evs_nil | refine evs_cons ?_ ?_ | exact ev_int | exact ev_str | exact ev_varI rfl | exact ev_varS rfl | refine ev_tup ?_ | refine ev_add ?_ ?_ | refine ev_sub ?_ ?_ | refine ev_neg ?_ | exact ev_var rfl (by assumption)))) (show 1 ≤ 1000 by decide))) (evs_cons ev_int (evs_cons (EvL.d (evl_lst evs_nil (show 0 ≤ 1000 by decide))) evs_nil))) (show 3 ≤ 1000 by decide)
    obtain ⟨g1, gl1, gm1, gxs1, gys1, rfl, sg1⟩ := sto_at d13
    refine ⟨g1, gl1, gm1, gxs1, gys1, _, _, _, none, rfl, hand_of sg1 leastS_ok, fun _ H14 s14 => ?_, fun x n e => by cases e⟩
    exact ⟨rfl, q _⟩
end

theorem wr_tup {K : PySem.W.Frag} {a : Addr} {d : Option Addr} {its : Array Value} {n : Nat} {sl : Array (Option Value)} {xs : List V} (h : K.lookup a = some ⟨.type "tuple", d, .seq its n, sl⟩) (hz : its.size ≤ 1000) (r : Vals xs its.toList) (H : Hp) : SqT K H a xs :=
  .inr ⟨_, its, n, h, rfl, rfl, small hz, r⟩
theorem all_mk {l : PySem.W.OpenLaw} {w : World} {K : PySem.W.Frag} {h : Heap} {mg : Str → Option Value} {fa : Addr} (X : K.In h) (G : h.Ns mainGlobals mg) (hfa : mg "law" = some (.ref fa))
    {C : Addr}
    {cA cB cS cT cR : Addr}
    {nmBadStore qBadStore : Str} {NBadStore : Addr} {bsBadStore : List Value} {snBadStore : List Str} {sbBadStore : List Value} {abBadStore : Bool} {coBadStore : Option Bool} {ddBadStore : Option Addr} {m0BadStore m1BadStore m2BadStore m3BadStore m5BadStore : Option Value}
    {f_BadStore___init__ : Addr} {od_BadStore___init__ an_BadStore___init__ : Option Addr} {sl_BadStore___init__ : Array (Option Value)} {oc_BadStore___init__ kV_BadStore___init__ dc_BadStore___init__ pm_BadStore___init__ cd_BadStore___init__ ct_BadStore___init__ : Value}
    {f_Store___init__ : Addr} {od_Store___init__ an_Store___init__ : Option Addr} {sl_Store___init__ : Array (Option Value)} {oc_Store___init__ kV_Store___init__ dc_Store___init__ pm_Store___init__ cd_Store___init__ ct_Store___init__ : Value}
    {f_Store_shelves : Addr} {od_Store_shelves an_Store_shelves : Option Addr} {sl_Store_shelves : Array (Option Value)} {oc_Store_shelves kV_Store_shelves dc_Store_shelves pm_Store_shelves cd_Store_shelves ct_Store_shelves : Value}
    {f_Store_wishes : Addr} {od_Store_wishes an_Store_wishes : Option Addr} {sl_Store_wishes : Array (Option Value)} {oc_Store_wishes kV_Store_wishes dc_Store_wishes pm_Store_wishes cd_Store_wishes ct_Store_wishes : Value}
    {f__refuse_no_store : Addr} {od__refuse_no_store an__refuse_no_store : Option Addr} {sl__refuse_no_store : Array (Option Value)} {oc__refuse_no_store kV__refuse_no_store dc__refuse_no_store pm__refuse_no_store cd__refuse_no_store ct__refuse_no_store : Value}
    {f__is_shelf : Addr} {od__is_shelf an__is_shelf : Option Addr} {sl__is_shelf : Array (Option Value)} {oc__is_shelf kV__is_shelf dc__is_shelf pm__is_shelf cd__is_shelf ct__is_shelf : Value}
    {f__is_wish : Addr} {od__is_wish an__is_wish : Option Addr} {sl__is_wish : Array (Option Value)} {oc__is_wish kV__is_wish dc__is_wish pm__is_wish cd__is_wish ct__is_wish : Value}
    {f__is_rising : Addr} {od__is_rising an__is_rising : Option Addr} {sl__is_rising : Array (Option Value)} {oc__is_rising kV__is_rising dc__is_rising pm__is_rising cd__is_rising ct__is_rising : Value}
    {f__law_taken : Addr} {od__law_taken an__law_taken : Option Addr} {sl__law_taken : Array (Option Value)} {oc__law_taken kV__law_taken dc__law_taken pm__law_taken cd__law_taken ct__law_taken : Value}
    {f__law_wish : Addr} {od__law_wish an__law_wish : Option Addr} {sl__law_wish : Array (Option Value)} {oc__law_wish kV__law_wish dc__law_wish pm__law_wish cd__law_wish ct__law_wish : Value}
    {f__law_store : Addr} {od__law_store an__law_store : Option Addr} {sl__law_store : Array (Option Value)} {oc__law_store kV__law_store dc__law_store pm__law_store cd__law_store ct__law_store : Value}
    {f__law_made : Addr} {od__law_made an__law_made : Option Addr} {sl__law_made : Array (Option Value)} {oc__law_made kV__law_made dc__law_made pm__law_made cd__law_made ct__law_made : Value}
    {f__law_refused : Addr} {od__law_refused an__law_refused : Option Addr} {sl__law_refused : Array (Option Value)} {oc__law_refused kV__law_refused dc__law_refused pm__law_refused cd__law_refused ct__law_refused : Value}
    {f__law_bad_wish : Addr} {od__law_bad_wish an__law_bad_wish : Option Addr} {sl__law_bad_wish : Array (Option Value)} {oc__law_bad_wish kV__law_bad_wish dc__law_bad_wish pm__law_bad_wish cd__law_bad_wish ct__law_bad_wish : Value}
    {f__law_wrong : Addr} {od__law_wrong an__law_wrong : Option Addr} {sl__law_wrong : Array (Option Value)} {oc__law_wrong kV__law_wrong dc__law_wrong pm__law_wrong cd__law_wrong ct__law_wrong : Value}
    {f_law : Addr} {od_law an_law : Option Addr} {sl_law : Array (Option Value)} {oc_law kV_law dc_law pm_law cd_law ct_law : Value}
    {t_MOST_SHELVES : Tok}
    {t_MOST_ROOM : Tok}
    {t_MOST_WISHES : Tok}
    {t_MOST_KEEP : Tok}
    {tKINDS0 : Tok}
    {tKINDS1 : Tok}
    {a_KINDS : Addr} {d_KINDS : Option Addr} {n_KINDS : Nat} {sl_KINDS : Array (Option Value)}
    {tSIDES0 : Tok}
    {tSIDES1 : Tok}
    {tSIDES2 : Tok}
    {a_SIDES : Addr} {d_SIDES : Option Addr} {n_SIDES : Nat} {sl_SIDES : Array (Option Value)}
    (aC : PySem.W.nsIn K mainGlobals "Store" = some (some (.ref C)))
    (g_AisleError : PySem.W.nsIn K mainGlobals "AisleError" = some (some (.ref cA)))
    (kp_AisleError : PySem.W.keepIn K (.ref cA) = true)
    (ex_AisleError : PySem.W.subIn K (.ref cA) (.type "BaseException") = some true)
    (ty_AisleError : PySem.W.typeIn K (.ref cA) = some (.type "type"))
    (is_AisleError : PySem.W.isClsIn K cA = true)
    (g_BadStore : PySem.W.nsIn K mainGlobals "BadStore" = some (some (.ref cB)))
    (kp_BadStore : PySem.W.keepIn K (.ref cB) = true)
    (ex_BadStore : PySem.W.subIn K (.ref cB) (.type "BaseException") = some true)
    (ty_BadStore : PySem.W.typeIn K (.ref cB) = some (.type "type"))
    (is_BadStore : PySem.W.isClsIn K cB = true)
    (g_BadStep : PySem.W.nsIn K mainGlobals "BadStep" = some (some (.ref cS)))
    (kp_BadStep : PySem.W.keepIn K (.ref cS) = true)
    (ex_BadStep : PySem.W.subIn K (.ref cS) (.type "BaseException") = some true)
    (ty_BadStep : PySem.W.typeIn K (.ref cS) = some (.type "type"))
    (is_BadStep : PySem.W.isClsIn K cS = true)
    (g_BadText : PySem.W.nsIn K mainGlobals "BadText" = some (some (.ref cT)))
    (kp_BadText : PySem.W.keepIn K (.ref cT) = true)
    (ex_BadText : PySem.W.subIn K (.ref cT) (.type "BaseException") = some true)
    (ty_BadText : PySem.W.typeIn K (.ref cT) = some (.type "type"))
    (is_BadText : PySem.W.isClsIn K cT = true)
    (g_Barred : PySem.W.nsIn K mainGlobals "Barred" = some (some (.ref cR)))
    (kp_Barred : PySem.W.keepIn K (.ref cR) = true)
    (ex_Barred : PySem.W.subIn K (.ref cR) (.type "BaseException") = some true)
    (ty_Barred : PySem.W.typeIn K (.ref cR) = some (.type "type"))
    (is_Barred : PySem.W.isClsIn K cR = true)
    (subBA : PySem.W.subIn K (.ref cB) (.ref cA) = some true)
    (subBB : PySem.W.subIn K (.ref cB) (.ref cB) = some true)
    (subBS : PySem.W.subIn K (.ref cB) (.ref cS) = some false)
    (subBT : PySem.W.subIn K (.ref cB) (.ref cT) = some false)
    (subBR : PySem.W.subIn K (.ref cB) (.ref cR) = some false)
    (subBV : PySem.W.subIn K (.ref cB) (.type "ValueError") = some true)
    (xsp : PySem.W.specialIn K (.builtin "object.__class__") "__get__" = some (some (.builtin "getset_descriptor.__get__")))
    (xtk : PySem.W.takesIn K (.builtin "object.__class__") = some true)
    (xLBadStore : K.lookup cB = some (excClassObj nmBadStore qBadStore cB NBadStore bsBadStore [.ref cA, .type "ValueError", .type "Exception", .type "BaseException", .type "object"] true snBadStore sbBadStore abBadStore coBadStore ddBadStore m0BadStore m1BadStore m2BadStore m3BadStore m5BadStore "ValueError.__new__"))
    (xsBadStore : PySem.W.findIn K (.ref cB) "__setattr__" = some (some (.builtin "object.__setattr__")))
    (xgBadStore : PySem.W.findIn K (.ref cB) "__getattribute__" = some (some (.builtin "BaseException.__getattribute__")))
    (xkBadStore : PySem.W.findIn K (.ref cB) "__getattr__" = some none)
    (xdBadStore : PySem.W.hasDictIn K cB = true)
    (xcBadStore : PySem.W.findIn K (.ref cB) "__class__" = some (some (.builtin "object.__class__")))
    (xmBadStore : PySem.W.mroIn K cB (.type "object") = some true)
    (xn0BadStore : PySem.W.findIn K (.ref cB) "word" = some none)
    (xn1BadStore : PySem.W.findIn K (.ref cB) "number" = some none)
    (a_BadStore___init__ : PySem.W.findIn K (.ref cB) "__init__" = some (some (.ref f_BadStore___init__)))
    (i_BadStore___init__ : PySem.W.typeIn K (.ref f_BadStore___init__) = some (.type "function"))
    (l_BadStore___init__ : K.lookup f_BadStore___init__ = some ⟨oc_BadStore___init__, od_BadStore___init__, .func (PySem.W.fnOf "__init__" "BadStore.__init__" (defArgs s_BadStore___init__) (defBody s_BadStore___init__) (defScope s_BadStore___init__) .none kV_BadStore___init__ dc_BadStore___init__ pm_BadStore___init__ an_BadStore___init__ cd_BadStore___init__ ct_BadStore___init__), sl_BadStore___init__⟩)
    (c_BadStore___init__ : PySem.W.codeIn K cd_BadStore___init__ "BadStore.__init__" = true)
    (k_BadStore___init__ : PySem.W.keepIn K (.ref f_BadStore___init__) = true)
    (a_Store___init__ : PySem.W.findIn K (.ref C) "__init__" = some (some (.ref f_Store___init__)))
    (i_Store___init__ : PySem.W.isFn K (.ref f_Store___init__) = true)
    (l_Store___init__ : K.lookup f_Store___init__ = some ⟨oc_Store___init__, od_Store___init__, .func (PySem.W.fnOf "__init__" "Store.__init__" (defArgs s_Store___init__) (defBody s_Store___init__) (defScope s_Store___init__) .none kV_Store___init__ dc_Store___init__ pm_Store___init__ an_Store___init__ cd_Store___init__ ct_Store___init__), sl_Store___init__⟩)
    (c_Store___init__ : PySem.W.codeIn K cd_Store___init__ "Store.__init__" = true)
    (k_Store___init__ : PySem.W.keepIn K (.ref f_Store___init__) = true)
    (a_Store_shelves : PySem.W.findIn K (.ref C) "shelves" = some (some (.ref f_Store_shelves)))
    (i_Store_shelves : PySem.W.isFn K (.ref f_Store_shelves) = true)
    (l_Store_shelves : K.lookup f_Store_shelves = some ⟨oc_Store_shelves, od_Store_shelves, .func (PySem.W.fnOf "shelves" "Store.shelves" (defArgs s_Store_shelves) (defBody s_Store_shelves) (defScope s_Store_shelves) .none kV_Store_shelves dc_Store_shelves pm_Store_shelves an_Store_shelves cd_Store_shelves ct_Store_shelves), sl_Store_shelves⟩)
    (c_Store_shelves : PySem.W.codeIn K cd_Store_shelves "Store.shelves" = true)
    (k_Store_shelves : PySem.W.keepIn K (.ref f_Store_shelves) = true)
    (a_Store_wishes : PySem.W.findIn K (.ref C) "wishes" = some (some (.ref f_Store_wishes)))
    (i_Store_wishes : PySem.W.isFn K (.ref f_Store_wishes) = true)
    (l_Store_wishes : K.lookup f_Store_wishes = some ⟨oc_Store_wishes, od_Store_wishes, .func (PySem.W.fnOf "wishes" "Store.wishes" (defArgs s_Store_wishes) (defBody s_Store_wishes) (defScope s_Store_wishes) .none kV_Store_wishes dc_Store_wishes pm_Store_wishes an_Store_wishes cd_Store_wishes ct_Store_wishes), sl_Store_wishes⟩)
    (c_Store_wishes : PySem.W.codeIn K cd_Store_wishes "Store.wishes" = true)
    (k_Store_wishes : PySem.W.keepIn K (.ref f_Store_wishes) = true)
    (a__refuse_no_store : PySem.W.nsIn K mainGlobals "_refuse_no_store" = some (some (.ref f__refuse_no_store)))
    (l__refuse_no_store : K.lookup f__refuse_no_store = some ⟨oc__refuse_no_store, od__refuse_no_store, .func (PySem.W.fnOf "_refuse_no_store" "_refuse_no_store" (defArgs s__refuse_no_store) (defBody s__refuse_no_store) (defScope s__refuse_no_store) .none kV__refuse_no_store dc__refuse_no_store pm__refuse_no_store an__refuse_no_store cd__refuse_no_store ct__refuse_no_store), sl__refuse_no_store⟩)
    (c__refuse_no_store : PySem.W.codeIn K cd__refuse_no_store "_refuse_no_store" = true)
    (k__refuse_no_store : PySem.W.keepIn K (.ref f__refuse_no_store) = true)
    (a__is_shelf : PySem.W.nsIn K mainGlobals "_is_shelf" = some (some (.ref f__is_shelf)))
    (l__is_shelf : K.lookup f__is_shelf = some ⟨oc__is_shelf, od__is_shelf, .func (PySem.W.fnOf "_is_shelf" "_is_shelf" (defArgs s__is_shelf) (defBody s__is_shelf) (defScope s__is_shelf) .none kV__is_shelf dc__is_shelf pm__is_shelf an__is_shelf cd__is_shelf ct__is_shelf), sl__is_shelf⟩)
    (c__is_shelf : PySem.W.codeIn K cd__is_shelf "_is_shelf" = true)
    (k__is_shelf : PySem.W.keepIn K (.ref f__is_shelf) = true)
    (a__is_wish : PySem.W.nsIn K mainGlobals "_is_wish" = some (some (.ref f__is_wish)))
    (l__is_wish : K.lookup f__is_wish = some ⟨oc__is_wish, od__is_wish, .func (PySem.W.fnOf "_is_wish" "_is_wish" (defArgs s__is_wish) (defBody s__is_wish) (defScope s__is_wish) .none kV__is_wish dc__is_wish pm__is_wish an__is_wish cd__is_wish ct__is_wish), sl__is_wish⟩)
    (c__is_wish : PySem.W.codeIn K cd__is_wish "_is_wish" = true)
    (k__is_wish : PySem.W.keepIn K (.ref f__is_wish) = true)
    (a__is_rising : PySem.W.nsIn K mainGlobals "_is_rising" = some (some (.ref f__is_rising)))
    (l__is_rising : K.lookup f__is_rising = some ⟨oc__is_rising, od__is_rising, .func (PySem.W.fnOf "_is_rising" "_is_rising" (defArgs s__is_rising) (defBody s__is_rising) (defScope s__is_rising) .none kV__is_rising dc__is_rising pm__is_rising an__is_rising cd__is_rising ct__is_rising), sl__is_rising⟩)
    (c__is_rising : PySem.W.codeIn K cd__is_rising "_is_rising" = true)
    (k__is_rising : PySem.W.keepIn K (.ref f__is_rising) = true)
    (a__law_taken : PySem.W.nsIn K mainGlobals "_law_taken" = some (some (.ref f__law_taken)))
    (l__law_taken : K.lookup f__law_taken = some ⟨oc__law_taken, od__law_taken, .func (PySem.W.fnOf "_law_taken" "_law_taken" (defArgs s__law_taken) (defBody s__law_taken) (defScope s__law_taken) .none kV__law_taken dc__law_taken pm__law_taken an__law_taken cd__law_taken ct__law_taken), sl__law_taken⟩)
    (c__law_taken : PySem.W.codeIn K cd__law_taken "_law_taken" = true)
    (k__law_taken : PySem.W.keepIn K (.ref f__law_taken) = true)
    (a__law_wish : PySem.W.nsIn K mainGlobals "_law_wish" = some (some (.ref f__law_wish)))
    (l__law_wish : K.lookup f__law_wish = some ⟨oc__law_wish, od__law_wish, .func (PySem.W.fnOf "_law_wish" "_law_wish" (defArgs s__law_wish) (defBody s__law_wish) (defScope s__law_wish) .none kV__law_wish dc__law_wish pm__law_wish an__law_wish cd__law_wish ct__law_wish), sl__law_wish⟩)
    (c__law_wish : PySem.W.codeIn K cd__law_wish "_law_wish" = true)
    (k__law_wish : PySem.W.keepIn K (.ref f__law_wish) = true)
    (a__law_store : PySem.W.nsIn K mainGlobals "_law_store" = some (some (.ref f__law_store)))
    (l__law_store : K.lookup f__law_store = some ⟨oc__law_store, od__law_store, .func (PySem.W.fnOf "_law_store" "_law_store" (defArgs s__law_store) (defBody s__law_store) (defScope s__law_store) .none kV__law_store dc__law_store pm__law_store an__law_store cd__law_store ct__law_store), sl__law_store⟩)
    (c__law_store : PySem.W.codeIn K cd__law_store "_law_store" = true)
    (k__law_store : PySem.W.keepIn K (.ref f__law_store) = true)
    (a__law_made : PySem.W.nsIn K mainGlobals "_law_made" = some (some (.ref f__law_made)))
    (l__law_made : K.lookup f__law_made = some ⟨oc__law_made, od__law_made, .func (PySem.W.fnOf "_law_made" "_law_made" (defArgs s__law_made) (defBody s__law_made) (defScope s__law_made) .none kV__law_made dc__law_made pm__law_made an__law_made cd__law_made ct__law_made), sl__law_made⟩)
    (c__law_made : PySem.W.codeIn K cd__law_made "_law_made" = true)
    (k__law_made : PySem.W.keepIn K (.ref f__law_made) = true)
    (a__law_refused : PySem.W.nsIn K mainGlobals "_law_refused" = some (some (.ref f__law_refused)))
    (l__law_refused : K.lookup f__law_refused = some ⟨oc__law_refused, od__law_refused, .func (PySem.W.fnOf "_law_refused" "_law_refused" (defArgs s__law_refused) (defBody s__law_refused) (defScope s__law_refused) .none kV__law_refused dc__law_refused pm__law_refused an__law_refused cd__law_refused ct__law_refused), sl__law_refused⟩)
    (c__law_refused : PySem.W.codeIn K cd__law_refused "_law_refused" = true)
    (k__law_refused : PySem.W.keepIn K (.ref f__law_refused) = true)
    (a__law_bad_wish : PySem.W.nsIn K mainGlobals "_law_bad_wish" = some (some (.ref f__law_bad_wish)))
    (l__law_bad_wish : K.lookup f__law_bad_wish = some ⟨oc__law_bad_wish, od__law_bad_wish, .func (PySem.W.fnOf "_law_bad_wish" "_law_bad_wish" (defArgs s__law_bad_wish) (defBody s__law_bad_wish) (defScope s__law_bad_wish) .none kV__law_bad_wish dc__law_bad_wish pm__law_bad_wish an__law_bad_wish cd__law_bad_wish ct__law_bad_wish), sl__law_bad_wish⟩)
    (c__law_bad_wish : PySem.W.codeIn K cd__law_bad_wish "_law_bad_wish" = true)
    (k__law_bad_wish : PySem.W.keepIn K (.ref f__law_bad_wish) = true)
    (a__law_wrong : PySem.W.nsIn K mainGlobals "_law_wrong" = some (some (.ref f__law_wrong)))
    (l__law_wrong : K.lookup f__law_wrong = some ⟨oc__law_wrong, od__law_wrong, .func (PySem.W.fnOf "_law_wrong" "_law_wrong" (defArgs s__law_wrong) (defBody s__law_wrong) (defScope s__law_wrong) .none kV__law_wrong dc__law_wrong pm__law_wrong an__law_wrong cd__law_wrong ct__law_wrong), sl__law_wrong⟩)
    (c__law_wrong : PySem.W.codeIn K cd__law_wrong "_law_wrong" = true)
    (k__law_wrong : PySem.W.keepIn K (.ref f__law_wrong) = true)
    (a_law : PySem.W.nsIn K mainGlobals "law" = some (some (.ref f_law)))
    (l_law : K.lookup f_law = some ⟨oc_law, od_law, .func (PySem.W.fnOf "law" "law" (defArgs s_law) (defBody s_law) (defScope s_law) .none kV_law dc_law pm_law an_law cd_law ct_law), sl_law⟩)
    (c_law : PySem.W.codeIn K cd_law "law" = true)
    (k_law : PySem.W.keepIn K (.ref f_law) = true)
    (pgC : PySem.W.plainGet K C Str.empty = true)
    (hdC : PySem.W.hasDictIn K C = true)
    (poC : PySem.W.plainOver K C = true)
    (saC : PySem.W.findIn K (.ref C) "__setattr__" = some (some (.builtin "object.__setattr__")))
    (mkC : PySem.W.makesIn K C = true)
    (kcC : PySem.W.keepIn K (.ref C) = true)
    (nS : PySem.W.findIn K (.ref C) "_shelves" = some none)
    (nW : PySem.W.findIn K (.ref C) "_wishes" = some none)
    (nA : PySem.W.findIn K (.ref C) "aisle" = some none)
    (z_len : PySem.W.nsIn K mainGlobals "len" = some none)
    (z_list : PySem.W.nsIn K mainGlobals "list" = some none)
    (z_tuple : PySem.W.nsIn K mainGlobals "tuple" = some none)
    (z_sorted : PySem.W.nsIn K mainGlobals "sorted" = some none)
    (z_sum : PySem.W.nsIn K mainGlobals "sum" = some none)
    (z_min : PySem.W.nsIn K mainGlobals "min" = some none)
    (z_max : PySem.W.nsIn K mainGlobals "max" = some none)
    (z_int : PySem.W.nsIn K mainGlobals "int" = some none)
    (z_range : PySem.W.nsIn K mainGlobals "range" = some none)
    (z_enumerate : PySem.W.nsIn K mainGlobals "enumerate" = some none)
    (z_isinstance : PySem.W.nsIn K mainGlobals "isinstance" = some none)
    (z_ValueError : PySem.W.nsIn K mainGlobals "ValueError" = some none)
    (c_MOST_SHELVES : PySem.W.nsIn K mainGlobals "MOST_SHELVES" = some (some (.int 5 t_MOST_SHELVES)))
    (c_MOST_ROOM : PySem.W.nsIn K mainGlobals "MOST_ROOM" = some (some (.int 9 t_MOST_ROOM)))
    (c_MOST_WISHES : PySem.W.nsIn K mainGlobals "MOST_WISHES" = some (some (.int 5 t_MOST_WISHES)))
    (c_MOST_KEEP : PySem.W.nsIn K mainGlobals "MOST_KEEP" = some (some (.int 3 t_MOST_KEEP)))
    (g_KINDS : PySem.W.nsIn K mainGlobals "KINDS" = some (some (.ref a_KINDS)))
    (l_KINDS : K.lookup a_KINDS = some ⟨.type "tuple", d_KINDS, .seq #[.str "fetch" tKINDS0, .str "bring" tKINDS1] n_KINDS, sl_KINDS⟩)
    (g_SIDES : PySem.W.nsIn K mainGlobals "SIDES" = some (some (.ref a_SIDES)))
    (l_SIDES : K.lookup a_SIDES = some ⟨.type "tuple", d_SIDES, .seq #[.str "left" tSIDES0, .str "right" tSIDES1, .str "any" tSIDES2] n_SIDES, sl_SIDES⟩)
    : ∃ fd : FuncData, (∀ (s : Shared) (v : Value), BindsTo s fd ⟨[v], []⟩ [("_law_script", v)]) ∧ ∀ base : Heap, K.In base → base.Ns mainGlobals mg → FnOk l.prog w K mg base CX0 9 fa fd ["_law_script"] (spLaw K) := by
  have e := hfa.symm.trans (PySem.W.mg_of X G a_law)
  cases e
  have F_BadStore___init__ := fun_mk (st := s_BadStore___init__) l_BadStore___init__ c_BadStore___init__ k_BadStore___init__
  have b_BadStore___init__ := F_BadStore___init__.binds (ps := ["self", "word", "number"]) fun _ _ _ _ _ _ us hl => match us, hl with | [_, _, _], _ => rfl
  have F_Store___init__ := fun_mk (st := s_Store___init__) l_Store___init__ c_Store___init__ k_Store___init__
  have b_Store___init__ := F_Store___init__.binds (ps := ["self", "shelves", "aisle", "wishes"]) fun _ _ _ _ _ _ us hl => match us, hl with | [_, _, _, _], _ => rfl
  have F_Store_shelves := fun_mk (st := s_Store_shelves) l_Store_shelves c_Store_shelves k_Store_shelves
  have b_Store_shelves := F_Store_shelves.binds (ps := ["self"]) fun _ _ _ _ _ _ us hl => match us, hl with | [_], _ => rfl
  have F_Store_wishes := fun_mk (st := s_Store_wishes) l_Store_wishes c_Store_wishes k_Store_wishes
  have b_Store_wishes := F_Store_wishes.binds (ps := ["self"]) fun _ _ _ _ _ _ us hl => match us, hl with | [_], _ => rfl
  have F__refuse_no_store := fun_mk (st := s__refuse_no_store) l__refuse_no_store c__refuse_no_store k__refuse_no_store
  have b__refuse_no_store := F__refuse_no_store.binds (ps := ["shelves", "aisle", "wishes"]) fun _ _ _ _ _ _ us hl => match us, hl with | [_, _, _], _ => rfl
  have D__refuse_no_store : Dfs K mg "_refuse_no_store" s__refuse_no_store ["shelves", "aisle", "wishes"] _ _ := ⟨F__refuse_no_store, PySem.W.mg_of X G a__refuse_no_store, b__refuse_no_store⟩
  have F__is_shelf := fun_mk (st := s__is_shelf) l__is_shelf c__is_shelf k__is_shelf
  have b__is_shelf := F__is_shelf.binds (ps := ["shelf"]) fun _ _ _ _ _ _ us hl => match us, hl with | [_], _ => rfl
  have D__is_shelf : Dfs K mg "_is_shelf" s__is_shelf ["shelf"] _ _ := ⟨F__is_shelf, PySem.W.mg_of X G a__is_shelf, b__is_shelf⟩
  have F__is_wish := fun_mk (st := s__is_wish) l__is_wish c__is_wish k__is_wish
  have b__is_wish := F__is_wish.binds (ps := ["wish", "many_shelves", "many_wishes"]) fun _ _ _ _ _ _ us hl => match us, hl with | [_, _, _], _ => rfl
  have D__is_wish : Dfs K mg "_is_wish" s__is_wish ["wish", "many_shelves", "many_wishes"] _ _ := ⟨F__is_wish, PySem.W.mg_of X G a__is_wish, b__is_wish⟩
  have F__is_rising := fun_mk (st := s__is_rising) l__is_rising c__is_rising k__is_rising
  have b__is_rising := F__is_rising.binds (ps := ["numbers", "many"]) fun _ _ _ _ _ _ us hl => match us, hl with | [_, _], _ => rfl
  have D__is_rising : Dfs K mg "_is_rising" s__is_rising ["numbers", "many"] _ _ := ⟨F__is_rising, PySem.W.mg_of X G a__is_rising, b__is_rising⟩
  have F__law_taken := fun_mk (st := s__law_taken) l__law_taken c__law_taken k__law_taken
  have b__law_taken := F__law_taken.binds (ps := ["_law_row", "_law_many"]) fun _ _ _ _ _ _ us hl => match us, hl with | [_, _], _ => rfl
  have D__law_taken : Dfs K mg "_law_taken" s__law_taken ["_law_row", "_law_many"] _ _ := ⟨F__law_taken, PySem.W.mg_of X G a__law_taken, b__law_taken⟩
  have F__law_wish := fun_mk (st := s__law_wish) l__law_wish c__law_wish k__law_wish
  have b__law_wish := F__law_wish.binds (ps := ["_law_row", "_law_shelves", "_law_many"]) fun _ _ _ _ _ _ us hl => match us, hl with | [_, _, _], _ => rfl
  have D__law_wish : Dfs K mg "_law_wish" s__law_wish ["_law_row", "_law_shelves", "_law_many"] _ _ := ⟨F__law_wish, PySem.W.mg_of X G a__law_wish, b__law_wish⟩
  have F__law_store := fun_mk (st := s__law_store) l__law_store c__law_store k__law_store
  have b__law_store := F__law_store.binds (ps := ["_law_row"]) fun _ _ _ _ _ _ us hl => match us, hl with | [_], _ => rfl
  have D__law_store : Dfs K mg "_law_store" s__law_store ["_law_row"] _ _ := ⟨F__law_store, PySem.W.mg_of X G a__law_store, b__law_store⟩
  have F__law_made := fun_mk (st := s__law_made) l__law_made c__law_made k__law_made
  have b__law_made := F__law_made.binds (ps := ["_law_store_here"]) fun _ _ _ _ _ _ us hl => match us, hl with | [_], _ => rfl
  have D__law_made : Dfs K mg "_law_made" s__law_made ["_law_store_here"] _ _ := ⟨F__law_made, PySem.W.mg_of X G a__law_made, b__law_made⟩
  have F__law_refused := fun_mk (st := s__law_refused) l__law_refused c__law_refused k__law_refused
  have b__law_refused := F__law_refused.binds (ps := ["_law_store_here"]) fun _ _ _ _ _ _ us hl => match us, hl with | [_], _ => rfl
  have D__law_refused : Dfs K mg "_law_refused" s__law_refused ["_law_store_here"] _ _ := ⟨F__law_refused, PySem.W.mg_of X G a__law_refused, b__law_refused⟩
  have F__law_bad_wish := fun_mk (st := s__law_bad_wish) l__law_bad_wish c__law_bad_wish k__law_bad_wish
  have b__law_bad_wish := F__law_bad_wish.binds (ps := ["_law_row", "_law_shelves", "_law_many"]) fun _ _ _ _ _ _ us hl => match us, hl with | [_, _, _], _ => rfl
  have D__law_bad_wish : Dfs K mg "_law_bad_wish" s__law_bad_wish ["_law_row", "_law_shelves", "_law_many"] _ _ := ⟨F__law_bad_wish, PySem.W.mg_of X G a__law_bad_wish, b__law_bad_wish⟩
  have F__law_wrong := fun_mk (st := s__law_wrong) l__law_wrong c__law_wrong k__law_wrong
  have b__law_wrong := F__law_wrong.binds (ps := ["_law_row", "_law_store_here"]) fun _ _ _ _ _ _ us hl => match us, hl with | [_, _], _ => rfl
  have D__law_wrong : Dfs K mg "_law_wrong" s__law_wrong ["_law_row", "_law_store_here"] _ _ := ⟨F__law_wrong, PySem.W.mg_of X G a__law_wrong, b__law_wrong⟩
  have F_law := fun_mk (st := s_law) l_law c_law k_law
  have b_law := F_law.binds (ps := ["_law_script"]) fun _ _ _ _ _ _ us hl => match us, hl with | [_], _ => rfl
  have D_law : Dfs K mg "law" s_law ["_law_script"] _ _ := ⟨F_law, PySem.W.mg_of X G a_law, b_law⟩
  have T : Tx K mg := ⟨PySem.W.mg_none_of X G z_len, PySem.W.mg_none_of X G z_list, PySem.W.mg_none_of X G z_tuple, PySem.W.mg_none_of X G z_sorted, PySem.W.mg_none_of X G z_sum, PySem.W.mg_none_of X G z_min, PySem.W.mg_none_of X G z_max, PySem.W.mg_none_of X G z_int, PySem.W.mg_none_of X G z_range, PySem.W.mg_none_of X G z_enumerate, PySem.W.mg_none_of X G z_isinstance, PySem.W.mg_none_of X G z_ValueError⟩
  have Tk : Tc K mg := ⟨⟨_, PySem.W.mg_of X G c_MOST_SHELVES⟩, ⟨_, PySem.W.mg_of X G c_MOST_ROOM⟩, ⟨_, PySem.W.mg_of X G c_MOST_WISHES⟩, ⟨_, PySem.W.mg_of X G c_MOST_KEEP⟩, ⟨_, PySem.W.mg_of X G g_KINDS, wr_tup (xs := [.str "fetch", .str "bring"]) l_KINDS (by simp) (.cons ⟨_, rfl⟩ (.cons ⟨_, rfl⟩ .nil))⟩, ⟨_, PySem.W.mg_of X G g_SIDES, wr_tup (xs := [.str "left", .str "right", .str "any"]) l_SIDES (by simp) (.cons ⟨_, rfl⟩ (.cons ⟨_, rfl⟩ (.cons ⟨_, rfl⟩ .nil)))⟩⟩
  have TS : TSx K mg C f_Store___init__ f_Store_shelves f_Store_wishes _ _ _ := ⟨⟨pgC, hdC, poC, saC⟩, ⟨mkC, a_Store___init__, i_Store___init__, kcC⟩, PySem.W.mg_of X G aC, nS, nW, nA, ⟨a_Store_shelves, i_Store_shelves, k_Store_shelves⟩, ⟨a_Store_wishes, i_Store_wishes, k_Store_wishes⟩, b_Store___init__, b_Store_shelves, b_Store_wishes⟩
  have Kn : Kin K mg cA cB cS cT cR := ⟨⟨PySem.W.mg_of X G g_AisleError, kp_AisleError, ex_AisleError, ty_AisleError, is_AisleError⟩, ⟨PySem.W.mg_of X G g_BadStore, kp_BadStore, ex_BadStore, ty_BadStore, is_BadStore⟩, ⟨PySem.W.mg_of X G g_BadStep, kp_BadStep, ex_BadStep, ty_BadStep, is_BadStep⟩, ⟨PySem.W.mg_of X G g_BadText, kp_BadText, ex_BadText, ty_BadText, is_BadText⟩, ⟨PySem.W.mg_of X G g_Barred, kp_Barred, ex_Barred, ty_Barred, is_Barred⟩⟩
  have KB : KinB K cA cB cS cT cR := ⟨subBA, subBB, subBS, subBT, subBR, subBV⟩
  have N_BadStore := Kn.B
  refine ⟨PySem.W.fnOf "law" "law" (defArgs s_law) (defBody s_law) (defScope s_law) .none kV_law dc_law pm_law an_law cd_law ct_law, fun s v => .of_eq rfl, fun base _ _ => ?_⟩
  have G_BadStore_init := ok_BadStore_init (P := l.prog) (w := w) (base := base) (mg := mg) (F := F_BadStore___init__) (n1 := xn0BadStore) (n2 := xn1BadStore)
  have X_BadStore : Xi2 l.prog w K mg base cB f_BadStore___init__ _ "word" "number" (spX2 K cB "word" "number") := ⟨⟨⟨nmBadStore, qBadStore, NBadStore, bsBadStore, _, snBadStore, sbBadStore, abBadStore, coBadStore, ddBadStore, m0BadStore, m1BadStore, m2BadStore, m3BadStore, m5BadStore, xLBadStore, by first | rfl | with_unfolding_all rfl⟩, xsBadStore, ex_BadStore, ty_BadStore, kp_BadStore⟩, ⟨is_BadStore, xgBadStore, xkBadStore, ex_BadStore, xdBadStore, xcBadStore, xsp, xtk, xmBadStore⟩, a_BadStore___init__, i_BadStore___init__, xn0BadStore, xn1BadStore, b_BadStore___init__, G_BadStore_init⟩
  have C__law_taken := ok__law_taken (P := l.prog) (w := w) (base := base) (D := D__law_taken) (T := T)
  have C__law_wish := ok__law_wish (P := l.prog) (w := w) (base := base) (D := D__law_wish) (T := T) (C__law_taken := C__law_taken)
  have C__law_store := ok__law_store (P := l.prog) (w := w) (base := base) (D := D__law_store) (T := T) (C__law_taken := C__law_taken) (C__law_wish := C__law_wish)
  have C__is_rising := ok__is_rising (P := l.prog) (w := w) (base := base) (D := D__is_rising)
  have C__is_shelf := ok__is_shelf (P := l.prog) (w := w) (base := base) (D := D__is_shelf) (T := T) (Tk := Tk)
  have C__is_wish := ok__is_wish (P := l.prog) (w := w) (base := base) (D := D__is_wish) (T := T) (Tk := Tk) (C__is_rising := C__is_rising)
  have C__refuse_no_store := ok__refuse_no_store (P := l.prog) (w := w) (base := base) (D := D__refuse_no_store) (T := T) (Tk := Tk) (X_BadStore := X_BadStore) (N_BadStore := N_BadStore) (C__is_shelf := C__is_shelf) (C__is_wish := C__is_wish)
  have G_init := ok_Store_init (P := l.prog) (w := w) (base := base) (F := F_Store___init__) (T := T) (TS := TS) (C__refuse_no_store := C__refuse_no_store)
  have G_shelves := ok_Store_shelves (P := l.prog) (w := w) (base := base) (F := F_Store_shelves) (T := T) (TS := TS)
  have G_wishes := ok_Store_wishes (P := l.prog) (w := w) (base := base) (F := F_Store_wishes) (T := T) (TS := TS)
  have C__law_made := ok__law_made (P := l.prog) (w := w) (base := base) (D := D__law_made) (T := T) (TS := TS) (G_init := G_init)
  have C__law_refused := ok__law_refused (P := l.prog) (w := w) (base := base) (D := D__law_refused) (T := T) (Kn := Kn) (KB := KB) (X_BadStore := X_BadStore) (C__law_made := C__law_made)
  have C_fetch := ok_fetch 
  have C_bring := ok_bring 
  have C_left := ok_left 
  have C_right := ok_right 
  have C_any := ok_any 
  have C__law_bad_wish := ok__law_bad_wish (P := l.prog) (w := w) (base := base) (D := D__law_bad_wish) (T := T) (C__law_taken := C__law_taken)
  have C_wshelves := ok_wshelves 
  have C_wshelf := ok_wshelf 
  have C_waisle := ok_waisle 
  have C_wwishes := ok_wwishes 
  have C_wwish := ok_wwish 
  have C__law_wrong := ok__law_wrong (P := l.prog) (w := w) (base := base) (D := D__law_wrong) (T := T) (C__law_taken := C__law_taken) (C__law_bad_wish := C__law_bad_wish)
  exact ok_law (P := l.prog) (w := w) (base := base) (D := D_law) (T := T) (TS := TS) (G_init := G_init) (G_shelves := G_shelves) (G_wishes := G_wishes) (C__law_store := C__law_store) (C__law_wrong := C__law_wrong) (C__law_refused := C__law_refused)
end Ais
open PySem PySem.W PyProof.Rows
set_option maxRecDepth 100000 in
set_option maxHeartbeats 0 in
theorem PySem.Challenge.cw_aisleshift_k11_stores_refused_holds : PySem.Challenge.rw_aisleshift_k11_stores_refused.Holds := by
  w_on; o_law; k_head; (case hw => w_witness2)
  k_fill
  refine L2.walk_of (l := PySem.Challenge.rw_aisleshift_k11_stores_refused) (n := 63) (k := 9) (x := "_law_script") (CX := fun _ => L2.CX0) (sp := fun w => Ais.spLaw _) rfl (by decide) rfl ⟨rfl, by decide, by decide⟩ (fun w h Y => PySem.W.kIn_of Y) ?F (fun _ _ a ns hl _ hS => ⟨a, ns, rfl, hS, hl, fun _ => rfl⟩) (fun _ _ _ _ _ h => h)
  case F =>
    intro w mg fa h KX G hmg
    refine' Ais.all_mk KX G hmg ?aC ?g_AisleError ?kp_AisleError ?ex_AisleError ?ty_AisleError ?is_AisleError ?g_BadStore ?kp_BadStore ?ex_BadStore ?ty_BadStore ?is_BadStore ?g_BadStep ?kp_BadStep ?ex_BadStep ?ty_BadStep ?is_BadStep ?g_BadText ?kp_BadText ?ex_BadText ?ty_BadText ?is_BadText ?g_Barred ?kp_Barred ?ex_Barred ?ty_Barred ?is_Barred ?subBA ?subBB ?subBS ?subBT ?subBR ?subBV ?xsp ?xtk ?xLBadStore ?xsBadStore ?xgBadStore ?xkBadStore ?xdBadStore ?xcBadStore ?xmBadStore ?xn0BadStore ?xn1BadStore ?a_BadStore___init__ ?i_BadStore___init__ ?l_BadStore___init__ ?c_BadStore___init__ ?k_BadStore___init__ ?a_Store___init__ ?i_Store___init__ ?l_Store___init__ ?c_Store___init__ ?k_Store___init__ ?a_Store_shelves ?i_Store_shelves ?l_Store_shelves ?c_Store_shelves ?k_Store_shelves ?a_Store_wishes ?i_Store_wishes ?l_Store_wishes ?c_Store_wishes ?k_Store_wishes ?a__refuse_no_store ?l__refuse_no_store ?c__refuse_no_store ?k__refuse_no_store ?a__is_shelf ?l__is_shelf ?c__is_shelf ?k__is_shelf ?a__is_wish ?l__is_wish ?c__is_wish ?k__is_wish ?a__is_rising ?l__is_rising ?c__is_rising ?k__is_rising ?a__law_taken ?l__law_taken ?c__law_taken ?k__law_taken ?a__law_wish ?l__law_wish ?c__law_wish ?k__law_wish ?a__law_store ?l__law_store ?c__law_store ?k__law_store ?a__law_made ?l__law_made ?c__law_made ?k__law_made ?a__law_refused ?l__law_refused ?c__law_refused ?k__law_refused ?a__law_bad_wish ?l__law_bad_wish ?c__law_bad_wish ?k__law_bad_wish ?a__law_wrong ?l__law_wrong ?c__law_wrong ?k__law_wrong ?a_law ?l_law ?c_law ?k_law ?pgC ?hdC ?poC ?saC ?mkC ?kcC ?nS ?nW ?nA ?z_len ?z_list ?z_tuple ?z_sorted ?z_sum ?z_min ?z_max ?z_int ?z_range ?z_enumerate ?z_isinstance ?z_ValueError ?c_MOST_SHELVES ?c_MOST_ROOM ?c_MOST_WISHES ?c_MOST_KEEP ?g_KINDS ?l_KINDS ?g_SIDES ?l_SIDES
    (case aC => k_is)
    (case g_AisleError => k_is)
    (case kp_AisleError => k_is)
    (case ex_AisleError => k_is)
    (case ty_AisleError => k_is)
    (case is_AisleError => k_is)
    (case g_BadStore => k_is)
    (case kp_BadStore => k_is)
    (case ex_BadStore => k_is)
    (case ty_BadStore => k_is)
    (case is_BadStore => k_is)
    (case g_BadStep => k_is)
    (case kp_BadStep => k_is)
    (case ex_BadStep => k_is)
    (case ty_BadStep => k_is)
    (case is_BadStep => k_is)
    (case g_BadText => k_is)
    (case kp_BadText => k_is)
    (case ex_BadText => k_is)
    (case ty_BadText => k_is)
    (case is_BadText => k_is)
    (case g_Barred => k_is)
    (case kp_Barred => k_is)
    (case ex_Barred => k_is)
    (case ty_Barred => k_is)
    (case is_Barred => k_is)
    (case subBA => k_is)
    (case subBB => k_is)
    (case subBS => k_is)
    (case subBT => k_is)
    (case subBR => k_is)
    (case subBV => k_is)
    (case xsp => k_is)
    (case xtk => k_is)
    (case xLBadStore => k_is)
    (case xsBadStore => k_is)
    (case xgBadStore => k_is)
    (case xkBadStore => k_is)
    (case xdBadStore => k_is)
    (case xcBadStore => k_is)
    (case xmBadStore => k_is)
    (case xn0BadStore => k_is)
    (case xn1BadStore => k_is)
    (case a_BadStore___init__ => k_is)
    (case i_BadStore___init__ => k_is)
    (case l_BadStore___init__ => k_is)
    (case c_BadStore___init__ => k_is)
    (case k_BadStore___init__ => k_is)
    (case a_Store___init__ => k_is)
    (case i_Store___init__ => k_is)
    (case l_Store___init__ => k_is)
    (case c_Store___init__ => k_is)
    (case k_Store___init__ => k_is)
    (case a_Store_shelves => k_is)
    (case i_Store_shelves => k_is)
    (case l_Store_shelves => k_is)
    (case c_Store_shelves => k_is)
    (case k_Store_shelves => k_is)
    (case a_Store_wishes => k_is)
    (case i_Store_wishes => k_is)
    (case l_Store_wishes => k_is)
    (case c_Store_wishes => k_is)
    (case k_Store_wishes => k_is)
    (case a__refuse_no_store => k_is)
    (case l__refuse_no_store => k_is)
    (case c__refuse_no_store => k_is)
    (case k__refuse_no_store => k_is)
    (case a__is_shelf => k_is)
    (case l__is_shelf => k_is)
    (case c__is_shelf => k_is)
    (case k__is_shelf => k_is)
    (case a__is_wish => k_is)
    (case l__is_wish => k_is)
    (case c__is_wish => k_is)
    (case k__is_wish => k_is)
    (case a__is_rising => k_is)
    (case l__is_rising => k_is)
    (case c__is_rising => k_is)
    (case k__is_rising => k_is)
    (case a__law_taken => k_is)
    (case l__law_taken => k_is)
    (case c__law_taken => k_is)
    (case k__law_taken => k_is)
    (case a__law_wish => k_is)
    (case l__law_wish => k_is)
    (case c__law_wish => k_is)
    (case k__law_wish => k_is)
    (case a__law_store => k_is)
    (case l__law_store => k_is)
    (case c__law_store => k_is)
    (case k__law_store => k_is)
    (case a__law_made => k_is)
    (case l__law_made => k_is)
    (case c__law_made => k_is)
    (case k__law_made => k_is)
    (case a__law_refused => k_is)
    (case l__law_refused => k_is)
    (case c__law_refused => k_is)
    (case k__law_refused => k_is)
    (case a__law_bad_wish => k_is)
    (case l__law_bad_wish => k_is)
    (case c__law_bad_wish => k_is)
    (case k__law_bad_wish => k_is)
    (case a__law_wrong => k_is)
    (case l__law_wrong => k_is)
    (case c__law_wrong => k_is)
    (case k__law_wrong => k_is)
    (case a_law => k_is)
    (case l_law => k_is)
    (case c_law => k_is)
    (case k_law => k_is)
    (case pgC => k_is)
    (case hdC => k_is)
    (case poC => k_is)
    (case saC => k_is)
    (case mkC => k_is)
    (case kcC => k_is)
    (case nS => k_is)
    (case nW => k_is)
    (case nA => k_is)
    (case z_len => k_is)
    (case z_list => k_is)
    (case z_tuple => k_is)
    (case z_sorted => k_is)
    (case z_sum => k_is)
    (case z_min => k_is)
    (case z_max => k_is)
    (case z_int => k_is)
    (case z_range => k_is)
    (case z_enumerate => k_is)
    (case z_isinstance => k_is)
    (case z_ValueError => k_is)
    (case c_MOST_SHELVES => k_is)
    (case c_MOST_ROOM => k_is)
    (case c_MOST_WISHES => k_is)
    (case c_MOST_KEEP => k_is)
    (case g_KINDS => k_is)
    (case l_KINDS => k_is)
    (case g_SIDES => k_is)
    (case l_SIDES => k_is)
#print axioms PySem.Challenge.cw_aisleshift_k11_stores_refused_holds
