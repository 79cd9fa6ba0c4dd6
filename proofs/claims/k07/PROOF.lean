import PyProof.Rows.All
import Wide.All
import OpenK.AllK
import Wide.FinOn
import HandS.ForMost
import HandS.IsInst
import HandS.Deep
import HandS.TupAny
import HandS.Star
import HandS.Codes
import HandS.SetFor
import HandS.ExcInit
import HandS.ExcField
import HandS.WordsExc
import KE.KExcIs
import HandS.TupMul
import HandS.FStr
import HandS.FStrTup
import HandS.RaiseMore
import HandS.Nested
import HandS.EndOwn
import PySem.Challenge.RW_aisleshift_k07_plans_played
set_option Elab.async false
set_option linter.all false
set_option maxRecDepth 100000
set_option maxHeartbeats 4000000
namespace Ais
open PySem PySem.Spec PyProof.Rows L2

/-- a def that keeps a promise, as its callers use it -/
structure Cal (P : Program) (w : World) (K : PySem.W.Frag) (mg : Str → Option Value) (base : Heap) (k : Nat) (x : Str) (ps : List Str) (sp : Sp) (f : Addr) (fd : FuncData) : Prop where
  G : FnOk P w K mg base CX0 k f fd ps sp
  g : mg x = some (.ref f)
  kp : PySem.W.keepIn K (.ref f) = true
  b : Binds K fd ps []
/-- a def as it stands in the text -/
structure Dfs (K : PySem.W.Frag) (mg : Str → Option Value) (x : Str) (st : Stmt) (ps : List Str) (f : Addr) (fd : FuncData) : Prop where
  F : Fun K x x st f fd
  g : mg x = some (.ref f)
  b : Binds K fd ps []
theorem Dfs.cal {P : Program} {w : World} {K : PySem.W.Frag} {mg : Str → Option Value} {base : Heap} {k : Nat} {x : Str} {ps : List Str} {sp : Sp} {f : Addr} {fd : FuncData} {st : Stmt} (D : Dfs K mg x st ps f fd) (G : FnOk P w K mg base CX0 k f fd ps sp) : Cal P w K mg base k x ps sp f fd := ⟨G, D.g, D.F.kp, D.b⟩

/-! ### heaps -/
theorem Same.new {B H : Hp} {p : Addr} {o : HO} (s : Same B H) (h : H p = none) : Same B (upd H p o) := fun b u e => by
  have e' := s b u e
  rw [upd_ne (ne_of_none e' h)]
  exact e'
theorem Same.grow {B H : Hp} {p : Addr} {o : HO} (s : Same B H) (h : H p = none) : Same (upd B p o) (upd H p o) := fun b u e => by
  by_cases hb : b = p
  · subst hb
    rw [upd_same] at e ⊢
    exact e
  · rw [upd_ne hb] at e ⊢
    exact s b u e
theorem Same.add {B H : Hp} {p : Addr} {o : HO} (s : Same B H) (h : H p = some o) : Same (upd B p o) H := fun b u e => by
  by_cases hb : b = p
  · subst hb
    rw [upd_same] at e
    rw [h]
    exact e
  · rw [upd_ne hb] at e
    exact s b u e
theorem Same.put {B H : Hp} {p : Addr} {o : HO} (s : Same B H) (h : B p = none) : Same B (upd H p o) := fun b u e => by
  rw [upd_ne (ne_of_none e h)]
  exact s b u e
theorem same_new {H : Hp} {p : Addr} {o : HO} (h : H p = none) : Same H (upd H p o) := Same.new (Same.refl H) h
theorem Same.rd {H H' : Hp} {a : Addr} {u : HO} (s : Same H H') (h : Rd H a u) : Rd H' a u := by
  rcases h with h | ⟨o, h⟩
  · exact .inl (s _ _ h)
  · exact .inr ⟨o, s _ _ h⟩
theorem Same.l {K : PySem.W.Frag} {H H' : Hp} {a : Addr} {xs : List V} (s : Same H H') (h : SqL K H a xs) : SqL K H' a xs := s.seq h
theorem Same.t {K : PySem.W.Frag} {H H' : Hp} {a : Addr} {xs : List V} (s : Same H H') (h : SqT K H a xs) : SqT K H' a xs := by
  rcases h with h | h
  · exact .inl (Same.rd s h)
  · exact .inr h
theorem tup_new {K : PySem.W.Frag} {H : Hp} {p : Addr} {xs : List V} : SqT K (upd H p (.tup xs)) p xs := SqT.of upd_same
theorem lst_new {K : PySem.W.Frag} {H : Hp} {p : Addr} {xs : List V} : SqL K (upd H p (.lst xs)) p xs := SqL.of upd_same

/-! ### data -/
mutual
theorem dp_mono {K : PySem.W.Frag} {H H' : Hp} (s : Same H H') : ∀ {v : V} {d : PyData}, Dp K H v d → Dp K H' v d
  | _, _, .non => .non
  | _, _, .bl b => .bl b
  | _, _, .int i => .int i
  | _, _, .str x => .str x
  | _, _, .lst h r => .lst (Same.l s h) (dps_mono s r)
  | _, _, .tup h r => .tup (Same.t s h) (dps_mono s r)
theorem dps_mono {K : PySem.W.Frag} {H H' : Hp} (s : Same H H') : ∀ {vs : List V} {ds : List PyData}, DpAll K H vs ds → DpAll K H' vs ds
  | _, _, .nil => .nil
  | _, _, .cons h r => .cons (dp_mono s h) (dps_mono s r)
end
section
variable {K : PySem.W.Frag} {H : Hp} {v : V} {vs : List V}
theorem dp_int {i : Int} (h : Dp K H v (.int i)) : v = .int i := by cases h; rfl
theorem dp_str {i : Str} (h : Dp K H v (.str i)) : v = .str i := by cases h; rfl
theorem dp_none (h : Dp K H v .none) : v = .non := by cases h; rfl
theorem dp_bool {b : Bool} (h : Dp K H v (.bool b)) : v = .bl b := by cases h; rfl
theorem dp_tup {ds : List PyData} (h : Dp K H v (.tuple ds)) : ∃ a xs, v = .ref a ∧ SqT K H a xs ∧ DpAll K H xs ds := by
  cases h with
  | tup a b => exact ⟨_, _, rfl, a, b⟩
theorem dp_lst {ds : List PyData} (h : Dp K H v (.list ds)) : ∃ a xs, v = .ref a ∧ SqL K H a xs ∧ DpAll K H xs ds := by
  cases h with
  | lst a b => exact ⟨_, _, rfl, a, b⟩
theorem dps_nil (h : DpAll K H vs []) : vs = [] := by cases h; rfl
theorem dps_cons {d : PyData} {ds : List PyData} (h : DpAll K H vs (d :: ds)) : ∃ x r, vs = x :: r ∧ Dp K H x d ∧ DpAll K H r ds := by
  cases h with
  | cons a b => exact ⟨_, _, rfl, a, b⟩
theorem dps_len {ds : List PyData} (h : DpAll K H vs ds) : vs.length = ds.length := by
  induction ds generalizing vs with
  | nil => rw [dps_nil h]; rfl
  | cons d ds ih =>
    obtain ⟨x, r, rfl, _, hr⟩ := dps_cons h
    rw [List.length_cons, List.length_cons, ih hr]
theorem dps_get {ds : List PyData} (h : DpAll K H vs ds) {i : Nat} {d : PyData} (e : ds[i]? = some d) : ∃ x, vs[i]? = some x ∧ Dp K H x d := by
  induction ds generalizing vs i with
  | nil => simp at e
  | cons d0 ds ih =>
    obtain ⟨x, r, rfl, h0, hr⟩ := dps_cons h
    cases i with
    | zero =>
      have e' : d0 = d := Option.some.inj e
      subst e'
      exact ⟨x, rfl, h0⟩
    | succ i => exact ih hr e
theorem dps_of_get {ds : List PyData} (h : DpAll K H vs ds) {i : Nat} {x : V} (e : vs[i]? = some x) : ∃ d, ds[i]? = some d ∧ Dp K H x d := by
  induction ds generalizing vs i with
  | nil =>
    rw [dps_nil h] at e
    simp at e
  | cons d0 ds ih =>
    obtain ⟨y, r, rfl, h0, hr⟩ := dps_cons h
    cases i with
    | zero =>
      have e' : y = x := Option.some.inj e
      subst e'
      exact ⟨d0, rfl, h0⟩
    | succ i => exact ih hr e
theorem dps_app {us : List V} {ds es : List PyData} (h : DpAll K H vs ds) (g : DpAll K H us es) : DpAll K H (vs ++ us) (ds ++ es) := by
  induction ds generalizing vs with
  | nil =>
    rw [dps_nil h]
    exact g
  | cons d ds ih =>
    obtain ⟨x, r, rfl, h0, hr⟩ := dps_cons h
    exact .cons h0 (ih hr)
theorem dps_take {ds : List PyData} (h : DpAll K H vs ds) (n : Nat) : DpAll K H (vs.take n) (ds.take n) := by
  induction ds generalizing vs n with
  | nil =>
    rw [dps_nil h]
    simp only [List.take_nil]
    exact .nil
  | cons d ds ih =>
    obtain ⟨x, r, rfl, h0, hr⟩ := dps_cons h
    cases n with
    | zero => exact .nil
    | succ n => exact .cons h0 (ih hr n)
end
def dints (l : List Int) : List PyData := l.map .int
theorem dps_ints {K : PySem.W.Frag} {H : Hp} {vs : List V} {l : List Int} (h : DpAll K H vs (dints l)) : vs = l.map V.int := by
  induction l generalizing vs with
  | nil => exact dps_nil h
  | cons i l ih =>
    obtain ⟨x, r, rfl, h0, hr⟩ := dps_cons h
    rw [dp_int h0, ih hr]
    rfl
theorem ints_dps {K : PySem.W.Frag} {H : Hp} : ∀ l : List Int, DpAll K H (l.map V.int) (dints l)
  | [] => .nil
  | i :: l => .cons (.int i) (ints_dps l)
theorem dp_ints {K : PySem.W.Frag} {H : Hp} {v : V} {l : List Int} (h : Dp K H v (.tuple (dints l))) : ∃ a, v = .ref a ∧ SqT K H a (l.map V.int) := by
  obtain ⟨a, xs, rfl, h1, h2⟩ := dp_tup h
  rw [dps_ints h2] at h1
  exact ⟨a, rfl, h1⟩

/-! ### rules with the written part named (within a comprehension the context is another one, over the same) -/
section
variable {X : Cx} {K : PySem.W.Frag}
theorem kix_list (h : X.K = K := by rfl) : IxR X (rIxL K) := by subst h; exact ix_list
theorem kix_tup (h : X.K = K := by rfl) : IxR X (rIxT K) := by subst h; exact ix_tup
theorem ksl_list (h : X.K = K := by rfl) : SlR X (rSlL K) := by subst h; exact sl_list
theorem ksl_tup (h : X.K = K := by rfl) : SlR X (rSlT K) := by subst h; exact sl_tup
theorem kin_seq (h : X.K = K := by rfl) : OpR X (compareOp .In) (rIn K false) := by subst h; exact op_in_seq
theorem knotIn_seq (h : X.K = K := by rfl) : OpR X (compareOp .NotIn) (rIn K true) := by subst h; exact op_notIn_seq
theorem keqD (hu : X.A.units + 64 < cLine) (h : X.K = K := by rfl) : OpR X (compareOp .Eq) (rEqD K) := by subst h; exact op_eqD hu
theorem kneD (hu : X.A.units + 64 < cLine) (h : X.K = K := by rfl) : OpR X (compareOp .NotEq) (rNeD K) := by subst h; exact op_neD hu
theorem kinD (hu : X.A.units + 65 < cLine) (h : X.K = K := by rfl) : OpR X (compareOp .In) (rInD K) := by subst h; exact op_inD hu
theorem knotInD (hu : X.A.units + 65 < cLine) (h : X.K = K := by rfl) : OpR X (compareOp .NotIn) (rNotInD K) := by subst h; exact op_notInD hu
theorem kcatA (h : X.K = K := by rfl) : OpR X (binaryOp .Add) (rCatA K) := by subst h; exact op_catA
def rLen (K : PySem.W.Frag) : List V → Hp → VK → Prop := fun xs H Q => ∃ p ys, xs = [.ref p] ∧ (SqL K H p ys ∨ SqT K H p ys) ∧ Q (.int ys.length) H
def rListOf (K : PySem.W.Frag) : List V → Hp → VK → Prop := fun xs H Q => ∃ p ys, xs = [.ref p] ∧ (SqL K H p ys ∨ SqT K H p ys) ∧ ∀ l, H l = none → Q (.ref l) (upd H l (.lst ys))
def rTupleOf (K : PySem.W.Frag) : List V → Hp → VK → Prop := fun xs H Q => ∃ p ys, xs = [.ref p] ∧ ((SqL K H p ys ∧ ∀ l, H l = none → Q (.ref l) (upd H l (.tup ys))) ∨ (SqT K H p ys ∧ Q (.ref p) H))
theorem klen (h : X.K = K := by rfl) : CallR X (.builtin "len") (rLen K) := by subst h; exact call_len_seq
theorem klist_of (h : X.K = K := by rfl) : CallR X (.type "list") (rListOf K) := by subst h; exact call_list_of
theorem ktuple_of (h : X.K = K := by rfl) : CallR X (.type "tuple") (rTupleOf K) := by subst h; exact call_tuple_of
theorem ksorted (h : X.K = K := by rfl) : CallR X (.builtin "sorted") (rSorted K) := by subst h; exact cr_sorted
theorem ksum (hc : X.calm = true) (h : X.K = K := by rfl) : CallR X (.builtin "sum") (rSum K) := by subst h; exact cr_sum hc
theorem kmin (hc : X.calm = true) (h : X.K = K := by rfl) : CallR X (.builtin "min") (rMin K) := by subst h; exact cr_min hc
theorem klcount (h : X.K = K := by rfl) : MtR X "list.count" (rCntI K) := by subst h; exact mt_lcount
theorem kisi (h : X.K = K := by rfl) : CallR X (.builtin "isinstance") (rIsi K) := by subst h; exact call_isi
end

/-! ### tests whose answer is known -/
section
variable {c A B : Prop} [Decidable c]
theorem itD (hc : c) (h : A) : if decide c = true then A else B := by rw [decide_eq_true hc]; exact iteT h
theorem itF (hc : ¬ c) (h : B) : if decide c = true then A else B := by rw [decide_eq_false hc]; exact iteF h
theorem itnF (hc : ¬ c) (h : A) : if (!decide c) = true then A else B := by rw [decide_eq_false hc]; exact iteT h
theorem itB {b : Bool} (hc : b = true) (h : A) : if b = true then A else B := by rw [hc]; exact iteT h
theorem itBf {b : Bool} (hc : b = false) (h : B) : if b = true then A else B := by rw [hc]; exact iteF h
theorem itnB {b : Bool} (hc : b = true) (h : B) : if (!b) = true then A else B := by rw [hc]; exact iteF h
theorem itnBf {b : Bool} (hc : b = false) (h : A) : if (!b) = true then A else B := by rw [hc]; exact iteT h
end
theorem inV_ints {x : Int} {l : List Int} : inV (.int x) (l.map V.int) = true ↔ x ∈ l := by
  induction l with
  | nil => exact ⟨fun h => absurd (show false = true from h) (by decide), fun h => absurd h (by simp)⟩
  | cons y l ih =>
    rw [List.map_cons, List.mem_cons]
    show (eqV (.int y) (.int x) || inV (.int x) (l.map V.int)) = true ↔ _
    rw [Bool.or_eq_true, ih]
    have e : eqV (.int y) (.int x) = true ↔ x = y := ⟨fun h => (of_decide_eq_true h).symm, fun h => decide_eq_true h.symm⟩
    rw [e]
theorem inV_strs {x : Str} {l : List Str} : inV (.str x) (l.map V.str) = true ↔ x ∈ l := by
  induction l with
  | nil => exact ⟨fun h => absurd (show false = true from h) (by decide), fun h => absurd h (by simp)⟩
  | cons y l ih =>
    rw [List.map_cons, List.mem_cons]
    show (eqV (.str y) (.str x) || inV (.str x) (l.map V.str)) = true ↔ _
    rw [Bool.or_eq_true, ih]
    have e : eqV (.str y) (.str x) = true ↔ x = y := ⟨fun h => (of_decide_eq_true h).symm, fun h => decide_eq_true h.symm⟩
    rw [e]
theorem flat_ints (l : List Int) : (l.map V.int).all flatV = true := by
  induction l with
  | nil => rfl
  | cons y l ih => rw [List.map_cons, List.all_cons, ih]; rfl
/-- for i, x in enumerate(xs) -/
theorem for_enum {K : PySem.W.Frag} {a : Addr} {xs : List V} {g : TG} {tb : TS} {D : Ends} {σ : L2.St} {H : Hp} (Pv : Nat → L2.St → Hp → Prop) (h0 : Pv 0 σ H) (hl : ∀ i σ H, i ≤ xs.length → Pv i σ H → SqL K H a xs)
    (hs : ∀ i x σ H p, xs[i]? = some x → Pv i σ H → H p = none → g (.ref p) σ (upd H p (.tup [.int (i : Nat), x])) fun σ2 H2 => tb { D with nx := Pv (i + 1), ct := Pv (i + 1), bk := D.nx } σ2 H2)
    (hd : ∀ σ H, Pv xs.length σ H → D.nx σ H) :
    ∃ W : Nat → Nat → L2.St → Hp → Prop, (∃ m, W 0 m σ H) ∧ ∀ i m σ H, W i m σ H →
      ((Ite K a).stop i H ∧ D.nx σ H) ∨ ((Ite K a).go i H ∧ ∃ N : L2.St → Hp → Prop, (∀ σ' H', N σ' H' → ∃ m', m' < m ∧ W (i + 1) m' σ' H') ∧
        ∀ x H', (Ite K a).yld i H x H' → g x σ H' fun σ2 H2 => tb { D with nx := N, ct := N, bk := D.nx } σ2 H2) := by
  refine ⟨fun i m σ H => m + i = xs.length ∧ Pv i σ H, ⟨xs.length, Nat.add_zero _, h0⟩, fun i m σ H ⟨em, hp⟩ => ?_⟩
  have hS := hl i σ H (by omega) hp
  cases m with
  | zero =>
    have e : i = xs.length := by omega
    subst e
    exact .inl ⟨⟨xs, hS, Nat.le_refl _⟩, hd σ H hp⟩
  | succ m =>
    have hi : i < xs.length := by omega
    have hx := List.getElem?_eq_getElem hi
    refine .inr ⟨⟨xs, _, hS, hx⟩, Pv (i + 1), fun σ' H' h => ⟨m, Nat.lt_succ_self m, by omega, h⟩, ?_⟩
    rintro x H' ⟨p, y, rfl, np, rfl, hy⟩
    exact hs i y σ H p (hy xs hS) hp np

/-! ### a chain of three comparisons -/
def tChain3 (r1 r2 r3 : R2) (ta tb tc td : TE) : TE := fun σ H Q => ta σ H fun x H1 => tb σ H1 fun y H2 => r1 x y H2 fun z H3 => ∃ k, z = .bl k ∧
  if k = true then tc σ H3 fun x2 H4 => r2 y x2 H4 fun z2 H5 => ∃ k2, z2 = .bl k2 ∧ (if k2 = true then td σ H5 fun x3 H6 => r3 x2 x3 H6 Q else Q (.bl false) H5) else Q (.bl false) H3
theorem pe_chain3 {X : Cx} {a b c d : Expr} {pos : Pos} {ta tb tc td : TE} {o1 o2 o3 : CmpOp} {r1 r2 r3 : R2} (h1 : OpR X (compareOp o1) r1) (h2 : OpR X (compareOp o2) r2) (h3 : OpR X (compareOp o3) r3)
    (pa : PE X a ta) (pb : PE X b tb) (pc : PE X c tc) (pd : PE X d td) (hm : lastMarks [o1, o2, o3] [b, c, d] = false := by with_unfolding_all rfl) :
    PE X (.Compare a [o1, o2, o3] [b, c, d] pos) (tChain3 r1 r2 r3 ta tb tc td) := by
  refine ⟨fun pins s σ H Q I h => Compare_chain ?_ hm⟩
  refine thn (pa.run pins s σ H _ I h) fun va sa ⟨x, Ha, Ia, ra, qa⟩ => chain_link ?_
  refine thn (pb.run pins sa σ Ha _ Ia qa) fun vb sb ⟨y, Hb, Ib, rb, qb⟩ => ?_
  refine thn (h1 pins sb σ Hb x y va vb _ Ib ra rb qb) fun v1 s1 ⟨z, Hz, Iz, rz, k, ez, qz⟩ => ?_
  subst ez
  cases rz
  refine wpAny_truthy_bool ?_
  cases k with
  | false => exact (if_neg Bool.false_ne_true).mpr ⟨.bl false, Hz, Iz, rfl, (if_neg Bool.false_ne_true).mp qz⟩
  | true =>
    refine (if_pos rfl).mpr (chain_link ?_)
    refine thn (pc.run pins s1 σ Hz _ Iz ((if_pos rfl).mp qz)) fun vc sc ⟨x2, Hc, Ic, rc, qc⟩ => ?_
    refine thn (h2 pins sc σ Hc y x2 vb vc _ Ic rb rc qc) fun v2 s2 ⟨z2, Hy, Iy, ry, k2, ey, qy⟩ => ?_
    subst ey
    cases ry
    refine wpAny_truthy_bool ?_
    cases k2 with
    | false => exact (if_neg Bool.false_ne_true).mpr ⟨.bl false, Hy, Iy, rfl, (if_neg Bool.false_ne_true).mp qy⟩
    | true =>
      refine (if_pos rfl).mpr (chain_last ?_)
      refine thn (pd.run pins s2 σ Hy _ Iy ((if_pos rfl).mp qy)) fun vd sd ⟨x3, Hd, Id, rd, qd⟩ => ?_
      exact h3 pins sd σ Hd x2 x3 vc vd Q Id rc rd qd
theorem tyx_tup {K : PySem.W.Frag} {H : Hp} {a : Addr} {xs : List V} (h : SqT K H a xs) : TyX K H (.ref a) (.type "tuple") := by
  rcases h with (h | ⟨o, h⟩) | ⟨o, its, n, h1, h2, _⟩
  · exact .base (.tup h)
  · exact .fTuple h
  · exact .kTuple h1 h2
theorem isi_tup {K : PySem.W.Frag} {H : Hp} {a : Addr} {xs : List V} {Q : VK} (h : SqT K H a xs) (q : Q (.bl true) H) : rIsi K [.ref a, .ty "tuple"] H Q :=
  ⟨_, _, _, _, true, rfl, .ty "tuple", tyx_tup h, kit_ty (by decide +kernel), q⟩

/-! ### small words -/
theorem nod {p : Prop} [Decidable p] (h : ¬ decide p = true) : ¬ p := fun z => h (decide_eq_true z)
theorem yed {p : Prop} [Decidable p] (h : decide p = true) : p := of_decide_eq_true h
theorem atI_mem {xs : List V} {z : Int} (h0 : 0 ≤ z) (h1 : z < xs.length) : ∃ v, atI xs z = some v ∧ xs[z.toNat]? = some v ∧ v ∈ xs := by
  have hl : z.toNat < xs.length := by omega
  have e := List.getElem?_eq_getElem hl
  exact ⟨xs[z.toNat], at_of (j := z.toNat) (by omega) e, e, List.getElem_mem hl⟩
theorem b2z (b : Bool) : (0 : Int) ≤ (if b = true then 1 else 0) ∧ (if b = true then (1 : Int) else 0) < 2 := by
  cases b
  · exact ⟨by decide, by decide⟩
  · exact ⟨by decide, by decide⟩
theorem small {n : Nat} (h : n ≤ 1000) : n ≤ sizeLine := Nat.le_of_lt (small1000 h)

/-! ### stores -/
structure Shelf where
  room : Int
  has : Int
  sticks : Int
structure Wish where
  kind : Str
  shelf : Int
  side : Str
  crew : Int
  keep : Int
  after : List Int
structure Sto where
  shelves : List Shelf
  aisle : Int
  wishes : List Wish
def Shelf.d (s : Shelf) : PyData := .tuple [.int s.room, .int s.has, .int s.sticks]
def Wish.d (w : Wish) : PyData := .tuple [.str w.kind, .int w.shelf, .str w.side, .int w.crew, .int w.keep, .tuple (dints w.after)]
def dshelves (l : List Shelf) : List PyData := l.map Shelf.d
def dwishes (l : List Wish) : List PyData := l.map Wish.d
def Sto.d (s : Sto) : PyData := .tuple [.list (dshelves s.shelves), .int s.aisle, .list (dwishes s.wishes)]
/-- numbers that rise, from lo to below n -/
def Rising : Int → Int → List Int → Prop
  | _, _, [] => True
  | lo, n, i :: r => lo ≤ i ∧ i < n ∧ Rising (i + 1) n r
structure ShelfOk (s : Shelf) : Prop where
  h0 : 0 ≤ s.has
  h1 : s.has ≤ s.room
  h2 : s.room ≤ 9
  st : s.sticks = 0 ∨ s.sticks = 1
structure WishOk (n m : Int) (w : Wish) : Prop where
  kind : w.kind = "fetch" ∨ w.kind = "bring"
  s0 : 0 ≤ w.shelf
  s1 : w.shelf < n
  side : w.side = "left" ∨ w.side = "right" ∨ w.side = "any"
  crew : w.crew = 0 ∨ w.crew = 1
  k0 : 0 ≤ w.keep
  k3 : w.keep ≤ 3
  after : Rising 0 m w.after
structure StoOk (s : Sto) : Prop where
  n1 : 1 ≤ s.shelves.length
  n5 : s.shelves.length ≤ 5
  sh : ∀ x ∈ s.shelves, ShelfOk x
  a0 : 0 ≤ s.aisle
  a1 : s.aisle ≤ s.shelves.length
  w5 : s.wishes.length ≤ 5
  ws : ∀ x ∈ s.wishes, WishOk s.shelves.length s.wishes.length x
theorem Rising.more {lo n m : Int} {l : List Int} (h : n ≤ m) : Rising lo n l → Rising lo m l := by
  induction l generalizing lo with
  | nil => exact fun _ => trivial
  | cons i r ih =>
    rintro ⟨h1, h2, h3⟩
    exact ⟨h1, by omega, ih h3⟩
theorem Rising.take {lo n : Int} {l : List Int} (k : Nat) (h : Rising lo n l) : Rising lo n (l.take k) := by
  induction l generalizing lo k with
  | nil => simpa using h
  | cons i r ih =>
    obtain ⟨h1, h2, h3⟩ := h
    cases k with
    | zero => trivial
    | succ k => exact ⟨h1, h2, ih k h3⟩
theorem Rising.snoc {lo n i : Int} {l : List Int} (h : Rising lo i l) (h0 : lo ≤ i) (h1 : i < n) : Rising lo n (l ++ [i]) := by
  induction l generalizing lo with
  | nil => exact ⟨h0, h1, trivial⟩
  | cons j r ih =>
    obtain ⟨a, b, c⟩ := h
    exact ⟨a, by omega, ih c (by omega)⟩
theorem Rising.mem {lo n : Int} {l : List Int} (h : Rising lo n l) {i : Int} (m : i ∈ l) : lo ≤ i ∧ i < n := by
  induction l generalizing lo with
  | nil => simp at m
  | cons j r ih =>
    obtain ⟨a, b, c⟩ := h
    rcases List.mem_cons.mp m with rfl | m
    · exact ⟨a, b⟩
    · have := ih c m
      omega
section
variable {K : PySem.W.Frag} {H : Hp} {v : V}
theorem shelf_at {s : Shelf} (h : Dp K H v s.d) : ∃ a, v = .ref a ∧ SqT K H a [.int s.room, .int s.has, .int s.sticks] := by
  obtain ⟨a, xs, rfl, h1, h2⟩ := dp_tup h
  obtain ⟨x, r, rfl, e1, h2⟩ := dps_cons h2
  obtain ⟨y, r, rfl, e2, h2⟩ := dps_cons h2
  obtain ⟨z, r, rfl, e3, h2⟩ := dps_cons h2
  obtain rfl := dps_nil h2
  rw [dp_int e1, dp_int e2, dp_int e3] at h1
  exact ⟨a, rfl, h1⟩
theorem at_shelf {s : Shelf} {a : Addr} (h : SqT K H a [.int s.room, .int s.has, .int s.sticks]) : Dp K H (.ref a) s.d := .tup h (.cons (.int _) (.cons (.int _) (.cons (.int _) .nil)))
theorem wish_at {s : Wish} (h : Dp K H v s.d) : ∃ a t, v = .ref a ∧ SqT K H a [.str s.kind, .int s.shelf, .str s.side, .int s.crew, .int s.keep, .ref t] ∧ SqT K H t (s.after.map V.int) := by
  obtain ⟨a, xs, rfl, h1, h2⟩ := dp_tup h
  obtain ⟨x, r, rfl, e1, k3⟩ := dps_cons h2
  obtain ⟨x, r, rfl, e2, k4⟩ := dps_cons k3
  obtain ⟨x, r, rfl, e3, k5⟩ := dps_cons k4
  obtain ⟨x, r, rfl, e4, k6⟩ := dps_cons k5
  obtain ⟨x, r, rfl, e5, k7⟩ := dps_cons k6
  obtain ⟨x, r, rfl, e6, k8⟩ := dps_cons k7
  obtain ⟨t, rfl, ht⟩ := dp_ints e6
  obtain rfl := dps_nil k8
  rw [dp_str e1, dp_int e2, dp_str e3, dp_int e4, dp_int e5] at h1
  exact ⟨a, t, rfl, h1, ht⟩
theorem at_wish {s : Wish} {a t : Addr} (h : SqT K H a [.str s.kind, .int s.shelf, .str s.side, .int s.crew, .int s.keep, .ref t]) (g : SqT K H t (s.after.map V.int)) : Dp K H (.ref a) s.d :=
  .tup h (.cons (.str _) (.cons (.int _) (.cons (.str _) (.cons (.int _) (.cons (.int _) (.cons (.tup g (ints_dps _)) .nil))))))
/-- a store's tuple -/
structure StoAt (K : PySem.W.Frag) (H : Hp) (a l m : Addr) (xs ys : List V) (s : Sto) : Prop where
  t : SqT K H a [.ref l, .int s.aisle, .ref m]
  l : SqL K H l xs
  dx : DpAll K H xs (dshelves s.shelves)
  m : SqL K H m ys
  dy : DpAll K H ys (dwishes s.wishes)
theorem StoAt.mono {H' : Hp} {a l m : Addr} {xs ys : List V} {s : Sto} (e : Same H H') (h : StoAt K H a l m xs ys s) : StoAt K H' a l m xs ys s := ⟨Same.t e h.t, Same.l e h.l, dps_mono e h.dx, Same.l e h.m, dps_mono e h.dy⟩
theorem sto_at {s : Sto} (h : Dp K H v s.d) : ∃ a l m xs ys, v = .ref a ∧ StoAt K H a l m xs ys s := by
  obtain ⟨a, xs, rfl, h1, h2⟩ := dp_tup h
  obtain ⟨x, r, rfl, e1, k3⟩ := dps_cons h2
  obtain ⟨y, r, rfl, e2, k4⟩ := dps_cons k3
  obtain ⟨z, r, rfl, e3, k5⟩ := dps_cons k4
  obtain ⟨l, xs, rfl, hl, dl⟩ := dp_lst e1
  obtain ⟨m, ys, rfl, hm, dm⟩ := dp_lst e3
  obtain rfl := dps_nil k5
  rw [dp_int e2] at h1
  exact ⟨a, l, m, xs, ys, rfl, h1, hl, dl, hm, dm⟩
theorem StoAt.d {a l m : Addr} {xs ys : List V} {s : Sto} (h : StoAt K H a l m xs ys s) : Dp K H (.ref a) s.d := .tup h.t (.cons (.lst h.l h.dx) (.cons (.int _) (.cons (.lst h.m h.dy) .nil)))
theorem StoAt.lx {a l m : Addr} {xs ys : List V} {s : Sto} (h : StoAt K H a l m xs ys s) : xs.length = s.shelves.length := by rw [dps_len h.dx]; exact List.length_map ..
theorem StoAt.ly {a l m : Addr} {xs ys : List V} {s : Sto} (h : StoAt K H a l m xs ys s) : ys.length = s.wishes.length := by rw [dps_len h.dy]; exact List.length_map ..
theorem shelf_get {xs : List V} {l : List Shelf} (h : DpAll K H xs (dshelves l)) {i : Nat} {s : Shelf} (e : l[i]? = some s) : ∃ a, xs[i]? = some (.ref a) ∧ SqT K H a [.int s.room, .int s.has, .int s.sticks] := by
  obtain ⟨x, h1, h2⟩ := dps_get h (i := i) (d := s.d) (by unfold dshelves; rw [List.getElem?_map, e]; rfl)
  obtain ⟨a, rfl, h3⟩ := shelf_at h2
  exact ⟨a, h1, h3⟩
theorem wish_get {xs : List V} {l : List Wish} (h : DpAll K H xs (dwishes l)) {i : Nat} {s : Wish} (e : l[i]? = some s) : ∃ a t, xs[i]? = some (.ref a) ∧ SqT K H a [.str s.kind, .int s.shelf, .str s.side, .int s.crew, .int s.keep, .ref t] ∧ SqT K H t (s.after.map V.int) := by
  obtain ⟨x, h1, h2⟩ := dps_get h (i := i) (d := s.d) (by unfold dwishes; rw [List.getElem?_map, e]; rfl)
  obtain ⟨a, t, rfl, h3, h4⟩ := wish_at h2
  exact ⟨a, t, h1, h3, h4⟩
end

/-! ### the row of draws: a list of the script and two numbers, which every draw changes. B: what is known besides -/
structure RowP where
  r : Addr
  a : Addr
  ns : List Int
structure RowSt (K : PySem.W.Frag) (ρ : RowP) (B H : Hp) : Prop where
  same : Same B H
  free : B ρ.r = none
  scr : SqL K B ρ.a (ρ.ns.map V.int)
  row : ∃ n1 n2 : Int, H ρ.r = some (.lst [.ref ρ.a, .int n1, .int n2]) ∧ 0 ≤ n1
section
variable {K : PySem.W.Frag} {ρ : RowP} {p : Addr} {B B' H : Hp} {o : HO}
theorem RowSt.nr (R : RowSt K ρ B H) (h : H p = none) : ρ.r ≠ p := by
  obtain ⟨n1, n2, e, _⟩ := R.row
  exact ne_of_none e h
/-- a new object -/
theorem RowSt.grow (R : RowSt K ρ B H) (h : H p = none) : RowSt K ρ (upd B p o) (upd H p o) := by
  obtain ⟨n1, n2, e, g⟩ := R.row
  have z := R.same.free h
  exact ⟨Same.grow R.same h, by rw [upd_ne (R.nr h)]; exact R.free, Same.l (same_new z) R.scr, n1, n2, by rw [upd_ne (R.nr h)]; exact e, g⟩
/-- a new object that B is not told of -/
theorem RowSt.new (R : RowSt K ρ B H) (h : H p = none) : RowSt K ρ B (upd H p o) := by
  obtain ⟨n1, n2, e, g⟩ := R.row
  exact ⟨Same.new R.same h, R.free, R.scr, n1, n2, by rw [upd_ne (R.nr h)]; exact e, g⟩
/-- B knows one more that stands -/
theorem RowSt.add (R : RowSt K ρ B H) (h : H p = some o) (hr : ρ.r ≠ p) (hb : B p = none) : RowSt K ρ (upd B p o) H := by
  obtain ⟨n1, n2, e, g⟩ := R.row
  exact ⟨Same.add R.same h, by rw [upd_ne hr]; exact R.free, Same.l (same_new hb) R.scr, n1, n2, e, g⟩
/-- what B does not know is changed -/
theorem RowSt.put (R : RowSt K ρ B H) (hr : ρ.r ≠ p) (hb : B p = none) : RowSt K ρ B (upd H p o) := by
  obtain ⟨n1, n2, e, g⟩ := R.row
  exact ⟨Same.put R.same hb, R.free, R.scr, n1, n2, by rw [upd_ne hr]; exact e, g⟩
/-- B is told less -/
theorem RowSt.less (R : RowSt K ρ B H) (s : Same B' B) (hl : SqL K B' ρ.a (ρ.ns.map V.int)) : RowSt K ρ B' H :=
  ⟨s.trans R.same, s.free R.free, hl, R.row⟩
end
def spTaken (K : PySem.W.Frag) : Sp := fun vs H Q _ => ∃ (ρ : RowP) (m : Int) (B : Hp), vs = [.ref ρ.r, .int m] ∧ 0 < m ∧ RowSt K ρ B H ∧ ∀ z H', 0 ≤ z → z < m → RowSt K ρ B H' → Q (.int z) H'
end Ais
set_option Elab.async false
set_option linter.all false
set_option maxRecDepth 100000
set_option maxHeartbeats 4000000
namespace Ais
open PySem PySem.Spec PyProof.Rows L2
def topS (i : Nat) : Stmt := PySem.Challenge.pw_aisleshift_k07_plans_played.main.body.getD i (.Pass ⟨0, 0, 0, 0⟩)

/-! ## the drawing of numbers and stores -/
structure Tx (K : PySem.W.Frag) (mg : Str → Option Value) : Prop where
  n_len : mg "len" = none
  n_list : mg "list" = none
  n_tuple : mg "tuple" = none
  n_sorted : mg "sorted" = none
  n_sum : mg "sum" = none
  n_min : mg "min" = none
  n_max : mg "max" = none
  n_int : mg "int" = none
  n_range : mg "range" = none
  n_enumerate : mg "enumerate" = none
  n_isinstance : mg "isinstance" = none
  n_ValueError : mg "ValueError" = none
section
variable {P : Program} {w : World} {K : PySem.W.Frag} {mg : Str → Option Value} {base : Heap}
/-! _law_taken: 0 _law_row, 1 _law_many, 2 _law_cell -/
abbrev s__law_taken : Stmt := topS 38
abbrev N__law_taken : List Str := ["_law_row", "_law_many", "_law_cell"]
theorem sc__law_taken : FnScope N__law_taken ["_law_row", "_law_many"] (defScope s__law_taken) := ⟨rfl, rfl, rfl, by decide +kernel, rfl, by decide +kernel, by decide +kernel⟩
theorem ok__law_taken {f : Addr} {fd : FuncData} (D : Dfs K mg "_law_taken" s__law_taken ["_law_row", "_law_many"] f fd) (T : Tx K mg) : Cal P w K mg base 1 "_law_taken" ["_law_row", "_law_many"] (spTaken K) f fd := by
  refine D.cal (D.F.ok sc__law_taken (fun vs H Q E h => ?_) (fun cdv A outer s H vs Q E hr h => ?_))
  · obtain ⟨ρ, m, B, rfl, _⟩ := h
    rfl
  · obtain ⟨ρ, m, B, rfl, hm, R, q⟩ := h
    obtain ⟨n1, n2, hrow, hn1⟩ := R.row
    refine ⟨_, (pss_cons (ps_asg (pe_op op_add (pe_ix (kix_list (K := K)) (pv 0) pe_int (fun _ _ => rfl)) pe_int) (pg_sub (pv 0) pe_int set_list))
      (pss_cons (ps_if (pt_cmpR op_gt (pe_ix (kix_list (K := K)) (pv 0) pe_int (fun _ _ => rfl)) (pe_callB (klen (K := K)) (by rfl) T.n_len (by decide +kernel) (pa_cons (pe_ix (kix_list (K := K)) (pv 0) pe_int (fun _ _ => rfl)) pa_nil)) (nomark _)) (pss_cons (ps_asg (pe_op op_mod (pe_op op_add (pe_op op_mul (pe_ix (kix_list (K := K)) (pv 0) pe_int (fun _ _ => rfl)) pe_int) pe_int) pe_int) (pg_sub (pv 0) pe_int set_list))
      (pss_one (ps_ret (pe_op op_mod (pe_op op_fdiv (pe_ix (kix_list (K := K)) (pv 0) pe_int (fun _ _ => rfl)) pe_int) (pv 1))))) pss_nil)
      (pss_cons (ps_set (i := 2) sc__law_taken.nd rfl (Or.inl rfl) (pe_ix (kix_list (K := K)) (pe_ix (kix_list (K := K)) (pv 0) pe_int (fun _ _ => rfl)) (pe_op op_sub (pe_ix (kix_list (K := K)) (pv 0) pe_int (fun _ _ => rfl)) pe_int) (fun _ _ => rfl)))
      (pss_cons (ps_asg (pe_op op_mod (pe_op op_add (pe_op op_add (pe_op op_mul (pe_ix (kix_list (K := K)) (pv 0) pe_int (fun _ _ => rfl)) pe_int) (pv 2)) pe_int) pe_int) (pg_sub (pv 0) pe_int set_list))
      (pss_one (ps_ret (pe_op op_mod (pv 2) (pv 1)))))))), ?_⟩
    -- row[1] = row[1] + 1
    refine ⟨_, rfl, ρ.r, _, 1, .int n1, rfl, rfl, SqL.of hrow, rfl, n1, 1, rfl, rfl, _, rfl, ρ.r, _, 1, 1, rfl, rfl, hrow, rfl, ?_⟩
    have R1 : RowSt K ρ B (upd H ρ.r (.lst [.ref ρ.a, .int (n1 + 1), .int n2])) := ⟨Same.put R.same R.free, R.free, R.scr, n1 + 1, n2, upd_same, by omega⟩
    -- if row[1] > len(row[0])
    refine ⟨_, rfl, ρ.r, _, 1, .int (n1 + 1), rfl, rfl, SqL.of upd_same, rfl, _, rfl, ρ.r, _, 0, .ref ρ.a, rfl, rfl, SqL.of upd_same, rfl, ρ.a, _, rfl, .inl (Same.l R1.same R1.scr), n1 + 1, _, rfl, rfl, _, rfl, ite2 (fun e => ?_) (fun e => ?_)⟩
    · -- the script is used up
      refine ⟨_, rfl, ρ.r, _, 2, .int n2, rfl, rfl, SqL.of upd_same, rfl, n2, 48271, rfl, rfl, .inr ⟨by decide, by decide⟩, _, 11, rfl, rfl, _, 2147483647, rfl, rfl, (by show (0 : Int) < 2147483647; decide), _, rfl, ρ.r, _, 2, 2, rfl, rfl, upd_same, rfl, ?_⟩
      have R2 : RowSt K ρ B (upd (upd H ρ.r (.lst [.ref ρ.a, .int (n1 + 1), .int n2])) ρ.r (.lst [.ref ρ.a, .int (n1 + 1), .int ((n2 * 48271 + 11) % 2147483647)])) := ⟨Same.put R1.same R.free, R.free, R.scr, n1 + 1, _, upd_same, by omega⟩
      refine ⟨_, rfl, ρ.r, _, 2, .int ((n2 * 48271 + 11) % 2147483647), rfl, rfl, SqL.of upd_same, rfl, _, 7, rfl, rfl, ⟨by decide, by decide⟩, _, rfl, _, m, rfl, rfl, hm, ?_⟩
      exact q _ _ (Int.emod_nonneg _ (by omega)) (Int.emod_lt_of_pos _ hm) R2
    · have hlt : n1 < (ρ.ns.map V.int).length := by
        have z := nod e
        omega
      have hat : atI (ρ.ns.map V.int) (n1 + 1 - 1) = some (.int (ρ.ns.getD n1.toNat 0)) := by
        have hl : n1.toNat < ρ.ns.length := by
          rw [List.length_map] at hlt
          omega
        refine at_of (j := n1.toNat) (by omega) ?_
        rw [List.getElem?_map, List.getElem?_eq_getElem hl]
        simp [List.getD, hl]
      refine ⟨_, rfl, ρ.r, _, 0, .ref ρ.a, rfl, rfl, SqL.of upd_same, rfl, _, rfl, ρ.r, _, 1, .int (n1 + 1), rfl, rfl, SqL.of upd_same, rfl, n1 + 1, 1, rfl, rfl, ρ.a, _, _, _, rfl, rfl, Same.l R1.same R1.scr, hat, ?_⟩
      generalize ρ.ns.getD n1.toNat 0 = cell
      refine ⟨_, rfl, ρ.r, _, 2, .int n2, rfl, rfl, SqL.of upd_same, rfl, n2, 48271, rfl, rfl, .inr ⟨by decide, by decide⟩, _, rfl, _, cell, rfl, rfl, _, 11, rfl, rfl, _, 2147483647, rfl, rfl, (by show (0 : Int) < 2147483647; decide), _, rfl, ρ.r, _, 2, 2, rfl, rfl, upd_same, rfl, ?_⟩
      have R2 : RowSt K ρ B (upd (upd H ρ.r (.lst [.ref ρ.a, .int (n1 + 1), .int n2])) ρ.r (.lst [.ref ρ.a, .int (n1 + 1), .int ((n2 * 48271 + cell + 11) % 2147483647)])) := ⟨Same.put R1.same R.free, R.free, R.scr, n1 + 1, _, upd_same, by omega⟩
      refine ⟨_, rfl, _, rfl, _, m, rfl, rfl, hm, ?_⟩
      exact q _ _ (Int.emod_nonneg _ (by omega)) (Int.emod_lt_of_pos _ hm) R2
end

section
variable {P : Program} {w : World} {K : PySem.W.Frag} {mg : Str → Option Value} {base : Heap}
def spWish (K : PySem.W.Frag) : Sp := fun vs H Q _ => ∃ (ρ : RowP) (n m : Int) (B : Hp), vs = [.ref ρ.r, .int n, .int m] ∧ 0 < n ∧ 0 ≤ m ∧ m ≤ 5 ∧ RowSt K ρ B H ∧
  ∀ v B' H' (x : Wish), Same B B' → RowSt K ρ B' H' → Dp K B' v x.d → WishOk n m x → Q v H'
/-! _law_wish: 0 _law_row, 1 _law_shelves, 2 _law_many, 3 _law_kind, 4 _law_side, 5 _law_after, 6 _law_k -/
abbrev s__law_wish : Stmt := topS 39
abbrev N__law_wish : List Str := ["_law_row", "_law_shelves", "_law_many", "_law_kind", "_law_side", "_law_after", "_law_k"]
theorem sc__law_wish : FnScope N__law_wish ["_law_row", "_law_shelves", "_law_many"] (defScope s__law_wish) := ⟨rfl, rfl, rfl, by decide +kernel, rfl, by decide +kernel, by decide +kernel⟩
theorem ok__law_wish {f f1 : Addr} {fd fd1 : FuncData} (D : Dfs K mg "_law_wish" s__law_wish ["_law_row", "_law_shelves", "_law_many"] f fd) (T : Tx K mg) (C__law_taken : Cal P w K mg base 1 "_law_taken" ["_law_row", "_law_many"] (spTaken K) f1 fd1) :
    Cal P w K mg base 2 "_law_wish" ["_law_row", "_law_shelves", "_law_many"] (spWish K) f fd := by
  refine D.cal (D.F.ok sc__law_wish (fun vs H Q E h => ?_) (fun cdv A outer s H vs Q E hr h => ?_))
  · obtain ⟨ρ, n, m, B, rfl, _⟩ := h
    rfl
  · obtain ⟨ρ, n, m, B, rfl, hn, hm, hm5, R, q⟩ := h
    refine ⟨_, (pss_cons (ps_set (i := 3) sc__law_wish.nd rfl (Or.inl rfl) (pe_ix (kix_list (K := K)) (pe_lst (pa_cons pe_str (pa_cons pe_str pa_nil))) (pe_call C__law_taken.G (hr.mono (by decide)) (by rfl) C__law_taken.g C__law_taken.kp C__law_taken.b .nil pass0 (pa_cons (pv 0) (pa_cons pe_int pa_nil))) (fun _ _ => rfl)))
      (pss_cons (ps_set (i := 4) sc__law_wish.nd rfl (Or.inl rfl) (pe_ix (kix_list (K := K)) (pe_lst (pa_cons pe_str (pa_cons pe_str (pa_cons pe_str (pa_cons pe_str pa_nil))))) (pe_call C__law_taken.G (hr.mono (by decide)) (by rfl) C__law_taken.g C__law_taken.kp C__law_taken.b .nil pass0 (pa_cons (pv 0) (pa_cons pe_int pa_nil))) (fun _ _ => rfl)))
      (pss_cons (ps_setLc (i := 5) (own := [("_law_k", 6)]) (g := gName 6) rfl sc__law_wish.nd rfl rfl (sw_true rfl rfl rfl (by decide +kernel)) (pi_range1 (by rfl) T.n_range (pa_cons (pv 2) pa_nil)) (blkOk_by (own := [("_law_k", 6)]) (N := N__law_wish) (sc := defScope s__law_wish) (by decide +kernel)) (fun _ _ _ _ _ => (pg_name (i := 6) sc__law_wish.nd rfl (Or.inl rfl))) (fun _ _ _ _ _ => (pts_one (pt_cmpR op_eq (pe_call C__law_taken.G (hr.mono (by decide)) (by rfl) C__law_taken.g C__law_taken.kp C__law_taken.b .nil pass0 (pa_cons (pv 0) (pa_cons (pe_ix (kix_list (K := K)) (pe_lst (pa_cons pe_int (pa_cons pe_int pa_nil))) (pe_callTy call_int1 (by rfl) T.n_int (by decide +kernel) (pa_cons (pe_cmpR op_eq (pv 6) pe_int (nomark _)) pa_nil)) (fun _ _ => rfl)) pa_nil))) pe_int (nomark _)))) (fun _ _ _ _ _ => (pv 6)))
      (C8.pss_cut (ps_if (pt_cmpR op_gt (pe_call C__law_taken.G (hr.mono (by decide)) (by rfl) C__law_taken.g C__law_taken.kp C__law_taken.b .nil pass0 (pa_cons (pv 0) (pa_cons pe_int pa_nil))) pe_int (nomark _)) (pss_one (ps_set (i := 5) sc__law_wish.nd rfl (Or.inl rfl) (pe_slice (ksl_list (K := K)) (pv 5) po_none (po_some pe_int)))) pss_nil)
      (pss_one (ps_ret (pe_tup (pa_cons (pv 3) (pa_cons (pe_call C__law_taken.G (hr.mono (by decide)) (by rfl) C__law_taken.g C__law_taken.kp C__law_taken.b .nil pass0 (pa_cons (pv 0) (pa_cons (pv 1) pa_nil))) (pa_cons (pv 4) (pa_cons (pe_call C__law_taken.G (hr.mono (by decide)) (by rfl) C__law_taken.g C__law_taken.kp C__law_taken.b .nil pass0 (pa_cons (pv 0) (pa_cons pe_int pa_nil))) (pa_cons (pe_ix (kix_list (K := K)) (pe_lst (pa_cons pe_int (pa_cons pe_int (pa_cons pe_int (pa_cons pe_int (pa_cons pe_int pa_nil)))))) (pe_call C__law_taken.G (hr.mono (by decide)) (by rfl) C__law_taken.g C__law_taken.kp C__law_taken.b .nil pass0 (pa_cons (pv 0) (pa_cons pe_int pa_nil))) (fun _ _ => rfl)) (pa_cons (pe_callTy (ktuple_of (K := K)) (by rfl) T.n_tuple (by decide +kernel) (pa_cons (pv 5) pa_nil)) pa_nil))))))))))))), ?_⟩
    -- kind
    refine ⟨small (by decide), fun p np => ⟨_, rfl, ρ, 2, upd B p _, rfl, by decide, R.grow np, fun z H1 z0 z1 R1 => ?_⟩⟩
    obtain ⟨v, hv, _, hmem⟩ := atI_mem (xs := [V.str "fetch", V.str "bring"]) z0 z1
    obtain ⟨kd, rfl, hkd⟩ : ∃ kd : Str, v = V.str kd ∧ (kd = "fetch" ∨ kd = "bring") := by
      rcases List.mem_cons.mp hmem with rfl | hmem
      · exact ⟨_, rfl, .inl rfl⟩
      · rcases List.mem_cons.mp hmem with rfl | hmem
        · exact ⟨_, rfl, .inr rfl⟩
        · simp at hmem
    refine ⟨p, _, z, _, rfl, rfl, SqL.of (R1.same _ _ upd_same), hv, ?_⟩
    have sB1 : Same B (upd B p (.lst [V.str "fetch", V.str "bring"])) := same_new (R.same.free np)
    generalize upd B p (.lst [V.str "fetch", V.str "bring"]) = B1 at R1 sB1
    -- side
    refine ⟨small (by decide), fun p2 np2 => ⟨_, rfl, ρ, 4, upd B1 p2 _, rfl, by decide, R1.grow np2, fun z2 H2 z20 z21 R2 => ?_⟩⟩
    obtain ⟨v, hv, _, hmem⟩ := atI_mem (xs := [V.str "any", V.str "any", V.str "left", V.str "right"]) z20 z21
    obtain ⟨sd, rfl, hsd⟩ : ∃ sd : Str, v = V.str sd ∧ (sd = "left" ∨ sd = "right" ∨ sd = "any") := by
      simp only [List.mem_cons, List.not_mem_nil, or_false] at hmem
      rcases hmem with rfl | rfl | rfl | rfl
      · exact ⟨_, rfl, .inr (.inr rfl)⟩
      · exact ⟨_, rfl, .inr (.inr rfl)⟩
      · exact ⟨_, rfl, .inl rfl⟩
      · exact ⟨_, rfl, .inr (.inl rfl)⟩
    refine ⟨p2, _, z2, _, rfl, rfl, SqL.of (R2.same _ _ upd_same), hv, ?_⟩
    have sB2 : Same B (upd B1 p2 (.lst [V.str "any", V.str "any", V.str "left", V.str "right"])) := sB1.trans (same_new (R1.same.free np2))
    generalize upd B1 p2 (.lst [V.str "any", V.str "any", V.str "left", V.str "right"]) = B2 at R2 sB2
    -- after = [..]
    refine ⟨_, rfl, m, rfl, by omega, by omega, fun D nD => lc_range (lo := 0) (n := m.toNat) (fun i H' => ∃ B', Same B2 B' ∧ RowSt K ρ B' H' ∧ B' D = none ∧ ∃ acc : List Int, H' D = some (.lst (acc.map V.int)) ∧ Rising 0 i acc ∧ acc.length ≤ i) ?_ ?_ ?_⟩
    · exact ⟨B2, Same.refl _, R2.new nD, R2.same.free nD, [], upd_same, trivial, Nat.le_refl _⟩
    · rintro i H3 hi ⟨B3, s3, R3, bD, acc, eD, ris, hlen⟩
      have hrD : ρ.r ≠ D := fun e => by
        obtain ⟨n1, n2, er, _⟩ := R2.row
        rw [e, nD] at er
        cases er
      refine ⟨rfl, ?_⟩
      have R4 := R3.add eD hrD bD
      -- [4, 3][int(k == 0)]
      refine ⟨_, rfl, small (by decide), fun p4 np4 => ⟨_, rfl, rfl, .inr ⟨_, rfl, ?_⟩⟩⟩
      have R5 := R4.grow (o := .lst [V.int 4, V.int 3]) np4
      obtain ⟨x0, x1⟩ := b2z (decide (V.int (0 + (i : Int)) = V.int 0))
      obtain ⟨v, hv, _, hmem⟩ := atI_mem (xs := [V.int 4, V.int 3]) x0 x1
      obtain ⟨c, rfl, hc⟩ : ∃ c : Int, v = V.int c ∧ 0 < c := by
        simp only [List.mem_cons, List.not_mem_nil, or_false] at hmem
        rcases hmem with rfl | rfl
        · exact ⟨_, rfl, by decide⟩
        · exact ⟨_, rfl, by decide⟩
      refine ⟨p4, _, _, _, rfl, rfl, SqL.of upd_same, hv, ρ, c, _, rfl, hc, R5, fun z5 H5 z50 z51 R6 => ?_⟩
      have eD5 : H5 D = some (.lst (acc.map V.int)) := R6.same _ _ (by
        have nDp : D ≠ p4 := ne_of_none eD np4
        rw [upd_ne nDp]
        exact upd_same)
      have sB : Same B3 (upd (upd B3 D (.lst (acc.map V.int))) p4 (.lst [V.int 4, V.int 3])) := (same_new bD).trans (same_new (R4.same.free np4))
      have R7 : RowSt K ρ B3 H5 := R6.less sB R3.scr
      refine ⟨rfl, _, rfl, ite2 (fun e => ?_) (fun e => ?_)⟩
      · refine ⟨_, rfl, _, eD5, Nat.lt_of_le_of_lt (by rw [List.length_map]; exact hlen) (small1000 (by omega)), B3, s3, R7.put hrD bD, bD, acc ++ [(i : Int)], ?_, ris.snoc (by omega) (by omega), by rw [List.length_append]; exact Nat.succ_le_succ hlen⟩
        rw [upd_same, List.map_append]
        show some (HO.lst (acc.map V.int ++ [V.int (0 + (i : Int))])) = _
        rw [Int.zero_add]
        rfl
      · exact ⟨B3, s3, R7, bD, acc, eD5, ris.more (by omega), Nat.le_succ_of_le hlen⟩
    · rintro H3 ⟨B3, s3, R3, bD, acc, eD, ris, hlen⟩
      have hrD : ρ.r ≠ D := fun e => by
        obtain ⟨n1, n2, er, _⟩ := R2.row
        rw [e, nD] at er
        cases er
      have ris' : Rising 0 m acc := ris.more (by omega)
      have R4 := R3.add eD hrD bD
      have sB4 : Same B (upd B3 D (.lst (acc.map V.int))) := (sB2.trans s3).trans (same_new bD)
      have lD : SqL K (upd B3 D (.lst (acc.map V.int))) D (acc.map V.int) := SqL.of upd_same
      generalize upd B3 D (.lst (acc.map V.int)) = B4 at R4 sB4 lD
      have hlen5 : acc.length ≤ 5 := by omega
      -- if taken(row, 8) > 0: after = after[:2]
      refine ⟨fun σ H' => ∃ (l : Addr) (acc : List Int) (B' : Hp), σ = [some (.ref ρ.r), some (.int n), some (.int m), some (.str kd), some (.str sd), some (.ref l), none] ∧ Same B B' ∧ RowSt K ρ B' H' ∧ SqL K B' l (acc.map V.int) ∧ Rising 0 m acc ∧ acc.length ≤ 5, ?_, ?_⟩
      · refine ⟨_, rfl, ρ, 8, B4, rfl, by decide, R4, fun z5 H5 z50 z51 R5 => ⟨z5, 0, rfl, rfl, _, rfl, ite2 (fun e => ?_) (fun e => ?_)⟩⟩
        · refine ⟨_, rfl, 2, rfl, D, _, rfl, Same.l R5.same lD, fun p5 np5 => ?_⟩
          refine ⟨p5, acc.take 2, upd B4 p5 (.lst ((acc.take 2).map V.int)), rfl, sB4.trans (same_new (R5.same.free np5)), ?_, SqL.of upd_same, ris'.take 2, ?_⟩
          · have e : cutV (acc.map V.int) none (some 2) = (acc.take 2).map V.int := by
              unfold cutV
              rw [HT.sIx_none, show HT.sIx (acc.map V.int).length (acc.map V.int).length (some 2) = min 2 (acc.map V.int).length from HT.sIx_nat _ _ 2]
              rw [List.drop_zero, List.map_take, Nat.sub_zero]
              by_cases h2 : 2 ≤ (acc.map V.int).length
              · rw [Nat.min_eq_left h2]
              · rw [Nat.min_eq_right (by omega), List.take_of_length_le (Nat.le_refl _), List.take_of_length_le (by omega)]
            rw [e]
            exact R5.grow np5
          · rw [List.length_take]
            omega
        · exact ⟨D, acc, B4, rfl, sB4, R5, lD, ris', hlen5⟩
      · rintro σ H5 ⟨l, acc, B5, rfl, sB5, R5, lD, ris, hl5⟩
        -- return (kind, taken(row, shelves), side, taken(row, 2), [0, 0, 1, 2, 3][taken(row, 5)], tuple(after))
        refine ⟨_, rfl, _, rfl, _, rfl, ρ, n, B5, rfl, hn, R5, fun zs H6 zs0 zs1 R6 => ⟨_, rfl, _, rfl, ρ, 2, B5, rfl, by decide, R6, fun zc H7 zc0 zc1 R7 => ⟨small (by decide), fun p7 np7 => ⟨_, rfl, ρ, 5, upd B5 p7 _, rfl, by decide, R7.grow np7, fun zk H8 zk0 zk1 R8 => ?_⟩⟩⟩⟩
        obtain ⟨v, hv, _, hmem⟩ := atI_mem (xs := [V.int 0, V.int 0, V.int 1, V.int 2, V.int 3]) zk0 zk1
        obtain ⟨kp, rfl, hk0, hk3⟩ : ∃ c : Int, v = V.int c ∧ 0 ≤ c ∧ c ≤ 3 := by
          simp only [List.mem_cons, List.not_mem_nil, or_false] at hmem
          rcases hmem with rfl | rfl | rfl | rfl | rfl <;> exact ⟨_, rfl, by decide, by decide⟩
        have sB8 := sB5.trans (same_new (o := .lst [V.int 0, V.int 0, V.int 1, V.int 2, V.int 3]) (R7.same.free np7))
        have l8 := Same.l (same_new (o := .lst [V.int 0, V.int 0, V.int 1, V.int 2, V.int 3]) (R7.same.free np7)) lD
        have e8 := R8.same _ _ upd_same
        generalize upd B5 p7 (.lst [V.int 0, V.int 0, V.int 1, V.int 2, V.int 3]) = B8 at R8 sB8 l8
        refine ⟨p7, _, zk, _, rfl, rfl, SqL.of e8, hv, _, rfl, l, _, rfl, .inl ⟨Same.l R8.same l8, fun pt npt => ?_⟩⟩
        have R9 := R8.grow (o := .tup (acc.map V.int)) npt
        have sB9 := sB8.trans (same_new (o := .tup (acc.map V.int)) (R8.same.free npt))
        refine ⟨small (by simp), fun pw npw => ?_⟩
        have R10 := R9.grow (o := .tup [.str kd, .int zs, .str sd, .int zc, .int kp, .ref pt]) npw
        have sB10 := sB9.trans (same_new (o := .tup [.str kd, .int zs, .str sd, .int zc, .int kp, .ref pt]) (R9.same.free npw))
        refine q _ _ _ ⟨kd, zs, sd, zc, kp, acc⟩ sB10 R10 (at_wish (t := pt) (SqT.of upd_same) (SqT.of ?_)) ⟨hkd, zs0, zs1, hsd, by dsimp only; omega, hk0, hk3, ris⟩
        have n1 : pt ≠ pw := ne_of_none upd_same npw
        rw [upd_ne n1]
        exact upd_same
end

/-- a list at l that grows beside the draws: its items stand in B, itself it doesn't -/
structure Acc (K : PySem.W.Frag) (ρ : RowP) (B0 B H : Hp) (l : Addr) (xs : List V) (ds : List PyData) : Prop where
  s : Same B0 B
  R : RowSt K ρ B H
  bl : B l = none
  el : H l = some (.lst xs)
  dx : DpAll K B xs ds
  nr : ρ.r ≠ l
def del1 (H : Hp) (a : Addr) : Hp := fun b => if b = a then none else H b
theorem del1_ne {H : Hp} {a b : Addr} (h : b ≠ a) : del1 H a b = H b := if_neg h
theorem del1_same {H : Hp} {a : Addr} : del1 H a a = none := if_pos rfl
theorem same_del {B B' : Hp} {l : Addr} (s : Same B B') (h : B l = none) : Same B (del1 B' l) := fun b o e => by
  rw [del1_ne (ne_of_none e h)]
  exact s b o e
theorem sqt_del {K : PySem.W.Frag} {B : Hp} {l a : Addr} {xs ys : List V} (e : B l = some (.lst xs)) (h : SqT K B a ys) : SqT K (del1 B l) a ys := by
  rcases h with (h | ⟨o, h⟩) | h
  · refine .inl (.inl ?_)
    rw [del1_ne (fun z => by rw [z, e] at h; cases h)]
    exact h
  · refine .inl (.inr ⟨o, ?_⟩)
    rw [del1_ne (fun z => by rw [z, e] at h; cases h)]
    exact h
  · exact .inr h
theorem wish_del {K : PySem.W.Frag} {B : Hp} {l : Addr} {xs : List V} {v : V} {x : Wish} (e : B l = some (.lst xs)) (h : Dp K B v x.d) : Dp K (del1 B l) v x.d := by
  obtain ⟨a, t, rfl, h1, h2⟩ := wish_at h
  exact at_wish (sqt_del e h1) (sqt_del e h2)
section
variable {K : PySem.W.Frag} {ρ : RowP} {B0 B B' H H' : Hp} {l p : Addr} {xs : List V} {ds : List PyData} {o : HO}
theorem Acc.now (A : Acc K ρ B0 B H l xs ds) : RowSt K ρ (upd B l (.lst xs)) H := A.R.add A.el A.nr A.bl
theorem Acc.back (A : Acc K ρ B0 B H l xs ds) (R : RowSt K ρ (upd B l (.lst xs)) H') : Acc K ρ B0 B H' l xs ds :=
  ⟨A.s, R.less (same_new A.bl) A.R.scr, A.bl, R.same _ _ upd_same, A.dx, A.nr⟩
theorem Acc.back2 (A : Acc K ρ B0 B H l xs ds) (s : Same (upd B l (.lst xs)) B') (R : RowSt K ρ B' H') : Acc K ρ B0 (del1 B' l) H' l xs ds := by
  have s1 : Same B (del1 B' l) := same_del ((same_new A.bl).trans s) A.bl
  exact ⟨A.s.trans s1, R.less (fun b o e => by
    by_cases hb : b = l
    · rw [hb, del1_same] at e
      cases e
    · rw [del1_ne hb] at e
      exact e) (Same.l s1 A.R.scr), del1_same, R.same _ _ (s _ _ upd_same), dps_mono s1 A.dx, A.nr⟩
theorem Acc.grow (A : Acc K ρ B0 B H l xs ds) (h : H p = none) : Acc K ρ B0 (upd B p o) (upd H p o) l xs ds := by
  have n : l ≠ p := ne_of_none A.el h
  have z := A.R.same.free h
  exact ⟨A.s.trans (same_new z), A.R.grow h, by rw [upd_ne n]; exact A.bl, by rw [upd_ne n]; exact A.el, dps_mono (same_new z) A.dx, A.nr⟩
theorem Acc.app {v : V} {d : PyData} (A : Acc K ρ B0 B H l xs ds) (h : Dp K B v d) : Acc K ρ B0 B (upd H l (.lst (xs ++ [v]))) l (xs ++ [v]) (ds ++ [d]) :=
  ⟨A.s, A.R.put A.nr A.bl, A.bl, upd_same, dps_app A.dx (.cons h .nil), A.nr⟩
theorem Acc.start (s : Same B0 B) (R : RowSt K ρ B H) (h : H l = none) : Acc K ρ B0 B (upd H l (.lst [])) l [] [] :=
  ⟨s, R.new h, R.same.free h, upd_same, .nil, R.nr h⟩
/-- it is finished: B may know it -/
theorem Acc.done (A : Acc K ρ B0 B H l xs ds) : RowSt K ρ (upd B l (.lst xs)) H ∧ Same B0 (upd B l (.lst xs)) ∧ SqL K (upd B l (.lst xs)) l xs ∧ DpAll K (upd B l (.lst xs)) xs ds :=
  ⟨A.now, A.s.trans (same_new A.bl), SqL.of upd_same, dps_mono (same_new A.bl) A.dx⟩
end
section
variable {P : Program} {w : World} {K : PySem.W.Frag} {mg : Str → Option Value} {base : Heap}
def spStore (K : PySem.W.Frag) : Sp := fun vs H Q _ => ∃ (ρ : RowP) (B : Hp), vs = [.ref ρ.r] ∧ RowSt K ρ B H ∧
  ∀ v B' H' (S : Sto), Same B B' → RowSt K ρ B' H' → Dp K B' v S.d → StoOk S → Q v H'
/-! _law_store: 0 _law_row, 1 _law_shelves, 2 _law_k, 3 _law_room, 4 _law_aisle, 5 _law_many, 6 _law_wishes -/
abbrev s__law_store : Stmt := topS 40
abbrev N__law_store : List Str := ["_law_row", "_law_shelves", "_law_k", "_law_room", "_law_aisle", "_law_many", "_law_wishes"]
theorem sc__law_store : FnScope N__law_store ["_law_row"] (defScope s__law_store) := ⟨rfl, rfl, rfl, by decide +kernel, rfl, by decide +kernel, by decide +kernel⟩
theorem ok__law_store {f f1 f2 : Addr} {fd fd1 fd2 : FuncData} (D : Dfs K mg "_law_store" s__law_store ["_law_row"] f fd) (T : Tx K mg) (C__law_taken : Cal P w K mg base 1 "_law_taken" ["_law_row", "_law_many"] (spTaken K) f1 fd1)
    (C__law_wish : Cal P w K mg base 2 "_law_wish" ["_law_row", "_law_shelves", "_law_many"] (spWish K) f2 fd2) :
    Cal P w K mg base 3 "_law_store" ["_law_row"] (spStore K) f fd := by
  refine D.cal (D.F.ok sc__law_store (fun vs H Q E h => ?_) (fun cdv A outer s H vs Q E hr h => ?_))
  · obtain ⟨ρ, B, rfl, _⟩ := h
    rfl
  · obtain ⟨ρ, B, rfl, R, q⟩ := h
    refine ⟨_, (pss_cons (ps_set (i := 1) sc__law_store.nd rfl (Or.inl rfl) (pe_lst pa_nil))
      (pss_cons (ps_for PassesOwn.never rfl (pi_range1 (by rfl) T.n_range (pa_cons (pe_op op_add pe_int (pe_call C__law_taken.G (hr.mono (by decide)) (by rfl) C__law_taken.g C__law_taken.kp C__law_taken.b .nil pass0 (pa_cons (pv 0) (pa_cons pe_int pa_nil)))) pa_nil)) (pg_name (i := 2) sc__law_store.nd rfl (Or.inl rfl)) (pss_cons (ps_set (i := 3) sc__law_store.nd rfl (Or.inl rfl) (pe_ix (kix_list (K := K)) (pe_lst (pa_cons (pe_op op_add pe_int (pe_call C__law_taken.G (hr.mono (by decide)) (by rfl) C__law_taken.g C__law_taken.kp C__law_taken.b .nil pass0 (pa_cons (pv 0) (pa_cons pe_int pa_nil)))) (pa_cons pe_int (pa_cons (pe_call C__law_taken.G (hr.mono (by decide)) (by rfl) C__law_taken.g C__law_taken.kp C__law_taken.b .nil pass0 (pa_cons (pv 0) (pa_cons pe_int pa_nil))) pa_nil)))) (pe_call C__law_taken.G (hr.mono (by decide)) (by rfl) C__law_taken.g C__law_taken.kp C__law_taken.b .nil pass0 (pa_cons (pv 0) (pa_cons pe_int pa_nil))) (fun _ _ => rfl)))
      (pss_one (ps_expr (pe_bm PySem.F.plainAttrs_list PySem.F.slot_list_append PySem.F.type_list_append mt_append (pv 1) (pa_cons (pe_tup (pa_cons (pv 3) (pa_cons (pe_call C__law_taken.G (hr.mono (by decide)) (by rfl) C__law_taken.g C__law_taken.kp C__law_taken.b .nil pass0 (pa_cons (pv 0) (pa_cons (pe_op op_add (pv 3) pe_int) pa_nil))) (pa_cons (pe_callTy call_int1 (by rfl) T.n_int (by decide +kernel) (pa_cons (pe_cmpR op_eq (pe_call C__law_taken.G (hr.mono (by decide)) (by rfl) C__law_taken.g C__law_taken.kp C__law_taken.b .nil pass0 (pa_cons (pv 0) (pa_cons pe_int pa_nil))) pe_int (nomark _)) pa_nil)) pa_nil)))) pa_nil))))))
      (pss_cons (ps_set (i := 4) sc__law_store.nd rfl (Or.inl rfl) (pe_call C__law_taken.G (hr.mono (by decide)) (by rfl) C__law_taken.g C__law_taken.kp C__law_taken.b .nil pass0 (pa_cons (pv 0) (pa_cons (pe_op op_add (pe_callB (klen (K := K)) (by rfl) T.n_len (by decide +kernel) (pa_cons (pv 1) pa_nil)) pe_int) pa_nil))))
      (pss_cons (ps_set (i := 5) sc__law_store.nd rfl (Or.inl rfl) (pe_ix (kix_list (K := K)) (pe_lst (pa_cons (pe_op op_add pe_int (pe_call C__law_taken.G (hr.mono (by decide)) (by rfl) C__law_taken.g C__law_taken.kp C__law_taken.b .nil pass0 (pa_cons (pv 0) (pa_cons pe_int pa_nil)))) (pa_cons (pe_call C__law_taken.G (hr.mono (by decide)) (by rfl) C__law_taken.g C__law_taken.kp C__law_taken.b .nil pass0 (pa_cons (pv 0) (pa_cons pe_int pa_nil))) pa_nil))) (pe_call C__law_taken.G (hr.mono (by decide)) (by rfl) C__law_taken.g C__law_taken.kp C__law_taken.b .nil pass0 (pa_cons (pv 0) (pa_cons pe_int pa_nil))) (fun _ _ => rfl)))
      (C8.pss_cut (ps_if (PW.pt (pw_and (pt_cmpR op_eq (pv 5) pe_int (nomark _)) (pw_and1 (pt_cmpR op_gt (pe_callB (klen (K := K)) (by rfl) T.n_len (by decide +kernel) (pa_cons (pv 1) pa_nil)) pe_int (nomark _))))) (pss_one (ps_set (i := 5) sc__law_store.nd rfl (Or.inl rfl) (pe_op op_add pe_int (pe_callTy call_int1 (by rfl) T.n_int (by decide +kernel) (pa_cons (pe_cmpR op_eq (pe_call C__law_taken.G (hr.mono (by decide)) (by rfl) C__law_taken.g C__law_taken.kp C__law_taken.b .nil pass0 (pa_cons (pv 0) (pa_cons pe_int pa_nil))) pe_int (nomark _)) pa_nil))))) pss_nil)
      (pss_cons (ps_set (i := 6) sc__law_store.nd rfl (Or.inl rfl) (pe_lst pa_nil))
      (pss_cons (ps_for PassesOwn.never rfl (pi_range1 (by rfl) T.n_range (pa_cons (pv 5) pa_nil)) (pg_name (i := 2) sc__law_store.nd rfl (Or.inl rfl)) (pss_one (ps_expr (pe_bm PySem.F.plainAttrs_list PySem.F.slot_list_append PySem.F.type_list_append mt_append (pv 6) (pa_cons (pe_call C__law_wish.G (hr.mono (by decide)) (by rfl) C__law_wish.g C__law_wish.kp C__law_wish.b .nil pass0 (pa_cons (pv 0) (pa_cons (pe_callB (klen (K := K)) (by rfl) T.n_len (by decide +kernel) (pa_cons (pv 1) pa_nil)) (pa_cons (pe_ix (kix_list (K := K)) (pe_lst (pa_cons (pv 2) (pa_cons (pv 5) pa_nil))) (pe_callTy call_int1 (by rfl) T.n_int (by decide +kernel) (pa_cons (pe_cmpR op_eq (pe_call C__law_taken.G (hr.mono (by decide)) (by rfl) C__law_taken.g C__law_taken.kp C__law_taken.b .nil pass0 (pa_cons (pv 0) (pa_cons pe_int pa_nil))) pe_int (nomark _)) pa_nil)) (fun _ _ => rfl)) pa_nil)))) pa_nil)))))
      (pss_one (ps_ret (pe_tup (pa_cons (pv 1) (pa_cons (pv 4) (pa_cons (pv 6) pa_nil))))))))))))), ?_⟩
    -- shelves = []
    refine ⟨small (by simp), fun l nl => ?_⟩
    have A0 : Acc K ρ B B (upd H l (.lst [])) l [] [] := Acc.start (Same.refl _) R nl
    -- for k in range(1 + taken(row, 5))
    refine ⟨_, rfl, ρ, 5, _, rfl, by decide, A0.now, fun z H1 z0 z1 R1 => ⟨1, z, rfl, rfl, _, rfl, by omega, by omega, ?_⟩⟩
    refine for_range (lo := 0) (n := (1 + z).toNat) (fun i σ H' => ∃ (B' : Hp) (xs : List V) (ss : List Shelf) (v2 v3 : Option V), σ = [some (.ref ρ.r), some (.ref l), v2, v3, none, none, none] ∧ Acc K ρ B B' H' l xs (dshelves ss) ∧ (∀ s ∈ ss, ShelfOk s) ∧ ss.length = i)
      ⟨B, [], [], none, none, rfl, A0.back R1, fun s h => absurd h (by simp), rfl⟩ ?_ ?_
    · rintro i σ H2 hi ⟨B2, xs, ss, v2, v3, rfl, A2, hss, hlen⟩
      -- room
      refine ⟨_, rfl, ρ, 3, _, rfl, by decide, A2.now, fun a H3 a0 a1 R3 => ⟨1, a, rfl, rfl, _, rfl, ρ, 10, _, rfl, by decide, R3, fun b H4 b0 b1 R4 => ⟨small (by simp), fun p np => ⟨_, rfl, ρ, 3, _, rfl, by decide, R4.grow np, fun c H5 c0 c1 R5 => ?_⟩⟩⟩⟩
      obtain ⟨v, hv, _, hmem⟩ := atI_mem (xs := [V.int (1 + a), V.int 9, V.int b]) c0 c1
      obtain ⟨room, rfl, hr0, hr9⟩ : ∃ c : Int, v = V.int c ∧ 0 ≤ c ∧ c ≤ 9 := by
        simp only [List.mem_cons, List.not_mem_nil, or_false] at hmem
        rcases hmem with rfl | rfl | rfl
        · exact ⟨_, rfl, by omega, by omega⟩
        · exact ⟨_, rfl, by omega, by omega⟩
        · exact ⟨_, rfl, by omega, by omega⟩
      refine ⟨p, _, c, _, rfl, rfl, SqL.of (R5.same _ _ upd_same), hv, ?_⟩
      have n1 : B2 p = none := (A2.back R4).R.same.free np
      have A5 : Acc K ρ B B2 H5 l xs (dshelves ss) := A2.back (R5.less (same_new (R4.same.free np)) A2.now.scr)
      -- shelves.append((room, taken(row, room + 1), int(taken(row, 9) == 8)))
      refine ⟨_, rfl, .inl ⟨rfl, _, SqL.of A5.el⟩, _, rfl, _, rfl, _, rfl, room, 1, rfl, rfl, ρ, room + 1, _, rfl, by omega, A5.now, fun h H6 h0 h1 R6 => ⟨_, rfl, ρ, 9, _, rfl, by decide, R6, fun t H7 t0 t1 R7 => ⟨rfl, .inr ⟨_, rfl, small (by simp), fun p2 np2 => ?_⟩⟩⟩⟩
      have hst : (if decide (V.int t = V.int 8) = true then (1 : Int) else 0) = 0 ∨ (if decide (V.int t = V.int 8) = true then (1 : Int) else 0) = 1 := by
        split
        · exact .inr rfl
        · exact .inl rfl
      generalize (if decide (V.int t = V.int 8) = true then (1 : Int) else 0) = st at hst
      have A7 := (A5.back R7).grow (o := .tup [.int room, .int h, .int st]) np2
      have A8 := A7.app (v := .ref p2) (d := Shelf.d ⟨room, h, st⟩) (at_shelf (SqT.of upd_same))
      refine ⟨l, xs, _, rfl, rfl, A7.el, ?_, ?_⟩
      · have e := dps_len A7.dx
        have e2 : (dshelves ss).length = ss.length := List.length_map ..
        exact small1000 (by omega)
      · refine ⟨upd B2 p2 (.tup [.int room, .int h, .int st]), xs ++ [.ref p2], ss ++ [⟨room, h, st⟩], _, _, rfl, ?_, ?_, by rw [List.length_append]; exact congrArg (· + 1) hlen⟩
        · have e : dshelves (ss ++ [⟨room, h, st⟩]) = dshelves ss ++ [Shelf.d ⟨room, h, st⟩] := List.map_append ..
          rw [e]
          exact A8
        · intro x hx
          rcases List.mem_append.mp hx with hx | hx
          · exact hss x hx
          · rw [List.mem_singleton] at hx
            subst hx
            exact ⟨h0, by dsimp only; omega, hr9, hst⟩
    · rintro σ H2 ⟨B2, xs, ss, v2, v3, rfl, A2, hss, hlen⟩
      have hxl : xs.length = ss.length := (dps_len A2.dx).trans (List.length_map ..)
      -- aisle = taken(row, len(shelves) + 1)
      refine ⟨_, rfl, _, rfl, l, xs, rfl, .inl (SqL.of A2.el), _, 1, rfl, rfl, ρ, _, _, rfl, by omega, A2.now, fun ai H3 ai0 ai1 R3 => ?_⟩
      -- many = [1 + taken(row, 3), taken(row, 6)][taken(row, 2)]
      refine ⟨_, rfl, ρ, 3, _, rfl, by decide, R3, fun a H4 a0 a1 R4 => ⟨1, a, rfl, rfl, _, rfl, ρ, 6, _, rfl, by decide, R4, fun b H5 b0 b1 R5 => ⟨small (by simp), fun p np => ⟨_, rfl, ρ, 2, _, rfl, by decide, R5.grow np, fun c H6 c0 c1 R6 => ?_⟩⟩⟩⟩
      obtain ⟨v, hv, _, hmem⟩ := atI_mem (xs := [V.int (1 + a), V.int b]) c0 c1
      obtain ⟨many, rfl, hm0, hm5⟩ : ∃ c : Int, v = V.int c ∧ 0 ≤ c ∧ c ≤ 5 := by
        simp only [List.mem_cons, List.not_mem_nil, or_false] at hmem
        rcases hmem with rfl | rfl
        · exact ⟨_, rfl, by omega, by omega⟩
        · exact ⟨_, rfl, by omega, by omega⟩
      refine ⟨p, _, c, _, rfl, rfl, SqL.of (R6.same _ _ upd_same), hv, ?_⟩
      have A6 : Acc K ρ B B2 H6 l xs (dshelves ss) := A2.back (R6.less (same_new (R5.same.free np)) A2.now.scr)
      -- if many == 5 and len(shelves) > 3
      refine ⟨fun σ H' => ∃ (many : Int), σ = [some (.ref ρ.r), some (.ref l), v2, v3, some (.int ai), some (.int many), none] ∧ Acc K ρ B B2 H' l xs (dshelves ss) ∧ 0 ≤ many ∧ many ≤ 5, ?_, ?_⟩
      · refine ⟨_, rfl, rfl, _, rfl, ite2 (fun e => ?_) (fun e => ?_)⟩
        · refine ⟨_, rfl, l, xs, rfl, .inl (SqL.of A6.el), _, 3, rfl, rfl, _, rfl, ite2 (fun e2 => ?_) (fun e2 => ?_)⟩
          · refine ⟨_, rfl, ρ, 4, _, rfl, by decide, A6.now, fun t H7 t0 t1 R7 => ⟨rfl, .inr ⟨_, rfl, 4, _, rfl, rfl, _, rfl, A6.back R7, ?_, ?_⟩⟩⟩
            · have := (b2z (decide (V.int t = V.int 3))).1
              omega
            · have := (b2z (decide (V.int t = V.int 3))).2
              omega
          · exact ⟨many, rfl, A6, hm0, hm5⟩
        · exact ⟨many, rfl, A6, hm0, hm5⟩
      · rintro σ H7 ⟨many, rfl, A7, hm0, hm5⟩
        obtain ⟨R7, s7, l7, d7⟩ := A7.done
        -- wishes = []
        refine ⟨small (by simp), fun m nm => ?_⟩
        have W0 : Acc K ρ (upd B2 l (.lst xs)) (upd B2 l (.lst xs)) (upd H7 m (.lst [])) m [] [] := Acc.start (Same.refl _) R7 nm
        -- for k in range(many)
        refine ⟨_, rfl, many, rfl, by omega, by omega, for_range (lo := 0) (n := many.toNat) (fun i σ H' => ∃ (B' : Hp) (ys : List V) (ws : List Wish) (v2 : Option V), σ = [some (.ref ρ.r), some (.ref l), v2, v3, some (.int ai), some (.int many), some (.ref m)] ∧ Acc K ρ (upd B2 l (.lst xs)) B' H' m ys (dwishes ws) ∧ (∀ x ∈ ws, WishOk ss.length many x) ∧ ws.length = i)
          ⟨_, [], [], v2, rfl, W0, fun s h => absurd h (by simp), rfl⟩ ?_ ?_⟩
        · rintro i σ H8 hi ⟨B8, ys, ws, v2, rfl, A8, hws, hwl⟩
          have l8 : SqL K B8 l xs := Same.l A8.s l7
          -- wishes.append(wish(row, len(shelves), [k, many][int(taken(row, 12) == 11)]))
          refine ⟨_, rfl, .inl ⟨rfl, _, SqL.of A8.el⟩, _, rfl, _, rfl, l, xs, rfl, .inl (Same.l A8.R.same l8), _, rfl, _, rfl, small (by simp), fun p np => ⟨_, rfl, ρ, 12, _, rfl, by decide, A8.now.grow np, fun t H9 t0 t1 R9 => ⟨rfl, .inr ⟨_, rfl, ?_⟩⟩⟩⟩
          obtain ⟨x0, x1⟩ := b2z (decide (V.int t = V.int 11))
          obtain ⟨v, hv, _, hmem⟩ := atI_mem (xs := [V.int (0 + (i : Int)), V.int many]) x0 x1
          obtain ⟨c, rfl, hc0, hc1⟩ : ∃ c : Int, v = V.int c ∧ 0 ≤ c ∧ c ≤ many := by
            simp only [List.mem_cons, List.not_mem_nil, or_false] at hmem
            rcases hmem with rfl | rfl
            · exact ⟨_, rfl, by omega, by omega⟩
            · exact ⟨_, rfl, by omega, by omega⟩
          have A9 : Acc K ρ _ B8 H9 m ys (dwishes ws) := A8.back (R9.less (same_new (A8.now.same.free np)) A8.now.scr)
          refine ⟨p, _, _, _, rfl, rfl, SqL.of (R9.same _ _ upd_same), hv, ρ, xs.length, c, _, rfl, by omega, hc0, by omega, A9.now, fun v B10 H10 x s10 R10 d10 hx => ?_⟩
          have A10 := A9.back2 s10 R10
          have A11 := A10.app (wish_del (s10 _ _ upd_same) d10)
          refine ⟨m, ys, _, rfl, rfl, A10.el, ?_, ?_⟩
          · have e := dps_len A10.dx
            have e2 : (dwishes ws).length = ws.length := List.length_map ..
            exact small1000 (by omega)
          · refine ⟨del1 B10 m, ys ++ [v], ws ++ [x], _, rfl, ?_, ?_, by rw [List.length_append]; exact congrArg (· + 1) hwl⟩
            · have e : dwishes (ws ++ [x]) = dwishes ws ++ [x.d] := List.map_append ..
              rw [e]
              exact A11
            · intro y hy
              rcases List.mem_append.mp hy with hy | hy
              · exact hws y hy
              · rw [List.mem_singleton] at hy
                subst hy
                rw [hxl] at hx
                exact ⟨hx.kind, hx.s0, hx.s1, hx.side, hx.crew, hx.k0, hx.k3, hx.after.more hc1⟩
        · rintro σ H8 ⟨B8, ys, ws, v2, rfl, A8, hws, hwl⟩
          obtain ⟨R8, s8, l8, d8⟩ := A8.done
          -- return (shelves, aisle, wishes)
          refine ⟨_, rfl, _, rfl, _, rfl, small (by simp), fun p np => ?_⟩
          have z := R8.same.free np
          have e1 : Same (upd B2 l (.lst xs)) (upd (upd B8 m (.lst ys)) p (.tup [.ref l, .int ai, .ref m])) := s8.trans (same_new z)
          refine q _ _ _ ⟨ss, ai, ws⟩ (s7.trans e1) (R8.grow np) (StoAt.d (l := l) (m := m) (xs := xs) (ys := ys) ⟨SqT.of upd_same, Same.l e1 l7, dps_mono e1 d7, Same.l (same_new z) l8, dps_mono (same_new z) d8⟩) ?_
          have hws' : ∀ x ∈ ws, WishOk ss.length ws.length x := fun x hx => by
            have e : (ws.length : Int) = many := by omega
            rw [e]
            exact hws x hx
          exact ⟨by dsimp only; omega, by dsimp only; omega, hss, ai0, by dsimp only; omega, by dsimp only; omega, hws'⟩
end

/-! ## stores -/
structure Tc (K : PySem.W.Frag) (mg : Str → Option Value) : Prop where
  c_MOST_SHELVES : ∃ t, mg "MOST_SHELVES" = some (.int 5 t)
  c_MOST_ROOM : ∃ t, mg "MOST_ROOM" = some (.int 9 t)
  c_MOST_WISHES : ∃ t, mg "MOST_WISHES" = some (.int 5 t)
  c_MOST_KEEP : ∃ t, mg "MOST_KEEP" = some (.int 3 t)
  c_KINDS : ∃ a, mg "KINDS" = some (.ref a) ∧ ∀ H, SqT K H a [.str "fetch", .str "bring"]
  c_SIDES : ∃ a, mg "SIDES" = some (.ref a) ∧ ∀ H, SqT K H a [.str "left", .str "right", .str "any"]
structure TSx (K : PySem.W.Frag) (mg : Str → Option Value) (C fI fS fW : Addr) (fdI fdS fdW : FuncData) : Prop where
  cl : Cls K C
  mkS : Mk K C fI
  g : mg "Store" = some (.ref C)
  nS : NoAttr K C "_shelves"
  nW : NoAttr K C "_wishes"
  nA : NoAttr K C "aisle"
  m_shelves : Meth K C "shelves" fS
  m_wishes : Meth K C "wishes" fW
  b_init : Binds K fdI ["self", "shelves", "aisle", "wishes"] []
  b_shelves : Binds K fdS ["self"] []
  b_wishes : Binds K fdW ["self"] []
def fsS (l m : Addr) (a : Int) : List (Str × V) := putF "aisle" (.int a) (putF "_wishes" (.ref m) (putF "_shelves" (.ref l) []))
theorem neWS : ¬ (("_shelves" : Str) = "_wishes") := by decide +kernel
theorem neSA : ¬ (("_shelves" : Str) = "aisle") := by decide +kernel
theorem neWA : ¬ (("_wishes" : Str) = "aisle") := by decide +kernel
theorem nshA : ¬ (("shelves" : Str) = "aisle") := by decide +kernel
theorem nshW : ¬ (("shelves" : Str) = "_wishes") := by decide +kernel
theorem nshS : ¬ (("shelves" : Str) = "_shelves") := by decide +kernel
theorem nwiA : ¬ (("wishes" : Str) = "aisle") := by decide +kernel
theorem nwiW : ¬ (("wishes" : Str) = "_wishes") := by decide +kernel
theorem nwiS : ¬ (("wishes" : Str) = "_shelves") := by decide +kernel
theorem fsS_sh {l m : Addr} {a : Int} : (fsS l m a).lookup ("_shelves" : Str) = some (.ref l) := by
  unfold fsS
  rw [lookup_putF, if_neg neSA, lookup_putF, if_neg neWS, lookup_putF, if_pos rfl]
theorem fsS_wi {l m : Addr} {a : Int} : (fsS l m a).lookup ("_wishes" : Str) = some (.ref m) := by
  unfold fsS
  rw [lookup_putF, if_neg neWA, lookup_putF, if_pos rfl]
theorem fsS_ai {l m : Addr} {a : Int} : (fsS l m a).lookup ("aisle" : Str) = some (.int a) := by
  unfold fsS
  rw [lookup_putF, if_pos rfl]
theorem fsS_m1 {l m : Addr} {a : Int} : (fsS l m a).lookup ("shelves" : Str) = none := by
  unfold fsS
  rw [lookup_putF, if_neg nshA, lookup_putF, if_neg nshW, lookup_putF, if_neg nshS]
  rfl
theorem fsS_m2 {l m : Addr} {a : Int} : (fsS l m a).lookup ("wishes" : Str) = none := by
  unfold fsS
  rw [lookup_putF, if_neg nwiA, lookup_putF, if_neg nwiW, lookup_putF, if_neg nwiS]
  rfl
theorem putF_len (f : Str) (v : V) : ∀ fs : List (Str × V), (putF f v fs).length ≤ fs.length + 1
  | [] => Nat.le_refl _
  | (g, x) :: r => by
    unfold putF
    split
    · exact Nat.le_succ _
    · exact Nat.succ_le_succ (putF_len f v r)
/-- the store's object -/
structure ObAt (K : PySem.W.Frag) (C : Addr) (H : Hp) (p dx l m : Addr) (xs ys : List V) (S : Sto) : Prop where
  o : H p = some (.ins C dx (fsS l m S.aisle))
  l : SqL K H l xs
  dx : DpAll K H xs (dshelves S.shelves)
  m : SqL K H m ys
  dy : DpAll K H ys (dwishes S.wishes)
def Ob (K : PySem.W.Frag) (C : Addr) (H : Hp) (p : Addr) (S : Sto) : Prop := ∃ dx l m xs ys, ObAt K C H p dx l m xs ys S
theorem Ob.mono {K : PySem.W.Frag} {C : Addr} {H H' : Hp} {p : Addr} {S : Sto} (s : Same H H') : Ob K C H p S → Ob K C H' p S := by
  rintro ⟨dx, l, m, xs, ys, h⟩
  exact ⟨dx, l, m, xs, ys, s _ _ h.o, Same.l s h.l, dps_mono s h.dx, Same.l s h.m, dps_mono s h.dy⟩
theorem rising_iff {lo n i : Int} {l : List Int} : Rising lo n (i :: l) ↔ lo ≤ i ∧ i < n ∧ Rising (i + 1) n l := Iff.rfl
section
variable {P : Program} {w : World} {K : PySem.W.Frag} {mg : Str → Option Value} {base : Heap}
def spRising (K : PySem.W.Frag) : Sp := fun vs H Q _ => ∃ (t : Addr) (l : List Int) (m : Int), vs = [.ref t, .int m] ∧ SqT K H t (l.map V.int) ∧ ∀ b, (b = true ↔ Rising 0 m l) → Q (.bl b) H
/-! _is_rising: 0 numbers, 1 many, 2 lowest, 3 number -/
abbrev s__is_rising : Stmt := topS 36
abbrev N__is_rising : List Str := ["numbers", "many", "lowest", "number"]
theorem sc__is_rising : FnScope N__is_rising ["numbers", "many"] (defScope s__is_rising) := ⟨rfl, rfl, rfl, by decide +kernel, rfl, by decide +kernel, by decide +kernel⟩
theorem ok__is_rising {f : Addr} {fd : FuncData} (D : Dfs K mg "_is_rising" s__is_rising ["numbers", "many"] f fd) : Cal P w K mg base 1 "_is_rising" ["numbers", "many"] (spRising K) f fd := by
  refine D.cal (D.F.ok sc__is_rising (fun vs H Q E h => ?_) (fun cdv A outer s H vs Q E hr h => ?_))
  · obtain ⟨t, l, m, rfl, _⟩ := h
    rfl
  · obtain ⟨t, l, m, rfl, ht, q⟩ := h
    refine ⟨_, (pss_cons (ps_set (i := 2) sc__is_rising.nd rfl (Or.inl rfl) pe_int)
      (pss_cons (ps_for PassesOwn.never rfl (pi_tup (pv 0)) (pg_name (i := 3) sc__is_rising.nd rfl (Or.inl rfl)) (pss_cons (ps_if (pt_not (pt_chain op_le op_lt (pv 2) (pv 3) (pv 1))) (pss_one (ps_ret pe_bl)) pss_nil)
      (pss_one (ps_set (i := 2) sc__is_rising.nd rfl (Or.inl rfl) (pe_op op_add (pv 3) pe_int)))))
      (pss_one (ps_ret pe_bl)))), ?_⟩
    refine ⟨_, rfl, t, rfl, ⟨_, ht⟩, for_tup (K := K) (a := t) (xs := l.map V.int) (fun i σ H' => ∃ (lo : Int) (v : Option V), σ = [some (.ref t), some (.int m), some (.int lo), v] ∧ H' = H ∧ (Rising 0 m l ↔ Rising lo m (l.drop i)))
      ⟨0, none, rfl, rfl, Iff.rfl⟩ (fun i σ H' _ ⟨_, _, _, e, _⟩ => by rw [e]; exact ht) ?_ ?_⟩
    · rintro i y σ H' hi ⟨lo, v, rfl, rfl, hri⟩
      obtain ⟨z, hz, rfl⟩ : ∃ z, l[i]? = some z ∧ y = V.int z := by
        rw [List.getElem?_map] at hi
        cases e : l[i]? with
        | none =>
          rw [e] at hi
          cases hi
        | some z =>
          rw [e] at hi
          exact ⟨z, rfl, (Option.some.inj hi).symm⟩
      have hd : l.drop i = z :: l.drop (i + 1) := by
        obtain ⟨h1, h2⟩ := List.getElem?_eq_some_iff.mp hz
        rw [List.drop_eq_getElem_cons h1, h2]
      rw [hd, rising_iff] at hri
      refine ⟨_, rfl, _, rfl, _, _, rfl, rfl, _, rfl, ite2 (fun e => ?_) (fun e => ?_)⟩
      · have e1 := yed e
        refine ⟨_, rfl, _, _, rfl, rfl, _, rfl, ite2 (fun e => ?_) (fun e => ?_)⟩
        · have e2 : ¬ z < m := by
            intro z2
            rw [decide_eq_true z2] at e
            cases e
          exact q false ⟨fun h => absurd h (by decide), fun h => absurd (hri.mp h).2.1 e2⟩
        · have e2 : z < m := by
            by_cases z2 : z < m
            · exact z2
            · rw [decide_eq_false z2] at e
              exact absurd rfl e
          refine ⟨_, rfl, _, _, rfl, rfl, z + 1, some (.int z), rfl, rfl, ?_⟩
          exact hri.trans ⟨fun h => h.2.2, fun h => ⟨e1, e2, h⟩⟩
      · have e1 := nod e
        refine ⟨_, rfl, iteT ?_⟩
        exact q false ⟨fun h => absurd h (by decide), fun h => absurd (hri.mp h).1 e1⟩
    · rintro σ H' ⟨lo, v, rfl, rfl, hri⟩
      rw [List.length_map, List.drop_length] at hri
      exact q true ⟨fun _ => hri.mpr trivial, fun _ => rfl⟩
def spIsShelf (K : PySem.W.Frag) : Sp := fun vs H Q _ => ∃ (v : V) (s : Shelf), vs = [v] ∧ Dp K H v s.d ∧ ∀ b H', (b = true ↔ ShelfOk s) → Same H H' → Q (.bl b) H'
/-! _is_shelf: 0 shelf, 1 room, 2 has, 3 sticks -/
abbrev s__is_shelf : Stmt := topS 34
abbrev N__is_shelf : List Str := ["shelf", "room", "has", "sticks"]
theorem sc__is_shelf : FnScope N__is_shelf ["shelf"] (defScope s__is_shelf) := ⟨rfl, rfl, rfl, by decide +kernel, rfl, by decide +kernel, by decide +kernel⟩
theorem ok__is_shelf {f : Addr} {fd : FuncData} (D : Dfs K mg "_is_shelf" s__is_shelf ["shelf"] f fd) (T : Tx K mg) (Tk : Tc K mg) : Cal P w K mg base 1 "_is_shelf" ["shelf"] (spIsShelf K) f fd := by
  obtain ⟨_, g_MOST_ROOM⟩ := Tk.c_MOST_ROOM
  refine D.cal (D.F.ok sc__is_shelf (fun vs H Q E h => ?_) (fun cdv A outer s H vs Q E hr h => ?_))
  · obtain ⟨v, S, rfl, _⟩ := h
    rfl
  · obtain ⟨v, S, rfl, hv, q⟩ := h
    obtain ⟨a, rfl, ha⟩ := shelf_at hv
    refine ⟨_, (pss_cons (ps_if (PW.pt (pw_or (pt_not (pt_val (pe_callB (kisi (K := K)) (by rfl) T.n_isinstance (by decide +kernel) (pa_cons (pv 0) (pa_cons (pe_bltn (v := .ty "tuple") (by rfl) T.n_tuple boot_tuple rfl) pa_nil))))) (pw_or1 (pt_cmpR op_ne (pe_callB (klen (K := K)) (by rfl) T.n_len (by decide +kernel) (pa_cons (pv 0) pa_nil)) pe_int (nomark _))))) (pss_one (ps_ret pe_bl)) pss_nil)
      (pss_cons (ps_asg (pv 0) (pg_tup (by rfl) (pgs_cons (pg_name (i := 1) sc__is_shelf.nd rfl (Or.inl rfl)) (pgs_cons (pg_name (i := 2) sc__is_shelf.nd rfl (Or.inl rfl)) (pgs_cons (pg_name (i := 3) sc__is_shelf.nd rfl (Or.inl rfl)) pgs_nil)))))
      (pss_one (ps_ret (pe_and (pe_chain3 op_le op_le op_le pe_int (pv 2) (pv 1) (pe_glob (v := .int 9) (by rfl) g_MOST_ROOM ⟨_, rfl⟩)) (pe_one (pe_cmpR (kin_seq (K := K)) (pv 3) (pe_tup (pa_cons pe_int (pa_cons pe_int pa_nil))) (by rfl)))))))), ?_⟩
    refine ⟨_, rfl, _, _, _, _, true, rfl, .ty "tuple", tyx_tup ha, kit_ty (by decide +kernel), _, rfl, iteF ⟨_, rfl, a, _, rfl, .inr ha, rfl, _, rfl, iteF ?_⟩⟩
    refine ⟨_, rfl, a, _, rfl, ha, rfl, _, _, rfl, _, _, rfl, _, _, rfl, rfl, ?_⟩
    refine ⟨_, rfl, _, _, rfl, rfl, _, rfl, ite2 (fun e => ?_) (fun e => ?_)⟩
    · have e1 := yed e
      refine ⟨_, rfl, _, _, rfl, rfl, _, rfl, ite2 (fun e => ?_) (fun e => ?_)⟩
      · have e2 := yed e
        refine ⟨_, _, rfl, rfl, _, rfl, ite2 (fun e => ?_) (fun e => ?_)⟩
        · have e3 := yed e
          refine ⟨_, rfl, small (by simp), fun p np => ⟨p, _, rfl, .inr tup_new, rfl, rfl, ?_⟩⟩
          refine q _ _ ?_ (same_new np)
          show inV (.int S.sticks) [.int 0, .int 1] = true ↔ _
          unfold inV
          simp only [List.any_cons, List.any_nil, Bool.or_false, Bool.or_eq_true]
          constructor
          · intro h
            refine ⟨e1, e2, e3, ?_⟩
            rcases h with h | h
            · exact .inl (by simpa [eqV] using Eq.symm (of_decide_eq_true h))
            · exact .inr (by simpa [eqV] using Eq.symm (of_decide_eq_true h))
          · rintro ⟨_, _, _, h | h⟩
            · exact .inl (by rw [h]; rfl)
            · exact .inr (by rw [h]; rfl)
        · have e3 := nod e
          exact q false _ ⟨fun h => absurd h (by decide), fun h => absurd h.h2 e3⟩ (Same.refl _)
      · have e2 := nod e
        exact ⟨_, rfl, iteF (q false _ ⟨fun h => absurd h (by decide), fun h => absurd h.h1 e2⟩ (Same.refl _))⟩
    · have e1 := nod e
      exact ⟨_, rfl, iteF (q false _ ⟨fun h => absurd h (by decide), fun h => absurd h.h0 e1⟩ (Same.refl _))⟩
end

section
variable {P : Program} {w : World} {K : PySem.W.Frag} {mg : Str → Option Value} {base : Heap}
def spIsWish (K : PySem.W.Frag) : Sp := fun vs H Q _ => ∃ (v : V) (x : Wish) (n m : Int), vs = [v, .int n, .int m] ∧ Dp K H v x.d ∧ ∀ b H', (b = true ↔ WishOk n m x) → Same H H' → Q (.bl b) H'
/-! _is_wish: 0 wish, 1 many_shelves, 2 many_wishes, 3 kind, 4 shelf, 5 side, 6 crew, 7 keep, 8 after -/
abbrev s__is_wish : Stmt := topS 35
abbrev N__is_wish : List Str := ["wish", "many_shelves", "many_wishes", "kind", "shelf", "side", "crew", "keep", "after"]
theorem sc__is_wish : FnScope N__is_wish ["wish", "many_shelves", "many_wishes"] (defScope s__is_wish) := ⟨rfl, rfl, rfl, by decide +kernel, rfl, by decide +kernel, by decide +kernel⟩
theorem ok__is_wish {f f1 : Addr} {fd fd1 : FuncData} (D : Dfs K mg "_is_wish" s__is_wish ["wish", "many_shelves", "many_wishes"] f fd) (T : Tx K mg) (Tk : Tc K mg) (C__is_rising : Cal P w K mg base 1 "_is_rising" ["numbers", "many"] (spRising K) f1 fd1) :
    Cal P w K mg base 2 "_is_wish" ["wish", "many_shelves", "many_wishes"] (spIsWish K) f fd := by
  obtain ⟨_, g_MOST_KEEP⟩ := Tk.c_MOST_KEEP
  obtain ⟨a_KINDS, g_KINDS, hK⟩ := Tk.c_KINDS
  obtain ⟨a_SIDES, g_SIDES, hSd⟩ := Tk.c_SIDES
  refine D.cal (D.F.ok sc__is_wish (fun vs H Q E h => ?_) (fun cdv A outer s H vs Q E hr h => ?_))
  · obtain ⟨v, x, n, m, rfl, _⟩ := h
    rfl
  · obtain ⟨v, x, n, m, rfl, hv, q⟩ := h
    obtain ⟨a, t, rfl, ha, ht⟩ := wish_at hv
    obtain ⟨kind, shelf, side, crew, keep, after⟩ := x
    dsimp only at ha ht
    refine ⟨_, (pss_cons (ps_if (PW.pt (pw_or (pt_not (pt_val (pe_callB (kisi (K := K)) (by rfl) T.n_isinstance (by decide +kernel) (pa_cons (pv 0) (pa_cons (pe_bltn (v := .ty "tuple") (by rfl) T.n_tuple boot_tuple rfl) pa_nil))))) (pw_or1 (pt_cmpR op_ne (pe_callB (klen (K := K)) (by rfl) T.n_len (by decide +kernel) (pa_cons (pv 0) pa_nil)) pe_int (nomark _))))) (pss_one (ps_ret pe_bl)) pss_nil)
      (pss_cons (ps_asg (pv 0) (pg_tup (by rfl) (pgs_cons (pg_name (i := 3) sc__is_wish.nd rfl (Or.inl rfl)) (pgs_cons (pg_name (i := 4) sc__is_wish.nd rfl (Or.inl rfl)) (pgs_cons (pg_name (i := 5) sc__is_wish.nd rfl (Or.inl rfl)) (pgs_cons (pg_name (i := 6) sc__is_wish.nd rfl (Or.inl rfl)) (pgs_cons (pg_name (i := 7) sc__is_wish.nd rfl (Or.inl rfl)) (pgs_cons (pg_name (i := 8) sc__is_wish.nd rfl (Or.inl rfl)) pgs_nil))))))))
      (pss_cons (ps_if (PW.pt (pw_or (pt_cmpR (knotIn_seq (K := K)) (pv 3) (pe_glob (v := .ref a_KINDS) (by rfl) g_KINDS rfl) (by rfl)) (pw_or (pt_cmpR (knotIn_seq (K := K)) (pv 5) (pe_glob (v := .ref a_SIDES) (by rfl) g_SIDES rfl) (by rfl)) (pw_or1 (pt_cmpR (knotIn_seq (K := K)) (pv 6) (pe_tup (pa_cons pe_int (pa_cons pe_int pa_nil))) (by rfl)))))) (pss_one (ps_ret pe_bl)) pss_nil)
      (pss_cons (ps_if (PW.pt (pw_or (pt_not (pt_chain op_le op_lt pe_int (pv 4) (pv 1))) (pw_or1 (pt_not (pt_chain op_le op_le pe_int (pv 7) (pe_glob (v := .int 3) (by rfl) g_MOST_KEEP ⟨_, rfl⟩)))))) (pss_one (ps_ret pe_bl)) pss_nil)
      (pss_one (ps_ret (pe_and (pe_callB (kisi (K := K)) (by rfl) T.n_isinstance (by decide +kernel) (pa_cons (pv 8) (pa_cons (pe_bltn (v := .ty "tuple") (by rfl) T.n_tuple boot_tuple rfl) pa_nil))) (pe_one (pe_call C__is_rising.G (hr.mono (by decide)) (by rfl) C__is_rising.g C__is_rising.kp C__is_rising.b .nil pass0 (pa_cons (pv 8) (pa_cons (pv 2) pa_nil))))))))))), ?_⟩
    refine ⟨_, rfl, _, _, _, _, true, rfl, .ty "tuple", tyx_tup ha, kit_ty (by decide +kernel), _, rfl, iteF ⟨_, rfl, a, _, rfl, .inr ha, rfl, _, rfl, iteF ?_⟩⟩
    refine ⟨_, rfl, a, _, rfl, ha, rfl, _, _, rfl, _, _, rfl, _, _, rfl, _, _, rfl, _, _, rfl, _, _, rfl, rfl, ?_⟩
    have ik : inV (.str kind) [.str "fetch", .str "bring"] = true ↔ kind = "fetch" ∨ kind = "bring" := by
      have e := inV_strs (x := kind) (l := ["fetch", "bring"])
      rw [List.mem_cons, List.mem_singleton] at e
      exact e
    have isd : inV (.str side) [.str "left", .str "right", .str "any"] = true ↔ side = "left" ∨ side = "right" ∨ side = "any" := by
      have e := inV_strs (x := side) (l := ["left", "right", "any"])
      rw [List.mem_cons, List.mem_cons, List.mem_singleton] at e
      exact e
    have ic : inV (.int crew) [.int 0, .int 1] = true ↔ crew = 0 ∨ crew = 1 := by
      have e := inV_ints (x := crew) (l := [0, 1])
      rw [List.mem_cons, List.mem_singleton] at e
      exact e
    refine ⟨_, rfl, a_KINDS, _, rfl, .inr (hK _), rfl, rfl, _, rfl, ite2 (fun e => iteT ?_) (fun e => ?_)⟩
    · have e1 : ¬ (kind = "fetch" ∨ kind = "bring") := fun z => by
        have z2 := ik.mpr z
        rw [if_pos rfl, z2] at e
        cases e
      exact q false _ ⟨fun h => absurd h (by decide), fun h => absurd h.kind e1⟩ (Same.refl _)
    have k1 : kind = "fetch" ∨ kind = "bring" := ik.mp (by
      rw [if_pos rfl] at e
      cases z : inV (.str kind) [.str "fetch", .str "bring"] with
      | true => rfl
      | false => rw [z] at e; exact absurd rfl e)
    refine ⟨_, rfl, a_SIDES, _, rfl, .inr (hSd _), rfl, rfl, _, rfl, ite2 (fun e => iteT ?_) (fun e => ?_)⟩
    · have e1 : ¬ (side = "left" ∨ side = "right" ∨ side = "any") := fun z => by
        have z2 := isd.mpr z
        rw [if_pos rfl, z2] at e
        cases e
      exact q false _ ⟨fun h => absurd h (by decide), fun h => absurd h.side e1⟩ (Same.refl _)
    have s1 : side = "left" ∨ side = "right" ∨ side = "any" := isd.mp (by
      rw [if_pos rfl] at e
      cases z : inV (.str side) [.str "left", .str "right", .str "any"] with
      | true => rfl
      | false => rw [z] at e; exact absurd rfl e)
    refine ⟨_, rfl, small (by simp), fun p np => ⟨p, _, rfl, .inr tup_new, rfl, rfl, _, rfl, ite2 (fun e => ?_) (fun e => ?_)⟩⟩
    · have e1 : ¬ (crew = 0 ∨ crew = 1) := fun z => by
        have z2 := ic.mpr z
        rw [if_pos rfl, z2] at e
        cases e
      exact q false _ ⟨fun h => absurd h (by decide), fun h => absurd h.crew e1⟩ (same_new np)
    have c1 : crew = 0 ∨ crew = 1 := ic.mp (by
      rw [if_pos rfl] at e
      cases z : inV (.int crew) [.int 0, .int 1] with
      | true => rfl
      | false => rw [z] at e; exact absurd rfl e)
    -- 0 <= shelf < many_shelves
    refine ⟨_, rfl, _, _, rfl, rfl, _, rfl, ite2 (fun e => ?_) (fun e => ?_)⟩
    rotate_left
    · have e1 := nod e
      exact ⟨_, rfl, iteT (iteT (q false _ ⟨fun h => absurd h (by decide), fun h => absurd h.s0 e1⟩ (same_new np)))⟩
    have e1 := yed e
    refine ⟨_, rfl, _, _, rfl, rfl, _, rfl, ?_⟩
    by_cases e2 : shelf < n
    rotate_left
    · exact itnF e2 (iteT (q false _ ⟨fun h => absurd h (by decide), fun h => absurd h.s1 e2⟩ (same_new np)))
    refine iteNS e2 ?_
    -- 0 <= keep <= MOST_KEEP
    refine ⟨_, rfl, _, _, rfl, rfl, _, rfl, ite2 (fun e => ?_) (fun e => ?_)⟩
    rotate_left
    · have e3 := nod e
      exact ⟨_, rfl, iteT (q false _ ⟨fun h => absurd h (by decide), fun h => absurd h.k0 e3⟩ (same_new np))⟩
    have e3 := yed e
    refine ⟨_, _, rfl, rfl, _, rfl, ?_⟩
    by_cases e4 : keep ≤ 3
    rotate_left
    · exact itnF e4 (q false _ ⟨fun h => absurd h (by decide), fun h => absurd h.k3 e4⟩ (same_new np))
    refine iteNS e4 ?_
    have ht2 := Same.t (same_new (o := .tup [.int 0, .int 1]) np) ht
    refine ⟨_, rfl, _, _, _, _, true, rfl, .ty "tuple", tyx_tup ht2, kit_ty (by decide +kernel), _, rfl, iteT ?_⟩
    refine ⟨_, rfl, _, rfl, t, after, m, rfl, ht2, fun b hb => q b _ ?_ (same_new np)⟩
    rw [hb]
    exact ⟨fun h => ⟨k1, e1, e2, s1, c1, e3, e4, h⟩, fun h => h.after⟩
end

section
variable {P : Program} {w : World} {K : PySem.W.Frag} {mg : Str → Option Value} {base : Heap}
/-- the store that is handed in is one -/
def spRefuse0 (K : PySem.W.Frag) : Sp := fun vs H Q _ => ∃ (l m : Addr) (xs ys : List V) (S : Sto), vs = [.ref l, .int S.aisle, .ref m] ∧ SqL K H l xs ∧ DpAll K H xs (dshelves S.shelves) ∧ SqL K H m ys ∧ DpAll K H ys (dwishes S.wishes) ∧ StoOk S ∧ ∀ H', Same H H' → Q .non H'
/-! _refuse_no_store: 0 shelves, 1 aisle, 2 wishes, 3 number, 4 shelf, 5 wish -/
abbrev s__refuse_no_store : Stmt := topS 33
abbrev N__refuse_no_store : List Str := ["shelves", "aisle", "wishes", "number", "shelf", "wish"]
theorem sc__refuse_no_store : FnScope N__refuse_no_store ["shelves", "aisle", "wishes"] (defScope s__refuse_no_store) := ⟨rfl, rfl, rfl, by decide +kernel, rfl, by decide +kernel, by decide +kernel⟩
theorem ok__refuse_no_store {f f1 f2 : Addr} {fd fd1 fd2 : FuncData} (D : Dfs K mg "_refuse_no_store" s__refuse_no_store ["shelves", "aisle", "wishes"] f fd) (T : Tx K mg) (Tk : Tc K mg) (C__is_shelf : Cal P w K mg base 1 "_is_shelf" ["shelf"] (spIsShelf K) f1 fd1)
    (C__is_wish : Cal P w K mg base 2 "_is_wish" ["wish", "many_shelves", "many_wishes"] (spIsWish K) f2 fd2) : Cal P w K mg base 3 "_refuse_no_store" ["shelves", "aisle", "wishes"] (spRefuse0 K) f fd := by
  obtain ⟨_, g_MOST_SHELVES⟩ := Tk.c_MOST_SHELVES
  obtain ⟨_, g_MOST_WISHES⟩ := Tk.c_MOST_WISHES
  refine D.cal (D.F.ok sc__refuse_no_store (fun vs H Q E h => ?_) (fun cdv A outer s H vs Q E hr h => ?_))
  · obtain ⟨l, m, xs, ys, S, rfl, _⟩ := h
    rfl
  · obtain ⟨l, m, xs, ys, S, rfl, hl, dl, hm, dm, ok, q⟩ := h
    have lx : xs.length = S.shelves.length := (dps_len dl).trans (List.length_map ..)
    have ly : ys.length = S.wishes.length := (dps_len dm).trans (List.length_map ..)
    have n1 := ok.n1
    have n5 := ok.n5
    have w5 := ok.w5
    have a0 := ok.a0
    have a1 := ok.a1
    refine ⟨_, (pss_cons (ps_if (pt_not (pt_chain op_le op_le pe_int (pe_callB (klen (K := K)) (by rfl) T.n_len (by decide +kernel) (pa_cons (pv 0) pa_nil)) (pe_glob (v := .int 5) (by rfl) g_MOST_SHELVES ⟨_, rfl⟩))) (pss_one ps_never) pss_nil)
      (pss_cons (ps_for PassesOwn.never rfl (pi_enum (by rfl) T.n_enumerate (pa_cons (pv 0) pa_nil)) (pg_tup (by rfl) (pgs_cons (pg_name (i := 3) sc__refuse_no_store.nd rfl (Or.inl rfl)) (pgs_cons (pg_name (i := 4) sc__refuse_no_store.nd rfl (Or.inl rfl)) pgs_nil))) (pss_one (ps_if (pt_not (pt_val (pe_call C__is_shelf.G (hr.mono (by decide)) (by rfl) C__is_shelf.g C__is_shelf.kp C__is_shelf.b .nil pass0 (pa_cons (pv 4) pa_nil)))) (pss_one ps_never) pss_nil)))
      (pss_cons (ps_if (pt_not (pt_chain op_le op_le pe_int (pv 1) (pe_callB (klen (K := K)) (by rfl) T.n_len (by decide +kernel) (pa_cons (pv 0) pa_nil)))) (pss_one ps_never) pss_nil)
      (pss_cons (ps_if (pt_cmpR op_gt (pe_callB (klen (K := K)) (by rfl) T.n_len (by decide +kernel) (pa_cons (pv 2) pa_nil)) (pe_glob (v := .int 5) (by rfl) g_MOST_WISHES ⟨_, rfl⟩) (nomark _)) (pss_one ps_never) pss_nil)
      (pss_one (ps_for PassesOwn.never rfl (pi_enum (by rfl) T.n_enumerate (pa_cons (pv 2) pa_nil)) (pg_tup (by rfl) (pgs_cons (pg_name (i := 3) sc__refuse_no_store.nd rfl (Or.inl rfl)) (pgs_cons (pg_name (i := 5) sc__refuse_no_store.nd rfl (Or.inl rfl)) pgs_nil))) (pss_one (ps_if (pt_not (pt_val (pe_call C__is_wish.G (hr.mono (by decide)) (by rfl) C__is_wish.g C__is_wish.kp C__is_wish.b .nil pass0 (pa_cons (pv 5) (pa_cons (pe_callB (klen (K := K)) (by rfl) T.n_len (by decide +kernel) (pa_cons (pv 0) pa_nil)) (pa_cons (pe_callB (klen (K := K)) (by rfl) T.n_len (by decide +kernel) (pa_cons (pv 2) pa_nil)) pa_nil)))))) (pss_one ps_never) pss_nil)))))))), ?_⟩
    refine ⟨_, rfl, l, xs, rfl, .inl hl, _, _, rfl, rfl, _, rfl, itD (by omega) ⟨_, _, rfl, rfl, _, rfl, iteNS (by omega) ?_⟩⟩
    -- the shelves
    refine ⟨_, rfl, l, xs, rfl, hl, for_enum (K := K) (a := l) (xs := xs) (fun i σ H' => Same H H' ∧ ∃ v3 v4 : Option V, σ = [some (.ref l), some (.int S.aisle), some (.ref m), v3, v4, none]) ⟨Same.refl _, none, none, rfl⟩ (fun i σ H' _ h => Same.l h.1 hl) ?_ ?_⟩
    · rintro i x σ H' p hx ⟨s, v3, v4, rfl⟩ np
      obtain ⟨d, hd, dx⟩ := dps_of_get dl hx
      obtain ⟨sh, hsh, rfl⟩ : ∃ sh, S.shelves[i]? = some sh ∧ d = sh.d := by
        unfold dshelves at hd
        rw [List.getElem?_map] at hd
        cases e : S.shelves[i]? with
        | none =>
          rw [e] at hd
          cases hd
        | some z =>
          rw [e] at hd
          exact ⟨z, rfl, (Option.some.inj hd).symm⟩
      have s2 := Same.new (o := .tup [.int (i : Nat), x]) s np
      refine ⟨p, _, rfl, tup_new, rfl, _, _, rfl, _, _, rfl, rfl, ?_⟩
      refine ⟨_, rfl, x, sh, rfl, dp_mono s2 dx, fun b H2 hb s3 => ⟨_, rfl, itnB (hb.mpr (ok.sh _ (List.mem_of_getElem? hsh))) ⟨s2.trans s3, _, _, rfl⟩⟩⟩
    · rintro σ H1 ⟨s, v3, v4, rfl⟩
      have hl1 := Same.l s hl
      have hm1 := Same.l s hm
      refine ⟨_, rfl, _, _, rfl, rfl, _, rfl, itD (by omega) ⟨_, rfl, l, xs, rfl, .inl hl1, _, _, rfl, rfl, _, rfl, iteNS (by omega) ?_⟩⟩
      refine ⟨_, rfl, m, ys, rfl, .inl hm1, _, _, rfl, rfl, _, rfl, itF (by omega) ?_⟩
      refine ⟨_, rfl, m, ys, rfl, hm1, for_enum (K := K) (a := m) (xs := ys) (fun i σ H' => Same H H' ∧ ∃ v3 v5 : Option V, σ = [some (.ref l), some (.int S.aisle), some (.ref m), v3, v4, v5]) ⟨s, v3, none, rfl⟩ (fun i σ H' _ h => Same.l h.1 hm) ?_ ?_⟩
      · rintro i x σ H' p hx ⟨s, v3, v5, rfl⟩ np
        obtain ⟨d, hd, dx⟩ := dps_of_get dm hx
        obtain ⟨sh, hsh, rfl⟩ : ∃ sh, S.wishes[i]? = some sh ∧ d = sh.d := by
          unfold dwishes at hd
          rw [List.getElem?_map] at hd
          cases e : S.wishes[i]? with
          | none =>
            rw [e] at hd
            cases hd
          | some z =>
            rw [e] at hd
            exact ⟨z, rfl, (Option.some.inj hd).symm⟩
        have s2 := Same.new (o := .tup [.int (i : Nat), x]) s np
        refine ⟨p, _, rfl, tup_new, rfl, _, _, rfl, _, _, rfl, rfl, ?_⟩
        refine ⟨_, rfl, _, rfl, l, xs, rfl, .inl (Same.l s2 hl), _, rfl, m, ys, rfl, .inl (Same.l s2 hm), x, sh, _, _, rfl, dp_mono s2 dx, fun b H2 hb s3 => ⟨_, rfl, itnB (hb.mpr ?_) ⟨s2.trans s3, _, _, rfl⟩⟩⟩
        rw [lx, ly]
        exact ok.ws _ (List.mem_of_getElem? hsh)
      · rintro σ H2 ⟨s, v3, v5, rfl⟩
        exact q H2 s
def spInit (K : PySem.W.Frag) (C : Addr) : Sp := fun vs H Q _ => ∃ (p dx l m : Addr) (xs ys : List V) (S : Sto) (B : Hp), vs = [.ref p, .ref l, .int S.aisle, .ref m] ∧ H p = some (.ins C dx []) ∧ Same B H ∧ B p = none ∧
  SqL K B l xs ∧ DpAll K B xs (dshelves S.shelves) ∧ SqL K B m ys ∧ DpAll K B ys (dwishes S.wishes) ∧ StoOk S ∧ ∀ H', Same B H' → Ob K C H' p S → Q .non H'
/-! Store.__init__: 0 self, 1 shelves, 2 aisle, 3 wishes -/
abbrev s_Store___init__ : Stmt := inClass (topS 32) 0
abbrev N_Store___init__ : List Str := ["self", "shelves", "aisle", "wishes"]
theorem sc_Store___init__ : FnScope N_Store___init__ ["self", "shelves", "aisle", "wishes"] (defScope s_Store___init__) := ⟨rfl, rfl, rfl, by decide +kernel, rfl, by decide +kernel, by decide +kernel⟩
theorem ok_Store_init {f f1 C fS fW : Addr} {fd fd1 fdS fdW : FuncData} (F : Fun K "__init__" "Store.__init__" s_Store___init__ f fd) (T : Tx K mg) (TS : TSx K mg C f fS fW fd fdS fdW) (C__refuse_no_store : Cal P w K mg base 3 "_refuse_no_store" ["shelves", "aisle", "wishes"] (spRefuse0 K) f1 fd1) :
    FnOk P w K mg base CX0 4 f fd ["self", "shelves", "aisle", "wishes"] (spInit K C) := by
  refine F.ok sc_Store___init__ (fun vs H Q E h => ?_) (fun cdv A outer s H vs Q E hr h => ?_)
  · obtain ⟨p, dx, l, m, xs, ys, S, B, rfl, _⟩ := h
    rfl
  · obtain ⟨p, dx, l, m, xs, ys, S, B, rfl, hp, s, bp, hl, dl, hm, dm, ok, q⟩ := h
    refine ⟨_, (pss_cons (ps_expr (pe_call C__refuse_no_store.G (hr.mono (by decide)) (by rfl) C__refuse_no_store.g C__refuse_no_store.kp C__refuse_no_store.b .nil pass0 (pa_cons (pv 1) (pa_cons (pv 2) (pa_cons (pv 3) pa_nil)))))
      (pss_cons (ps_fld (pv 0) (pe_callTy (klist_of (K := K)) (by rfl) T.n_list (by decide +kernel) (pa_cons (pv 1) pa_nil)) rfl)
      (pss_cons (ps_fld (pv 0) (pe_callTy (klist_of (K := K)) (by rfl) T.n_list (by decide +kernel) (pa_cons (pv 3) pa_nil)) rfl)
      (pss_one (ps_fld (pv 0) (pv 2) rfl))))), ?_⟩
    refine ⟨_, rfl, _, rfl, _, rfl, l, m, xs, ys, S, rfl, Same.l s hl, dps_mono s dl, Same.l s hm, dps_mono s dm, ok, fun H1 s1 => ?_⟩
    have s01 := s.trans s1
    -- self._shelves = list(shelves)
    refine ⟨_, rfl, l, xs, rfl, .inl (Same.l s01 hl), fun l2 nl2 => ?_⟩
    have hp1 := s1 _ _ hp
    have np2 : p ≠ l2 := ne_of_none hp1 nl2
    have hp2 : (upd H1 l2 (.lst xs)) p = some (.ins C dx []) := by
      rw [upd_ne np2]
      exact hp1
    refine ⟨_, rfl, p, C, dx, [], rfl, hp2, TS.cl, TS.nS, by simp, ?_⟩
    have s2 : Same (upd B l2 (.lst xs)) (upd H1 l2 (.lst xs)) := Same.grow s01 nl2
    have bp2 : (upd B l2 (.lst xs)) p = none := by
      rw [upd_ne np2]
      exact bp
    have s3 : Same (upd B l2 (.lst xs)) (upd (upd H1 l2 (.lst xs)) p (.ins C dx (putF "_shelves" (.ref l2) []))) := Same.put s2 bp2
    have hp3 : (upd (upd H1 l2 (.lst xs)) p (.ins C dx (putF "_shelves" (.ref l2) []))) p = _ := upd_same
    have sB2 : Same B (upd B l2 (.lst xs)) := same_new (s01.free nl2)
    generalize upd (upd H1 l2 (.lst xs)) p (.ins C dx (putF "_shelves" (.ref l2) [])) = H3 at s3 hp3
    have hB2 : SqL K (upd B l2 (.lst xs)) l2 xs := lst_new
    generalize upd B l2 (.lst xs) = B2 at s3 bp2 sB2 hB2
    -- self._wishes = list(wishes)
    refine ⟨_, rfl, m, ys, rfl, .inl (Same.l (sB2.trans s3) hm), fun m2 nm2 => ?_⟩
    have np4 : p ≠ m2 := ne_of_none hp3 nm2
    have hp4 : (upd H3 m2 (.lst ys)) p = some (.ins C dx (putF "_shelves" (.ref l2) [])) := by
      rw [upd_ne np4]
      exact hp3
    refine ⟨_, rfl, p, C, dx, _, rfl, hp4, TS.cl, TS.nW, Nat.lt_of_le_of_lt (putF_len _ _ _) (by simp), ?_⟩
    have s5 : Same (upd B2 m2 (.lst ys)) (upd H3 m2 (.lst ys)) := Same.grow s3 nm2
    have bp5 : (upd B2 m2 (.lst ys)) p = none := by
      rw [upd_ne np4]
      exact bp2
    have sB5 : Same B2 (upd B2 m2 (.lst ys)) := same_new (s3.free nm2)
    have hB5 : SqL K (upd B2 m2 (.lst ys)) m2 ys := lst_new
    have s6 : Same (upd B2 m2 (.lst ys)) (upd (upd H3 m2 (.lst ys)) p (.ins C dx (putF "_wishes" (.ref m2) (putF "_shelves" (.ref l2) [])))) := Same.put s5 bp5
    have hp6 : (upd (upd H3 m2 (.lst ys)) p (.ins C dx (putF "_wishes" (.ref m2) (putF "_shelves" (.ref l2) [])))) p = _ := upd_same
    generalize upd (upd H3 m2 (.lst ys)) p (.ins C dx (putF "_wishes" (.ref m2) (putF "_shelves" (.ref l2) []))) = H6 at s6 hp6
    generalize upd B2 m2 (.lst ys) = B5 at s6 bp5 sB5 hB5
    -- self.aisle = aisle
    refine ⟨_, rfl, _, rfl, p, C, dx, _, rfl, hp6, TS.cl, TS.nA, Nat.lt_of_le_of_lt (putF_len _ _ _) (Nat.lt_of_le_of_lt (Nat.succ_le_succ (putF_len _ _ _)) (by simp)), ?_⟩
    have s7 := Same.put (o := .ins C dx (fsS l2 m2 S.aisle)) s6 bp5
    have sB := sB2.trans sB5
    exact q _ (sB.trans s7) ⟨dx, l2, m2, xs, ys, upd_same, Same.l (sB5.trans s7) hB2, dps_mono (sB.trans s7) dl, Same.l s7 hB5, dps_mono (sB.trans s7) dm⟩
end

section
variable {P : Program} {w : World} {K : PySem.W.Frag} {mg : Str → Option Value} {base : Heap}
def spShelvesM (K : PySem.W.Frag) (C : Addr) : Sp := fun vs H Q _ => ∃ (p : Addr) (S : Sto), vs = [.ref p] ∧ Ob K C H p S ∧ ∀ q xs, H q = none → DpAll K H xs (dshelves S.shelves) → Q (.ref q) (upd H q (.lst xs))
def spWishesM (K : PySem.W.Frag) (C : Addr) : Sp := fun vs H Q _ => ∃ (p : Addr) (S : Sto), vs = [.ref p] ∧ Ob K C H p S ∧ ∀ q xs, H q = none → DpAll K H xs (dwishes S.wishes) → Q (.ref q) (upd H q (.lst xs))
/-! Store.shelves: 0 self -/
abbrev s_Store_shelves : Stmt := inClass (topS 32) 1
abbrev N_Store_shelves : List Str := ["self"]
theorem sc_Store_shelves : FnScope N_Store_shelves ["self"] (defScope s_Store_shelves) := ⟨rfl, rfl, rfl, by decide +kernel, rfl, by decide +kernel, by decide +kernel⟩
theorem ok_Store_shelves {f C fI fW : Addr} {fd fdI fdW : FuncData} (F : Fun K "shelves" "Store.shelves" s_Store_shelves f fd) (T : Tx K mg) (TS : TSx K mg C fI f fW fdI fd fdW) : FnOk P w K mg base CX0 1 f fd ["self"] (spShelvesM K C) := by
  refine F.ok sc_Store_shelves (fun vs H Q E h => ?_) (fun cdv A outer s H vs Q E hr h => ?_)
  · obtain ⟨p, S, rfl, _⟩ := h
    rfl
  · obtain ⟨p, S, rfl, ⟨dx, l, m, xs, ys, ob⟩, q⟩ := h
    refine ⟨_, (pss_one (ps_ret (pe_callTy (klist_of (K := K)) (by rfl) T.n_list (by decide +kernel) (pa_cons (pe_fld (pv 0) rfl) pa_nil)))), ?_⟩
    exact ⟨_, rfl, p, C, dx, _, _, rfl, ob.o, TS.cl, TS.nS, fsS_sh, l, xs, rfl, .inl ob.l, fun r nr => q r xs nr ob.dx⟩
/-! Store.wishes: 0 self -/
abbrev s_Store_wishes : Stmt := inClass (topS 32) 2
abbrev N_Store_wishes : List Str := ["self"]
theorem sc_Store_wishes : FnScope N_Store_wishes ["self"] (defScope s_Store_wishes) := ⟨rfl, rfl, rfl, by decide +kernel, rfl, by decide +kernel, by decide +kernel⟩
theorem ok_Store_wishes {f C fI fS : Addr} {fd fdI fdS : FuncData} (F : Fun K "wishes" "Store.wishes" s_Store_wishes f fd) (T : Tx K mg) (TS : TSx K mg C fI fS f fdI fdS fd) : FnOk P w K mg base CX0 1 f fd ["self"] (spWishesM K C) := by
  refine F.ok sc_Store_wishes (fun vs H Q E h => ?_) (fun cdv A outer s H vs Q E hr h => ?_)
  · obtain ⟨p, S, rfl, _⟩ := h
    rfl
  · obtain ⟨p, S, rfl, ⟨dx, l, m, xs, ys, ob⟩, q⟩ := h
    refine ⟨_, (pss_one (ps_ret (pe_callTy (klist_of (K := K)) (by rfl) T.n_list (by decide +kernel) (pa_cons (pe_fld (pv 0) rfl) pa_nil)))), ?_⟩
    exact ⟨_, rfl, p, C, dx, _, _, rfl, ob.o, TS.cl, TS.nW, fsS_wi, m, ys, rfl, .inl ob.m, fun r nr => q r ys nr ob.dy⟩
end

section
variable {P : Program} {w : World} {K : PySem.W.Frag} {mg : Str → Option Value} {base : Heap}
def spMade (K : PySem.W.Frag) (C : Addr) : Sp := fun vs H Q _ => ∃ (v : V) (S : Sto), vs = [v] ∧ Dp K H v S.d ∧ StoOk S ∧ ∀ p H', Same H H' → H p = none → Ob K C H' p S → Q (.ref p) H'
/-! _law_made: 0 _law_store_here -/
abbrev s__law_made : Stmt := topS 41
abbrev N__law_made : List Str := ["_law_store_here"]
theorem sc__law_made : FnScope N__law_made ["_law_store_here"] (defScope s__law_made) := ⟨rfl, rfl, rfl, by decide +kernel, rfl, by decide +kernel, by decide +kernel⟩
theorem ok__law_made {f C fI fS fW : Addr} {fd fdI fdS fdW : FuncData} (D : Dfs K mg "_law_made" s__law_made ["_law_store_here"] f fd) (T : Tx K mg) (TS : TSx K mg C fI fS fW fdI fdS fdW) (G_init : FnOk P w K mg base CX0 4 fI fdI ["self", "shelves", "aisle", "wishes"] (spInit K C)) :
    Cal P w K mg base 6 "_law_made" ["_law_store_here"] (spMade K C) f fd := by
  refine D.cal (D.F.ok sc__law_made (fun vs H Q E h => ?_) (fun cdv A outer s H vs Q E hr h => ?_))
  · obtain ⟨v, S, rfl, _⟩ := h
    rfl
  · obtain ⟨v, S, rfl, hv, ok, q⟩ := h
    obtain ⟨a, l, m, xs, ys, rfl, st⟩ := sto_at hv
    refine ⟨_, (pss_one (ps_ret (pe_make TS.mkS G_init (hr.mono (by decide)) rfl TS.g TS.b_init .nil pass0 (pa_cons (pe_callTy (klist_of (K := K)) (by rfl) T.n_list (by decide +kernel) (pa_cons (pe_ix (kix_tup (K := K)) (pv 0) pe_int (fun _ _ => rfl)) pa_nil)) (pa_cons (pe_ix (kix_tup (K := K)) (pv 0) pe_int (fun _ _ => rfl)) (pa_cons (pe_callTy (klist_of (K := K)) (by rfl) T.n_list (by decide +kernel) (pa_cons (pe_ix (kix_tup (K := K)) (pv 0) pe_int (fun _ _ => rfl)) pa_nil)) pa_nil)))))), ?_⟩
    refine ⟨_, rfl, a, _, 0, .ref l, rfl, rfl, st.t, rfl, l, xs, rfl, .inl st.l, fun l2 nl2 => ?_⟩
    have s1 := same_new (o := .lst xs) nl2
    have st1 := st.mono s1
    refine ⟨_, rfl, a, _, 1, .int S.aisle, rfl, rfl, st1.t, rfl, _, rfl, a, _, 2, .ref m, rfl, rfl, st1.t, rfl, m, ys, rfl, .inl st1.m, fun m2 nm2 => ?_⟩
    have s2 := same_new (o := .lst ys) nm2
    have st2 := st1.mono s2
    intro p dx np ndx nex
    have s3 := (same_new (o := .own p) ndx).trans (Same.new (p := p) (o := .ins C dx []) (Same.refl _) (by rw [upd_ne (fun z => nex z.symm)]; exact np))
    refine ⟨p, dx, l2, m2, xs, ys, S, _, rfl, upd_same, s3, np, Same.l s2 lst_new, st2.dx, lst_new, st2.dy, ok, fun H' s4 o => ⟨rfl, q p H' ((s1.trans s2).trans s4) ((s1.trans s2).free np) o⟩⟩
end

theorem room65 {k : Nat} {A : Around} (hr : Room k A) : A.units + 65 < cLine := by
  have := hr.un
  omega
/-! ### data that are laid flat enough to be compared -/
def Lay (n : Nat) (d : PyData) : Prop := d.canLay0 = true ∧ d.depth ≤ n
def Lays (n : Nat) (ds : List PyData) : Prop := PyData.canLayAll0 ds = true ∧ PyData.depthAll ds ≤ n
theorem Lay.shaped {n : Nat} {d : PyData} (h : Lay n d) (hn : n ≤ 64 := by decide) : SeqAt.shaped d = true := by
  unfold SeqAt.shaped
  rw [h.1, Bool.true_and]
  exact decide_eq_true (Nat.le_trans h.2 hn)
theorem Lay.refl {n : Nat} {d : PyData} (h : Lay n d) : PyData.eqv d d = true := SeqAt.eqv_refl d h.1
theorem lays_nil {n : Nat} : Lays n [] := ⟨rfl, Nat.zero_le _⟩
theorem Lays.cons {n : Nat} {d : PyData} {ds : List PyData} (h : Lay n d) (g : Lays n ds) : Lays n (d :: ds) :=
  ⟨by unfold PyData.canLayAll0; rw [h.1, g.1]; rfl, by unfold PyData.depthAll; exact Nat.max_le.mpr ⟨h.2, g.2⟩⟩
theorem Lays.tup {n : Nat} {ds : List PyData} (h : Lays n ds) : Lay (n + 1) (.tuple ds) := ⟨by unfold PyData.canLay0; exact h.1, by unfold PyData.depth; exact Nat.succ_le_succ h.2⟩
theorem Lays.lst {n : Nat} {ds : List PyData} (h : Lays n ds) : Lay (n + 1) (.list ds) := ⟨by unfold PyData.canLay0; exact h.1, by unfold PyData.depth; exact Nat.succ_le_succ h.2⟩
theorem lay_int {n : Nat} {i : Int} : Lay n (.int i) := ⟨by unfold PyData.canLay0; rfl, by unfold PyData.depth; exact Nat.zero_le _⟩
theorem lay_none {n : Nat} : Lay n .none := ⟨by unfold PyData.canLay0; rfl, by unfold PyData.depth; exact Nat.zero_le _⟩
theorem lay_str {n : Nat} {x : Str} (h : PyData.strOk x = true) : Lay n (.str x) := ⟨by unfold PyData.canLay0; exact h, by unfold PyData.depth; exact Nat.zero_le _⟩
theorem Lays.all {n : Nat} {ds : List PyData} (h : ∀ d ∈ ds, Lay n d) : Lays n ds := by
  induction ds with
  | nil => exact lays_nil
  | cons d ds ih => exact .cons (h d List.mem_cons_self) (ih fun e he => h e (List.mem_cons_of_mem _ he))
theorem Lay.more {n m : Nat} {d : PyData} (h : Lay n d) (e : n ≤ m) : Lay m d := ⟨h.1, Nat.le_trans h.2 e⟩
theorem lays_ints {n : Nat} (l : List Int) : Lays n (dints l) := .all fun d hd => by
  obtain ⟨i, _, rfl⟩ := List.mem_map.mp hd
  exact lay_int
theorem Shelf.lay (s : Shelf) : Lay 1 s.d := (Lays.cons lay_int (Lays.cons lay_int (Lays.cons lay_int lays_nil))).tup
theorem ok_fetch : PyData.strOk "fetch" = true := by decide +kernel
theorem ok_bring : PyData.strOk "bring" = true := by decide +kernel
theorem ok_left : PyData.strOk "left" = true := by decide +kernel
theorem ok_right : PyData.strOk "right" = true := by decide +kernel
theorem ok_any : PyData.strOk "any" = true := by decide +kernel
theorem Wish.lay {n m : Int} {x : Wish} (h : WishOk n m x) : Lay 2 x.d := by
  have h1 : PyData.strOk x.kind = true := by
    rcases h.kind with e | e
    · rw [e]; exact ok_fetch
    · rw [e]; exact ok_bring
  have h2 : PyData.strOk x.side = true := by
    rcases h.side with e | e | e
    · rw [e]; exact ok_left
    · rw [e]; exact ok_right
    · rw [e]; exact ok_any
  exact (Lays.cons (lay_str h1) (Lays.cons lay_int (Lays.cons (lay_str h2) (Lays.cons lay_int (Lays.cons lay_int (Lays.cons (lays_ints _).tup lays_nil)))))).tup
theorem shelves_lay (l : List Shelf) : Lay 2 (.list (dshelves l)) := (Lays.all fun d hd => by
  obtain ⟨i, _, rfl⟩ := List.mem_map.mp hd
  exact i.lay).lst
theorem wishes_lay {n m : Int} {l : List Wish} (h : ∀ x ∈ l, WishOk n m x) : Lay 3 (.list (dwishes l)) := (Lays.all fun d hd => by
  obtain ⟨i, hi, rfl⟩ := List.mem_map.mp hd
  exact Wish.lay (h i hi)).lst
/-! ### a list that grows, without the draws -/
structure Acq (K : PySem.W.Frag) (B0 B H : Hp) (l : Addr) (xs : List V) (ds : List PyData) : Prop where
  s : Same B0 B
  R : Same B H
  bl : B l = none
  el : H l = some (.lst xs)
  dx : DpAll K B xs ds
section
variable {K : PySem.W.Frag} {B0 B H H' : Hp} {l p : Addr} {xs : List V} {ds : List PyData} {o : HO}
theorem Acq.start (s : Same B0 B) (R : Same B H) (h : H l = none) : Acq K B0 B (upd H l (.lst [])) l [] [] := ⟨s, Same.new R h, R.free h, upd_same, .nil⟩
theorem Acq.grow (A : Acq K B0 B H l xs ds) (h : H p = none) : Acq K B0 (upd B p o) (upd H p o) l xs ds := by
  have n : l ≠ p := ne_of_none A.el h
  have z := A.R.free h
  exact ⟨A.s.trans (same_new z), Same.grow A.R h, by rw [upd_ne n]; exact A.bl, by rw [upd_ne n]; exact A.el, dps_mono (same_new z) A.dx⟩
theorem Acq.app {v : V} {d : PyData} (A : Acq K B0 B H l xs ds) (h : Dp K B v d) : Acq K B0 B (upd H l (.lst (xs ++ [v]))) l (xs ++ [v]) (ds ++ [d]) :=
  ⟨A.s, Same.put A.R A.bl, A.bl, upd_same, dps_app A.dx (.cons h .nil)⟩
/-- what a pure def made beside it -/
theorem Acq.pure (A : Acq K B0 B H l xs ds) (s : Same H H') : Acq K B0 (del1 H' l) H' l xs ds := by
  have s1 : Same B (del1 H' l) := same_del (A.R.trans s) A.bl
  exact ⟨A.s.trans s1, fun b o e => by
    by_cases hb : b = l
    · rw [hb, del1_same] at e
      cases e
    · rw [del1_ne hb] at e
      exact e, del1_same, s _ _ A.el, dps_mono s1 A.dx⟩
theorem Acq.keep (A : Acq K B0 B H l xs ds) (s : Same H H') : Acq K B0 B H' l xs ds := ⟨A.s, A.R.trans s, A.bl, s _ _ A.el, A.dx⟩
theorem Acq.all (A : Acq K B0 B H l xs ds) : Same B0 H ∧ SqL K H l xs ∧ DpAll K H xs ds := ⟨A.s.trans A.R, SqL.of A.el, dps_mono A.R A.dx⟩
end
/-! ### in, not in, of a list of ints -/
section
variable {z : Int} {l : List Int} {A B : Prop}
theorem in_y (h : z ∈ l) (q : A) : if (if false = true then !inV (V.int z) (l.map V.int) else inV (V.int z) (l.map V.int)) = true then A else B := by
  rw [inV_ints.mpr h]
  exact iteT q
theorem inF {l : List Int} {z : Int} (h : z ∉ l) : inV (V.int z) (l.map V.int) = false := by
  cases e : inV (V.int z) (l.map V.int) with
  | false => rfl
  | true => exact absurd (inV_ints.mp e) h
theorem in_n (h : z ∉ l) (q : B) : if (if false = true then !inV (V.int z) (l.map V.int) else inV (V.int z) (l.map V.int)) = true then A else B := by
  rw [inF h]
  exact iteF q
theorem ni_y (h : z ∉ l) (q : A) : if (if true = true then !inV (V.int z) (l.map V.int) else inV (V.int z) (l.map V.int)) = true then A else B := by
  rw [inF h]
  exact iteT q
theorem ni_n (h : z ∈ l) (q : B) : if (if true = true then !inV (V.int z) (l.map V.int) else inV (V.int z) (l.map V.int)) = true then A else B := by
  rw [inV_ints.mpr h]
  exact iteF q
end
theorem sne {a b : Str} (h : ¬ a = b) : ¬ (V.str a = V.str b) := fun z => h (V.str.inj z)
theorem ine {a b : Int} (h : ¬ a = b) : ¬ (V.int a = V.int b) := fun z => h (V.int.inj z)
theorem int_item {l : List Int} {i : Nat} {y : V} (h : (l.map V.int)[i]? = some y) : ∃ z, l[i]? = some z ∧ y = V.int z := by
  rw [List.getElem?_map] at h
  cases e : l[i]? with
  | none =>
    rw [e] at h
    cases h
  | some z =>
    rw [e] at h
    exact ⟨z, rfl, (Option.some.inj h).symm⟩
theorem take_snoc {α : Type} {l : List α} {i : Nat} {z : α} (h : l[i]? = some z) : l.take (i + 1) = l.take i ++ [z] := by
  rw [List.take_add_one, h]
  rfl
theorem two_dp {K : PySem.W.Frag} {H : Hp} {a : Addr} {r : Str} {n : Int} (h : SqT K H a [.str r, .int n]) : Dp K H (.ref a) (.tuple [.str r, .int n]) := .tup h (.cons (.str _) (.cons (.int _) .nil))
theorem pair1 {K : PySem.W.Frag} {H : Hp} {a : Addr} {r : Str} (h : SqT K H a [.str r]) : Dp K H (.ref a) (.tuple [.str r]) := .tup h (.cons (.str _) .nil)
theorem filter_snoc {α : Type} {p : α → Bool} {l : List α} {i : Nat} {t : α} (h : l[i]? = some t) : (l.take (i + 1)).filter p = (l.take i).filter p ++ (if p t = true then [t] else []) := by
  rw [take_snoc h, List.filter_append]
  cases e : p t <;> simp [List.filter, e]
theorem Rising.len {lo n : Int} {l : List Int} (h : Rising lo n l) : l.length ≤ (n - lo).toNat := by
  induction l generalizing lo with
  | nil => exact Nat.zero_le _
  | cons i r ih =>
    obtain ⟨a, b, c⟩ := h
    have := ih c
    rw [List.length_cons]
    omega

/-! ## states, steps, and what bars a step -/
structure Sta where
  aisle : Int
  done : List Int
  inside : List Int
  kept : Int
inductive Stp where
  | wait
  | shift (by_ : Int)
  | cin (c : Int)
  | cout (c : Int)
  | wish (n : Int)
def Sta.d (s : Sta) : PyData := .tuple [.int s.aisle, .tuple (dints s.done), .tuple (dints s.inside), .int s.kept]
def Stp.d : Stp → PyData
  | .wait => .tuple [.str "wait"]
  | .shift b => .tuple [.str "shift", .int b]
  | .cin c => .tuple [.str "in", .int c]
  | .cout c => .tuple [.str "out", .int c]
  | .wish n => .tuple [.str "do", .int n]
def StpOk (m : Int) : Stp → Prop
  | .wait => True
  | .shift b => b = -1 ∨ b = 1
  | .cin c => c = 0 ∨ c = 1
  | .cout c => c = 0 ∨ c = 1
  | .wish n => 0 ≤ n ∧ n < m
def InsideOk (l : List Int) : Prop := l = [] ∨ l = [0] ∨ l = [1] ∨ l = [0, 1]
/-- what a wish that is done changes at the shelf k -/
def delta (S : Sto) (k z : Int) : Int := match S.wishes[z.toNat]? with
  | some x => if x.shelf = k then (if x.kind = "fetch" then -1 else 1) else 0
  | none => 0
def hasAt (S : Sto) (k : Int) : Int := match S.shelves[k.toNat]? with
  | some x => x.has
  | none => 0
def roomAt (S : Sto) (k : Int) : Int := match S.shelves[k.toNat]? with
  | some x => x.room
  | none => 0
def goods (S : Sto) (done : List Int) (k : Int) : Int := hasAt S k + (done.map (delta S k)).sum
/-- a state of the store's form -/
structure StaOk (S : Sto) (s : Sta) : Prop where
  a0 : 0 ≤ s.aisle
  a1 : s.aisle ≤ S.shelves.length
  done : Rising 0 S.wishes.length s.done
  inside : InsideOk s.inside
  k0 : 0 ≤ s.kept
  k3 : s.kept ≤ 3
  has : ∀ k : Int, 0 ≤ k → k < S.shelves.length → 0 ≤ goods S s.done k ∧ goods S s.done k ≤ roomAt S k
def barShift (S : Sto) (s : Sta) (b : Int) : Option (Str × Int) :=
  let sh := if b = 1 then s.aisle else s.aisle - 1
  if 0 ≤ sh ∧ sh < S.shelves.length then
    match S.shelves[sh.toNat]? with
    | none => none
    | some x => if x.sticks = 1 then some ("sticks", sh) else match s.inside with
      | c :: _ => some ("in", c)
      | [] => if s.kept > 0 then some ("kept", s.kept) else none
  else some ("end", s.aisle)
def beside (aisle shelf : Int) (side : Str) : Bool := if side = "left" then decide (aisle = shelf) else if side = "right" then decide (aisle = shelf + 1) else decide (aisle = shelf ∨ aisle = shelf + 1)
def barLoad (S : Sto) (done : List Int) (kind : Str) (k : Int) : Option (Str × Int) :=
  if kind = "fetch" ∧ goods S done k = 0 then some ("empty", k) else if kind = "bring" ∧ goods S done k = roomAt S k then some ("full", k) else none
def barWish (S : Sto) (s : Sta) (n : Int) : Option (Str × Int) := match S.wishes[n.toNat]? with
  | none => none
  | some x =>
    if n ∈ s.done then some ("done", n) else match x.after.find? (fun z => decide (z ∉ s.done)) with
      | some z => some ("after", z)
      | none => if x.crew ∉ s.inside then some ("crew", x.crew) else if beside s.aisle x.shelf x.side = false then some ("aisle", s.aisle) else barLoad S s.done x.kind x.shelf
def bar (S : Sto) (s : Sta) : Stp → Option (Str × Int)
  | .wait => none
  | .shift b => barShift S s b
  | .cin c => if c ∈ s.inside then some ("is", c) else none
  | .cout c => if c ∈ s.inside then none else some ("isnt", c)
  | .wish n => barWish S s n
def dbar : Option (Str × Int) → PyData
  | none => .none
  | some (r, n) => .tuple [.str r, .int n]
theorem sta_at {K : PySem.W.Frag} {H : Hp} {v : V} {s : Sta} (h : Dp K H v s.d) : ∃ a d i, v = .ref a ∧ SqT K H a [.int s.aisle, .ref d, .ref i, .int s.kept] ∧ SqT K H d (s.done.map V.int) ∧ SqT K H i (s.inside.map V.int) := by
  obtain ⟨a, xs, rfl, h1, h2⟩ := dp_tup h
  obtain ⟨x1, r1, rfl, e1, k1⟩ := dps_cons h2
  obtain ⟨x2, r2, rfl, e2, k2⟩ := dps_cons k1
  obtain ⟨x3, r3, rfl, e3, k3⟩ := dps_cons k2
  obtain ⟨x4, r4, rfl, e4, k4⟩ := dps_cons k3
  obtain ⟨d, rfl, hd⟩ := dp_ints e2
  obtain ⟨i, rfl, hi⟩ := dp_ints e3
  obtain rfl := dps_nil k4
  rw [dp_int e1, dp_int e4] at h1
  exact ⟨a, d, i, rfl, h1, hd, hi⟩
theorem at_sta {K : PySem.W.Frag} {H : Hp} {s : Sta} {a d i : Addr} (h : SqT K H a [.int s.aisle, .ref d, .ref i, .int s.kept]) (hd : SqT K H d (s.done.map V.int)) (hi : SqT K H i (s.inside.map V.int)) : Dp K H (.ref a) s.d :=
  .tup h (.cons (.int _) (.cons (.tup hd (ints_dps _)) (.cons (.tup hi (ints_dps _)) (.cons (.int _) .nil))))
theorem dp_one {K : PySem.W.Frag} {H : Hp} {v : V} {r : Str} (h : Dp K H v (.tuple [.str r])) : ∃ a, v = .ref a ∧ SqT K H a [.str r] := by
  obtain ⟨a, xs, rfl, h1, h2⟩ := dp_tup h
  obtain ⟨x1, r1, rfl, e1, k1⟩ := dps_cons h2
  obtain rfl := dps_nil k1
  rw [dp_str e1] at h1
  exact ⟨a, rfl, h1⟩
theorem dp_two {K : PySem.W.Frag} {H : Hp} {v : V} {r : Str} {n : Int} (h : Dp K H v (.tuple [.str r, .int n])) : ∃ a, v = .ref a ∧ SqT K H a [.str r, .int n] := by
  obtain ⟨a, xs, rfl, h1, h2⟩ := dp_tup h
  obtain ⟨x1, r1, rfl, e1, k1⟩ := dps_cons h2
  obtain ⟨x2, r2, rfl, e2, k2⟩ := dps_cons k1
  obtain rfl := dps_nil k2
  rw [dp_str e1, dp_int e2] at h1
  exact ⟨a, rfl, h1⟩
theorem two_new {K : PySem.W.Frag} {H : Hp} {a : Addr} {r : Str} {n : Int} : Dp K (upd H a (.tup [.str r, .int n])) (.ref a) (dbar (some (r, n))) := two_dp tup_new
/-- an item of a list of ints -/
theorem shelf_at_k {S : Sto} {k : Int} (h0 : 0 ≤ k) (h1 : k < S.shelves.length) : ∃ x, S.shelves[k.toNat]? = some x ∧ x ∈ S.shelves ∧ hasAt S k = x.has ∧ roomAt S k = x.room := by
  have hl : k.toNat < S.shelves.length := by omega
  have e := List.getElem?_eq_getElem hl
  exact ⟨_, e, List.getElem_mem hl, by unfold hasAt; rw [e], by unfold roomAt; rw [e]⟩
theorem wish_at_k {S : Sto} {k : Int} (h0 : 0 ≤ k) (h1 : k < S.wishes.length) : ∃ x, S.wishes[k.toNat]? = some x ∧ x ∈ S.wishes := by
  have hl : k.toNat < S.wishes.length := by omega
  exact ⟨_, List.getElem?_eq_getElem hl, List.getElem_mem hl⟩
theorem Rising.upto {lo m : Int} {i : Int} : ∀ {l : List Int}, Rising lo m l → l.filter (fun z => decide (z < i + 1)) = l.filter (fun z => decide (z < i)) ++ (if i ∈ l then [i] else [])
  | [], _ => by simp
  | j :: r, h => by
    have hr : Rising (j + 1) m r := h.2.2
    have ih := Rising.upto (i := i) hr
    rcases Int.lt_trichotomy j i with e | e | e
    · rw [List.filter_cons_of_pos (p := fun z => decide (z < i + 1)) (show decide (j < i + 1) = true from decide_eq_true (by omega)), List.filter_cons_of_pos (p := fun z => decide (z < i)) (show decide (j < i) = true from decide_eq_true e), ih]
      have q : (i ∈ j :: r) ↔ i ∈ r := by
        rw [List.mem_cons]
        exact ⟨fun h => h.resolve_left (by omega), .inr⟩
      by_cases z : i ∈ r
      · rw [if_pos z, if_pos (q.mpr z)]
        rfl
      · rw [if_neg z, if_neg (fun y => z (q.mp y))]
        rfl
    · subst e
      have n1 : r.filter (fun z => decide (z < j + 1)) = [] := List.filter_eq_nil_iff.mpr fun z hz => by
        have := (hr.mem hz).1
        simp only [decide_eq_true_eq]
        omega
      have n2 : r.filter (fun z => decide (z < j)) = [] := List.filter_eq_nil_iff.mpr fun z hz => by
        have := (hr.mem hz).1
        simp only [decide_eq_true_eq]
        omega
      rw [List.filter_cons_of_pos (p := fun z => decide (z < j + 1)) (show decide (j < j + 1) = true from decide_eq_true (by omega)), List.filter_cons_of_neg (p := fun z => decide (z < j)) (show ¬ decide (j < j) = true by simp), n1, n2, if_pos List.mem_cons_self]
      rfl
    · have n1 : ∀ b : Int, b ≤ j → (j :: r).filter (fun z => decide (z < b)) = [] := fun b hb => List.filter_eq_nil_iff.mpr fun z hz => by
        simp only [decide_eq_true_eq]
        rcases List.mem_cons.mp hz with rfl | hz
        · omega
        · have := (hr.mem hz).1
          omega
      rw [n1 _ (by omega), n1 _ (by omega), if_neg]
      · rfl
      · intro hz
        rcases List.mem_cons.mp hz with rfl | hz
        · omega
        · have := (hr.mem hz).1
          omega
def goodsTo (S : Sto) (done : List Int) (k i : Int) : Int := goods S (done.filter fun z => decide (z < i)) k
theorem goodsTo_zero {S : Sto} {done : List Int} {k m : Int} (h : Rising 0 m done) : goodsTo S done k 0 = hasAt S k := by
  unfold goodsTo goods
  rw [List.filter_eq_nil_iff.mpr, List.map_nil, List.sum_nil, Int.add_zero]
  intro z hz
  have := (h.mem hz).1
  simp only [decide_eq_true_eq]
  omega
theorem goodsTo_all {S : Sto} {done : List Int} {k m : Int} (h : Rising 0 m done) : goodsTo S done k m = goods S done k := by
  unfold goodsTo
  rw [List.filter_eq_self.mpr]
  intro z hz
  exact decide_eq_true (h.mem hz).2
theorem goodsTo_succ {S : Sto} {done : List Int} {k i m : Int} (h : Rising 0 m done) : goodsTo S done k (i + 1) = goodsTo S done k i + (if i ∈ done then delta S k i else 0) := by
  unfold goodsTo goods
  rw [h.upto, List.map_append, List.sum_append]
  by_cases e : i ∈ done
  · rw [if_pos e, if_pos e]
    simp only [List.map_cons, List.map_nil, List.sum_cons, List.sum_nil]
    omega
  · rw [if_neg e, if_neg e]
    simp only [List.map_nil, List.sum_nil]
    omega
section
variable {P : Program} {w : World} {K : PySem.W.Frag} {mg : Str → Option Value} {base : Heap}
def spHasNow (K : PySem.W.Frag) (C : Addr) : Sp := fun vs H Q _ => ∃ (p d : Addr) (k : Int) (S : Sto) (done : List Int), vs = [.ref p, .ref d, .int k] ∧ Ob K C H p S ∧ SqT K H d (done.map V.int) ∧ 0 ≤ k ∧ k < S.shelves.length ∧ Rising 0 S.wishes.length done ∧
  ∀ H', Same H H' → Q (.int (goods S done k)) H'
/-! _has_now: 0 store, 1 done, 2 shelf, 3 _, 4 has, 5 number, 6 kind, 7 place -/
abbrev s__has_now : Stmt := topS 24
abbrev N__has_now : List Str := ["store", "done", "shelf", "_", "has", "number", "kind", "place"]
theorem sc__has_now : FnScope N__has_now ["store", "done", "shelf"] (defScope s__has_now) := ⟨rfl, rfl, rfl, by decide +kernel, rfl, by decide +kernel, by decide +kernel⟩
theorem ok__has_now {f C fI fS fW : Addr} {fd fdI fdS fdW : FuncData} (D : Dfs K mg "_has_now" s__has_now ["store", "done", "shelf"] f fd) (T : Tx K mg) (TS : TSx K mg C fI fS fW fdI fdS fdW) (G_shelves : FnOk P w K mg base CX0 1 fS fdS ["self"] (spShelvesM K C)) (G_wishes : FnOk P w K mg base CX0 1 fW fdW ["self"] (spWishesM K C)) :
    Cal P w K mg base 2 "_has_now" ["store", "done", "shelf"] (spHasNow K C) f fd := by
  refine D.cal (D.F.ok sc__has_now (fun vs H Q E h => ?_) (fun cdv A outer s H vs Q E hr h => ?_))
  · obtain ⟨p, d, k, S, done, rfl, _⟩ := h
    rfl
  · obtain ⟨p, d, k, S, done, rfl, ob, hd, k0, k1, hz, q⟩ := h
    obtain ⟨dx, l, m, xs, ys, o⟩ := id ob
    obtain ⟨sh, hsh, _, ehas, _⟩ := shelf_at_k k0 k1
    refine ⟨_, (pss_cons (ps_asg (pe_ix (kix_list (K := K)) (pe_meth0 (pv 0) TS.cl TS.m_shelves G_shelves (hr.mono (by decide)) TS.b_shelves .nil pass0) (pv 2) (fun _ _ => rfl)) (pg_tup (by rfl) (pgs_cons (pg_name (i := 3) sc__has_now.nd rfl (Or.inl rfl)) (pgs_cons (pg_name (i := 4) sc__has_now.nd rfl (Or.inl rfl)) (pgs_cons (pg_name (i := 3) sc__has_now.nd rfl (Or.inl rfl)) pgs_nil)))))
      (pss_cons (ps_for PassesOwn.never rfl (pi_enum (by rfl) T.n_enumerate (pa_cons (pe_meth0 (pv 0) TS.cl TS.m_wishes G_wishes (hr.mono (by decide)) TS.b_wishes .nil pass0) pa_nil)) (pg_tup (by rfl) (pgs_cons (pg_name (i := 5) sc__has_now.nd rfl (Or.inl rfl)) (pgs_cons (pg_tup (by rfl) (pgs_cons (pg_name (i := 6) sc__has_now.nd rfl (Or.inl rfl)) (pgs_cons (pg_name (i := 7) sc__has_now.nd rfl (Or.inl rfl)) (pgs_cons (pg_name (i := 3) sc__has_now.nd rfl (Or.inl rfl)) (pgs_cons (pg_name (i := 3) sc__has_now.nd rfl (Or.inl rfl)) (pgs_cons (pg_name (i := 3) sc__has_now.nd rfl (Or.inl rfl)) (pgs_cons (pg_name (i := 3) sc__has_now.nd rfl (Or.inl rfl)) pgs_nil))))))) pgs_nil))) (pss_one (ps_if (PW.pt (pw_and (pt_cmpR (kin_seq (K := K)) (pv 5) (pv 1) (by rfl)) (pw_and1 (pt_cmpR op_eq (pv 7) (pv 2) (nomark _))))) (pss_one (ps_set (i := 4) sc__has_now.nd rfl (Or.inl rfl) (pe_ifExp (pt_cmpR op_eq (pv 6) pe_str (nomark _)) (pe_op op_sub (pv 4) pe_int) (pe_op op_add (pv 4) pe_int)))) pss_nil)))
      (pss_one (ps_ret (pv 4))))), ?_⟩
    -- _, has, _ = store.shelves()[shelf]
    refine ⟨_, rfl, p, dx, _, rfl, o.o, fsS_m1, p, S, rfl, ob, fun r zs nr dzs => ?_⟩
    obtain ⟨a, ha, hT⟩ := shelf_get dzs hsh
    have s1 := same_new (o := .lst zs) nr
    refine ⟨_, rfl, r, zs, k, .ref a, rfl, rfl, lst_new, at_of (j := k.toNat) (by omega) ha, a, _, rfl, Same.t s1 hT, rfl, _, _, rfl, _, _, rfl, _, _, rfl, rfl, ?_⟩
    -- for number, (kind, place, ..) in enumerate(store.wishes())
    refine ⟨_, rfl, p, dx, _, rfl, s1 _ _ o.o, fsS_m2, p, S, rfl, ob.mono s1, fun r2 us nr2 dus => ?_⟩
    have s2 := s1.trans (same_new (o := .lst us) nr2)
    have hus : SqL K (upd (upd H r (.lst zs)) r2 (.lst us)) r2 us := lst_new
    have dus2 := dps_mono (same_new (o := .lst us) nr2) dus
    have lus : us.length = S.wishes.length := (dps_len dus).trans (List.length_map ..)
    generalize upd (upd H r (.lst zs)) r2 (.lst us) = H2 at s2 hus dus2
    refine ⟨r2, us, rfl, hus, for_enum (K := K) (a := r2) (xs := us) (fun i σ H' => Same H2 H' ∧ ∃ v3 v5 v6 v7 : Option V, σ = [some (.ref p), some (.ref d), some (.int k), v3, some (.int (goodsTo S done k (i : Nat))), v5, v6, v7])
      ⟨Same.refl _, some (.int sh.sticks), none, none, none, ?_⟩ (fun i σ H' _ h => Same.l h.1 hus) ?_ ?_⟩
    · rw [show ((0 : Nat) : Int) = 0 from rfl, goodsTo_zero hz, ehas]
      rfl
    · rintro i y σ H' pt hy ⟨sH, v3, v5, v6, v7, rfl⟩ npt
      have hi : i < us.length := (List.getElem?_eq_some_iff.mp hy).1
      have z0 : (0 : Int) ≤ (i : Nat) := Int.natCast_nonneg _
      have z1 : ((i : Nat) : Int) < S.wishes.length := by omega
      obtain ⟨x, hx, _⟩ := wish_at_k z0 z1
      obtain ⟨b, t, hb, hbT, _⟩ := wish_get dus2 hx
      rw [Int.toNat_natCast, hy] at hb
      cases hb
      have sHp := sH.trans (same_new (o := .tup [.int (i : Nat), .ref b]) npt)
      have eg := goodsTo_succ (S := S) (k := k) (i := (i : Nat)) hz
      have ed : delta S k (i : Nat) = if x.shelf = k then (if x.kind = "fetch" then -1 else 1) else 0 := by
        unfold delta
        rw [hx]
      rw [ed] at eg
      have fin : ∀ g : Int, g = goodsTo S done k ((i : Nat) + 1) → Same H2 (upd H' pt (.tup [.int (i : Nat), .ref b])) ∧ ∃ v3 v5 v6 v7 : Option V, [some (V.ref p), some (.ref d), some (.int k), some (.ref t), some (.int g), some (.int (i : Nat)), some (.str x.kind), some (.int x.shelf)] = [some (.ref p), some (.ref d), some (.int k), v3, some (.int (goodsTo S done k ((i + 1 : Nat) : Int))), v5, v6, v7] := by
        rintro g rfl
        exact ⟨sHp, _, _, _, _, by rw [Int.natCast_succ]⟩
      refine ⟨pt, _, rfl, tup_new, rfl, _, _, rfl, _, _, rfl, b, _, rfl, Same.t sHp hbT, rfl, _, _, rfl, _, _, rfl, _, _, rfl, _, _, rfl, _, _, rfl, _, _, rfl, rfl, rfl, ?_⟩
      refine ⟨_, rfl, _, rfl, d, _, rfl, .inr (Same.t (s2.trans sHp) hd), rfl, flat_ints done, _, rfl, ?_⟩
      rw [show (if false = true then !inV (V.int (i : Nat)) (done.map V.int) else inV (V.int (i : Nat)) (done.map V.int)) = decide (((i : Nat) : Int) ∈ done) from (if_neg Bool.false_ne_true).trans (Bool.eq_iff_iff.mpr (inV_ints.trans decide_eq_true_iff.symm))]
      by_cases h0 : ((i : Nat) : Int) ∈ done
      · rw [if_pos h0] at eg
        refine itD h0 ⟨_, rfl, _, rfl, rfl, _, rfl, ?_⟩
        by_cases h1 : x.shelf = k
        · rw [if_pos h1] at eg
          refine itD (by rw [h1]) ⟨_, rfl, rfl, _, rfl, ?_⟩
          by_cases h2 : x.kind = "fetch"
          · rw [if_pos h2] at eg
            exact itD (by rw [h2]) ⟨_, rfl, _, 1, rfl, rfl, fin _ (by omega)⟩
          · rw [if_neg h2] at eg
            exact itF (sne h2) ⟨_, rfl, _, 1, rfl, rfl, fin _ (by omega)⟩
        · rw [if_neg h1] at eg
          exact itF (ine h1) (fin _ (by omega))
      · rw [if_neg h0] at eg
        exact itF h0 (iteF (fin _ (by omega)))
    · rintro σ H' ⟨sH, v3, v5, v6, v7, rfl⟩
      rw [lus, goodsTo_all hz]
      exact ⟨_, rfl, q _ (s2.trans sH)⟩
def spBeside : Sp := fun vs H Q _ => ∃ (a k : Int) (side : Str), vs = [.int a, .int k, .str side] ∧ ∀ H', Same H H' → Q (.bl (beside a k side)) H'
/-! _is_beside: 0 aisle, 1 shelf, 2 side -/
abbrev s__is_beside : Stmt := topS 23
abbrev N__is_beside : List Str := ["aisle", "shelf", "side"]
theorem sc__is_beside : FnScope N__is_beside ["aisle", "shelf", "side"] (defScope s__is_beside) := ⟨rfl, rfl, rfl, by decide +kernel, rfl, by decide +kernel, by decide +kernel⟩
theorem ok__is_beside {f : Addr} {fd : FuncData} (D : Dfs K mg "_is_beside" s__is_beside ["aisle", "shelf", "side"] f fd) : Cal P w K mg base 1 "_is_beside" ["aisle", "shelf", "side"] spBeside f fd := by
  refine D.cal (D.F.ok sc__is_beside (fun vs H Q E h => ?_) (fun cdv A outer s H vs Q E hr h => ?_))
  · obtain ⟨a, k, side, rfl, _⟩ := h
    rfl
  · obtain ⟨a, k, side, rfl, q⟩ := h
    refine ⟨_, (pss_cons (ps_if (pt_cmpR op_eq (pv 2) pe_str (nomark _)) (pss_one (ps_ret (pe_cmpR op_eq (pv 0) (pv 1) (nomark _)))) pss_nil)
      (pss_cons (ps_if (pt_cmpR op_eq (pv 2) pe_str (nomark _)) (pss_one (ps_ret (pe_cmpR op_eq (pv 0) (pe_op op_add (pv 1) pe_int) (nomark _)))) pss_nil)
      (pss_one (ps_ret (pe_cmpR (kin_seq (K := K)) (pv 0) (pe_tup (pa_cons (pv 1) (pa_cons (pe_op op_add (pv 1) pe_int) pa_nil))) (by rfl)))))), ?_⟩
    refine ⟨_, rfl, rfl, _, rfl, ?_⟩
    by_cases h1 : side = "left"
    · refine itD (by rw [h1]) ⟨_, rfl, _, rfl, rfl, ?_⟩
      have e : decide (V.int a = V.int k) = beside a k side := by
        unfold beside
        rw [if_pos h1]
        exact decide_eq_decide.mpr ⟨V.int.inj, congrArg V.int⟩
      show Q (.bl (decide (V.int a = V.int k))) H
      rw [e]
      exact q H (Same.refl H)
    refine itF (sne h1) ⟨_, rfl, rfl, _, rfl, ?_⟩
    by_cases h2 : side = "right"
    · refine itD (by rw [h2]) ⟨_, rfl, _, rfl, _, _, rfl, rfl, rfl, ?_⟩
      have e : decide (V.int a = V.int (k + 1)) = beside a k side := by
        unfold beside
        rw [if_neg h1, if_pos h2]
        exact decide_eq_decide.mpr ⟨V.int.inj, congrArg V.int⟩
      show Q (.bl (decide (V.int a = V.int (k + 1)))) H
      rw [e]
      exact q H (Same.refl H)
    refine itF (sne h2) ⟨_, rfl, _, rfl, _, rfl, _, _, rfl, rfl, small (by simp), fun p np => ⟨p, _, rfl, .inr tup_new, rfl, rfl, ?_⟩⟩
    have e : (if false = true then !inV (V.int a) [V.int k, V.int (k + 1)] else inV (V.int a) [V.int k, V.int (k + 1)]) = beside a k side := by
      rw [if_neg Bool.false_ne_true]
      unfold beside
      rw [if_neg h1, if_neg h2]
      have e := inV_ints (x := a) (l := [k, k + 1])
      rw [List.mem_cons, List.mem_singleton] at e
      have e' : inV (V.int a) [V.int k, V.int (k + 1)] = true ↔ a = k ∨ a = k + 1 := e
      rw [Bool.eq_iff_iff, e', decide_eq_true_iff]
    show Q (.bl (if false = true then !inV (V.int a) [V.int k, V.int (k + 1)] else inV (V.int a) [V.int k, V.int (k + 1)])) _
    rw [e]
    exact q _ (same_new np)
end

theorem ok_wait : PyData.strOk "wait" = true := by decide +kernel
theorem ok_shift : PyData.strOk "shift" = true := by decide +kernel
theorem ok_in : PyData.strOk "in" = true := by decide +kernel
theorem ok_out : PyData.strOk "out" = true := by decide +kernel
theorem ok_do : PyData.strOk "do" = true := by decide +kernel
theorem Stp.lay : ∀ t : Stp, Lay 1 t.d
  | .wait => (Lays.cons (lay_str ok_wait) lays_nil).tup
  | .shift _ => (Lays.cons (lay_str ok_shift) (Lays.cons lay_int lays_nil)).tup
  | .cin _ => (Lays.cons (lay_str ok_in) (Lays.cons lay_int lays_nil)).tup
  | .cout _ => (Lays.cons (lay_str ok_out) (Lays.cons lay_int lays_nil)).tup
  | .wish _ => (Lays.cons (lay_str ok_do) (Lays.cons lay_int lays_nil)).tup
theorem Sta.lay (s : Sta) : Lay 2 s.d := (Lays.cons lay_int (Lays.cons (lays_ints _).tup (Lays.cons (lays_ints _).tup (Lays.cons lay_int lays_nil)))).tup
def dsteps (l : List Stp) : List PyData := l.map Stp.d
theorem steps_lays (l : List Stp) : Lays 1 (dsteps l) := .all fun d hd => by
  obtain ⟨i, _, rfl⟩ := List.mem_map.mp hd
  exact i.lay
def fixedSteps : List Stp := [.wait, .shift (-1), .shift 1, .cin 0, .cin 1, .cout 0, .cout 1]
def allSteps (m : Nat) : List Stp := fixedSteps ++ (List.range m).map fun (k : Nat) => Stp.wish (k : Int)
theorem mem_allSteps {m : Nat} {t : Stp} (h : StpOk m t) : t ∈ allSteps m := by
  unfold allSteps fixedSteps
  cases t with
  | wait => simp
  | shift b => rcases h with rfl | rfl <;> simp
  | cin c => rcases h with rfl | rfl <;> simp
  | cout c => rcases h with rfl | rfl <;> simp
  | wish n =>
    obtain ⟨h0, h1⟩ := h
    refine List.mem_append_right _ (List.mem_map.mpr ⟨n.toNat, List.mem_range.mpr (by omega), ?_⟩)
    rw [Int.toNat_of_nonneg h0]
theorem allSteps_ok {m : Nat} {t : Stp} (h : t ∈ allSteps m) : StpOk m t := by
  rcases List.mem_append.mp h with h | h
  · simp only [fixedSteps, List.mem_cons, List.not_mem_nil, or_false] at h
    rcases h with rfl | rfl | rfl | rfl | rfl | rfl | rfl
    · trivial
    · exact .inl rfl
    · exact .inr rfl
    · exact .inl rfl
    · exact .inr rfl
    · exact .inl rfl
    · exact .inr rfl
  · obtain ⟨k, hk, rfl⟩ := List.mem_map.mp h
    exact ⟨Int.natCast_nonneg _, by have := List.mem_range.mp hk; omega⟩
theorem find_take {l : List Int} {p : Int → Bool} {i : Nat} {z : Int} (h : ∀ y ∈ l.take i, p y = false) (hi : l[i]? = some z) (hz : p z = true) : l.find? p = some z := by
  obtain ⟨h1, h2⟩ := List.getElem?_eq_some_iff.mp hi
  have e : l = l.take i ++ z :: l.drop (i + 1) := by
    have e := List.drop_eq_getElem_cons h1
    rw [h2] at e
    rw [← e, List.take_append_drop]
  rw [e, List.find?_append, List.find?_eq_none.mpr (fun y hy => by rw [h y hy]; decide), Option.none_or, List.find?_cons_of_pos hz]
section
variable {P : Program} {w : World} {K : PySem.W.Frag} {mg : Str → Option Value} {base : Heap}
/-- a def that hands back data, and leaves all as it was -/
def Ret (K : PySem.W.Frag) (H : Hp) (Q : VK) (d : PyData) : Prop := ∀ v H', Same H H' → Dp K H' v d → Q v H'
def spBarLoad (K : PySem.W.Frag) (C : Addr) : Sp := fun vs H Q _ => ∃ (p d : Addr) (kind : Str) (k : Int) (S : Sto) (done : List Int), vs = [.ref p, .ref d, .str kind, .int k] ∧ Ob K C H p S ∧ SqT K H d (done.map V.int) ∧ 0 ≤ k ∧ k < S.shelves.length ∧ Rising 0 S.wishes.length done ∧
  Ret K H Q (dbar (barLoad S done kind k))
/-! _bar_of_load: 0 store, 1 done, 2 kind, 3 shelf, 4 room, 5 _, 6 has -/
abbrev s__bar_of_load : Stmt := topS 22
abbrev N__bar_of_load : List Str := ["store", "done", "kind", "shelf", "room", "_", "has"]
theorem sc__bar_of_load : FnScope N__bar_of_load ["store", "done", "kind", "shelf"] (defScope s__bar_of_load) := ⟨rfl, rfl, rfl, by decide +kernel, rfl, by decide +kernel, by decide +kernel⟩
theorem ok__bar_of_load {f f1 C fI fS fW : Addr} {fd fd1 fdI fdS fdW : FuncData} (D : Dfs K mg "_bar_of_load" s__bar_of_load ["store", "done", "kind", "shelf"] f fd) (TS : TSx K mg C fI fS fW fdI fdS fdW) (G_shelves : FnOk P w K mg base CX0 1 fS fdS ["self"] (spShelvesM K C))
    (C__has_now : Cal P w K mg base 2 "_has_now" ["store", "done", "shelf"] (spHasNow K C) f1 fd1) : Cal P w K mg base 3 "_bar_of_load" ["store", "done", "kind", "shelf"] (spBarLoad K C) f fd := by
  refine D.cal (D.F.ok sc__bar_of_load (fun vs H Q E h => ?_) (fun cdv A outer s H vs Q E hr h => ?_))
  · obtain ⟨p, d, kind, k, S, done, rfl, _⟩ := h
    rfl
  · obtain ⟨p, d, kind, k, S, done, rfl, ob, hd, k0, k1, hz, q⟩ := h
    obtain ⟨dx, l, m, xs, ys, o⟩ := id ob
    obtain ⟨sh, hsh, _, _, eroom⟩ := shelf_at_k k0 k1
    refine ⟨_, (pss_cons (ps_asg (pe_ix (kix_list (K := K)) (pe_meth0 (pv 0) TS.cl TS.m_shelves G_shelves (hr.mono (by decide)) TS.b_shelves .nil pass0) (pv 3) (fun _ _ => rfl)) (pg_tup (by rfl) (pgs_cons (pg_name (i := 4) sc__bar_of_load.nd rfl (Or.inl rfl)) (pgs_cons (pg_name (i := 5) sc__bar_of_load.nd rfl (Or.inl rfl)) (pgs_cons (pg_name (i := 5) sc__bar_of_load.nd rfl (Or.inl rfl)) pgs_nil)))))
      (pss_cons (ps_set (i := 6) sc__bar_of_load.nd rfl (Or.inl rfl) (pe_call C__has_now.G (hr.mono (by decide)) (by rfl) C__has_now.g C__has_now.kp C__has_now.b .nil pass0 (pa_cons (pv 0) (pa_cons (pv 1) (pa_cons (pv 3) pa_nil)))))
      (pss_cons (ps_if (PW.pt (pw_and (pt_cmpR op_eq (pv 2) pe_str (nomark _)) (pw_and1 (pt_cmpR op_eq (pv 6) pe_int (nomark _))))) (pss_one (ps_ret (pe_tup (pa_cons pe_str (pa_cons (pv 3) pa_nil))))) pss_nil)
      (pss_cons (ps_if (PW.pt (pw_and (pt_cmpR op_eq (pv 2) pe_str (nomark _)) (pw_and1 (pt_cmpR op_eq (pv 6) (pv 4) (nomark _))))) (pss_one (ps_ret (pe_tup (pa_cons pe_str (pa_cons (pv 3) pa_nil))))) pss_nil)
      (pss_one (ps_ret pe_non)))))), ?_⟩
    refine ⟨_, rfl, p, dx, _, rfl, o.o, fsS_m1, p, S, rfl, ob, fun r zs nr dzs => ?_⟩
    obtain ⟨a, ha, hT⟩ := shelf_get dzs hsh
    have s1 := same_new (o := .lst zs) nr
    refine ⟨_, rfl, r, zs, k, .ref a, rfl, rfl, lst_new, at_of (j := k.toNat) (by omega) ha, a, _, rfl, Same.t s1 hT, rfl, _, _, rfl, _, _, rfl, _, _, rfl, rfl, ?_⟩
    refine ⟨_, rfl, _, rfl, _, rfl, p, d, k, S, done, rfl, ob.mono s1, Same.t s1 hd, k0, k1, hz, fun H2 s2 => ?_⟩
    have s12 := s1.trans s2
    refine ⟨_, rfl, rfl, _, rfl, ?_⟩
    unfold barLoad at q
    rw [eroom] at q
    by_cases e1 : kind = "fetch"
    · refine itD (by rw [e1]) ⟨_, rfl, rfl, _, rfl, ?_⟩
      by_cases e2 : goods S done k = 0
      · rw [if_pos ⟨e1, e2⟩] at q
        exact itD (by rw [e2]) ⟨_, rfl, small (by simp), fun pt npt => q _ _ (Same.new s12 npt) two_new⟩
      · rw [if_neg (fun z => e2 z.2), if_neg (fun z => by rw [e1] at z; exact absurd z.1 (by decide +kernel))] at q
        refine itF (ine e2) ⟨_, rfl, rfl, _, rfl, itF (sne (by rw [e1]; decide +kernel)) (iteF ?_)⟩
        exact q _ _ s12 .non
    · rw [if_neg (fun z => e1 z.1)] at q
      refine itF (sne e1) (iteF ⟨_, rfl, rfl, _, rfl, ?_⟩)
      by_cases e3 : kind = "bring"
      · refine itD (by rw [e3]) ⟨_, rfl, _, rfl, rfl, _, rfl, ?_⟩
        by_cases e2 : goods S done k = sh.room
        · rw [if_pos ⟨e3, e2⟩] at q
          exact itD (by rw [e2]) ⟨_, rfl, small (by simp), fun pt npt => q _ _ (Same.new s12 npt) two_new⟩
        · rw [if_neg (fun z => e2 z.2)] at q
          exact itF (ine e2) (q _ _ s12 .non)
      · rw [if_neg (fun z => e3 z.1)] at q
        exact itF (sne e3) (iteF (q _ _ s12 .non))
def spBarWish (K : PySem.W.Frag) (C : Addr) : Sp := fun vs H Q _ => ∃ (p : Addr) (v : V) (n : Int) (S : Sto) (s : Sta), vs = [.ref p, v, .int n] ∧ Ob K C H p S ∧ Dp K H v s.d ∧ StoOk S ∧ Rising 0 S.wishes.length s.done ∧ 0 ≤ n ∧ n < S.wishes.length ∧
  Ret K H Q (dbar (barWish S s n))
/-! _bar_of_wish: 0 store, 1 state, 2 wish, 3 aisle, 4 done, 5 inside, 6 _, 7 kind, 8 shelf, 9 side, 10 crew, 11 after, 12 earlier -/
abbrev s__bar_of_wish : Stmt := topS 21
abbrev N__bar_of_wish : List Str := ["store", "state", "wish", "aisle", "done", "inside", "_", "kind", "shelf", "side", "crew", "after", "earlier"]
theorem sc__bar_of_wish : FnScope N__bar_of_wish ["store", "state", "wish"] (defScope s__bar_of_wish) := ⟨rfl, rfl, rfl, by decide +kernel, rfl, by decide +kernel, by decide +kernel⟩
theorem ok__bar_of_wish {f f1 f2 C fI fS fW : Addr} {fd fd1 fd2 fdI fdS fdW : FuncData} (D : Dfs K mg "_bar_of_wish" s__bar_of_wish ["store", "state", "wish"] f fd) (TS : TSx K mg C fI fS fW fdI fdS fdW) (G_wishes : FnOk P w K mg base CX0 1 fW fdW ["self"] (spWishesM K C))
    (C__bar_of_load : Cal P w K mg base 3 "_bar_of_load" ["store", "done", "kind", "shelf"] (spBarLoad K C) f1 fd1) (C__is_beside : Cal P w K mg base 1 "_is_beside" ["aisle", "shelf", "side"] spBeside f2 fd2) :
    Cal P w K mg base 4 "_bar_of_wish" ["store", "state", "wish"] (spBarWish K C) f fd := by
  refine D.cal (D.F.ok sc__bar_of_wish (fun vs H Q E h => ?_) (fun cdv A outer s H vs Q E hr h => ?_))
  · obtain ⟨p, v, n, S, s, rfl, _⟩ := h
    rfl
  · obtain ⟨p, v, n, S, st, rfl, ob, hv, ok, hz, n0, n1, q⟩ := h
    obtain ⟨dx, l, m, xs, ys, o⟩ := id ob
    obtain ⟨x, hx, hmem⟩ := wish_at_k n0 n1
    have okx := ok.ws x hmem
    obtain ⟨sa, d, i, rfl, hsa, hd, hi⟩ := sta_at hv
    refine ⟨_, (pss_cons (ps_asg (pv 1) (pg_tup (by rfl) (pgs_cons (pg_name (i := 3) sc__bar_of_wish.nd rfl (Or.inl rfl)) (pgs_cons (pg_name (i := 4) sc__bar_of_wish.nd rfl (Or.inl rfl)) (pgs_cons (pg_name (i := 5) sc__bar_of_wish.nd rfl (Or.inl rfl)) (pgs_cons (pg_name (i := 6) sc__bar_of_wish.nd rfl (Or.inl rfl)) pgs_nil))))))
      (pss_cons (ps_asg (pe_ix (kix_list (K := K)) (pe_meth0 (pv 0) TS.cl TS.m_wishes G_wishes (hr.mono (by decide)) TS.b_wishes .nil pass0) (pv 2) (fun _ _ => rfl)) (pg_tup (by rfl) (pgs_cons (pg_name (i := 7) sc__bar_of_wish.nd rfl (Or.inl rfl)) (pgs_cons (pg_name (i := 8) sc__bar_of_wish.nd rfl (Or.inl rfl)) (pgs_cons (pg_name (i := 9) sc__bar_of_wish.nd rfl (Or.inl rfl)) (pgs_cons (pg_name (i := 10) sc__bar_of_wish.nd rfl (Or.inl rfl)) (pgs_cons (pg_name (i := 6) sc__bar_of_wish.nd rfl (Or.inl rfl)) (pgs_cons (pg_name (i := 11) sc__bar_of_wish.nd rfl (Or.inl rfl)) pgs_nil))))))))
      (pss_cons (ps_if (pt_cmpR (kin_seq (K := K)) (pv 2) (pv 4) (by rfl)) (pss_one (ps_ret (pe_tup (pa_cons pe_str (pa_cons (pv 2) pa_nil))))) pss_nil)
      (pss_cons (ps_for PassesOwn.never rfl (pi_tup (pv 11)) (pg_name (i := 12) sc__bar_of_wish.nd rfl (Or.inl rfl)) (pss_one (ps_if (pt_cmpR (knotIn_seq (K := K)) (pv 12) (pv 4) (by rfl)) (pss_one (ps_ret (pe_tup (pa_cons pe_str (pa_cons (pv 12) pa_nil))))) pss_nil)))
      (pss_cons (ps_if (pt_cmpR (knotIn_seq (K := K)) (pv 10) (pv 5) (by rfl)) (pss_one (ps_ret (pe_tup (pa_cons pe_str (pa_cons (pv 10) pa_nil))))) pss_nil)
      (pss_cons (ps_if (pt_not (pt_val (pe_call C__is_beside.G (hr.mono (by decide)) (by rfl) C__is_beside.g C__is_beside.kp C__is_beside.b .nil pass0 (pa_cons (pv 3) (pa_cons (pv 8) (pa_cons (pv 9) pa_nil)))))) (pss_one (ps_ret (pe_tup (pa_cons pe_str (pa_cons (pv 3) pa_nil))))) pss_nil)
      (pss_one (ps_ret (pe_call C__bar_of_load.G (hr.mono (by decide)) (by rfl) C__bar_of_load.g C__bar_of_load.kp C__bar_of_load.b .nil pass0 (pa_cons (pv 0) (pa_cons (pv 4) (pa_cons (pv 7) (pa_cons (pv 8) pa_nil))))))))))))), ?_⟩
    refine ⟨_, rfl, sa, _, rfl, hsa, rfl, _, _, rfl, _, _, rfl, _, _, rfl, _, _, rfl, rfl, ?_⟩
    refine ⟨_, rfl, p, dx, _, rfl, o.o, fsS_m2, p, S, rfl, ob, fun r zs nr dzs => ?_⟩
    obtain ⟨a, t, ha, hT, ht⟩ := wish_get dzs hx
    have s1 := same_new (o := .lst zs) nr
    replace hT := Same.t s1 hT
    replace ht := Same.t s1 ht
    refine ⟨_, rfl, r, zs, n, .ref a, rfl, rfl, lst_new, at_of (j := n.toNat) (by omega) ha, a, _, rfl, hT, rfl, _, _, rfl, _, _, rfl, _, _, rfl, _, _, rfl, _, _, rfl, _, _, rfl, rfl, ?_⟩
    have hd1 := Same.t s1 hd
    have hi1 := Same.t s1 hi
    have ob1 := ob.mono s1
    unfold barWish at q
    rw [hx] at q
    dsimp only at q
    generalize upd H r (.lst zs) = H1 at s1 hd1 hi1 ob1 hT ht
    refine ⟨_, rfl, _, rfl, d, _, rfl, .inr hd1, rfl, flat_ints _, _, rfl, ?_⟩
    by_cases e1 : n ∈ st.done
    · rw [if_pos e1] at q
      exact in_y e1 ⟨_, rfl, small (by simp), fun pt npt => q _ _ (Same.new s1 npt) two_new⟩
    rw [if_neg e1] at q
    refine in_n e1 ?_
    -- for earlier in after
    refine ⟨_, rfl, t, rfl, ⟨_, ht⟩, for_tup (K := K) (a := t) (xs := x.after.map V.int) (fun j σ H' => H' = H1 ∧ (∀ z ∈ x.after.take j, z ∈ st.done) ∧ ∃ v12 : Option V, σ = [some (.ref p), some (.ref sa), some (.int n), some (.int st.aisle), some (.ref d), some (.ref i), some (.int x.keep), some (.str x.kind), some (.int x.shelf), some (.str x.side), some (.int x.crew), some (.ref t), v12])
      ⟨rfl, fun z hz => absurd hz (by simp), none, rfl⟩ (fun j σ H' _ h => by rw [h.1]; exact ht) ?_ ?_⟩
    · rintro j y σ H' hj ⟨rfl, hall, v12, rfl⟩
      obtain ⟨z, hzj, rfl⟩ := int_item hj
      refine ⟨_, rfl, _, rfl, d, _, rfl, .inr hd1, rfl, flat_ints _, _, rfl, ?_⟩
      by_cases e2 : z ∈ st.done
      · refine ni_n e2 ⟨rfl, ?_, _, rfl⟩
        intro y hy
        rw [take_snoc hzj] at hy
        rcases List.mem_append.mp hy with hy | hy
        · exact hall y hy
        · rw [List.mem_singleton] at hy
          rw [hy]
          exact e2
      · have ef : x.after.find? (fun z => decide (z ∉ st.done)) = some z := find_take (fun y hy => by rw [decide_eq_false (fun h => h (hall y hy))]) hzj (decide_eq_true e2)
        rw [ef] at q
        exact ni_y e2 ⟨_, rfl, small (by simp), fun pt npt => q _ _ (Same.new s1 npt) two_new⟩
    · rintro σ H' ⟨rfl, hall, v12, rfl⟩
      rw [List.length_map, List.take_length] at hall
      have ef : x.after.find? (fun z => decide (z ∉ st.done)) = none := List.find?_eq_none.mpr fun y hy => by
        rw [decide_eq_false (fun h => h (hall y hy))]
        decide
      rw [ef] at q
      dsimp only at q
      refine ⟨_, rfl, _, rfl, i, _, rfl, .inr hi1, rfl, flat_ints _, _, rfl, ?_⟩
      by_cases e3 : x.crew ∈ st.inside
      · rw [if_neg (fun h => h e3)] at q
        refine ni_n e3 ⟨_, rfl, _, rfl, _, rfl, st.aisle, x.shelf, x.side, rfl, fun H2 s2 => ⟨_, rfl, ?_⟩⟩
        have s12 := s1.trans s2
        cases e4 : beside st.aisle x.shelf x.side with
        | false =>
          rw [e4, if_pos rfl] at q
          exact iteT ⟨_, rfl, small (by simp), fun pt npt => q _ _ (Same.new s12 npt) two_new⟩
        | true =>
          rw [e4, if_neg (by decide)] at q
          exact iteF ⟨_, rfl, _, rfl, _, rfl, _, rfl, p, d, x.kind, x.shelf, S, st.done, rfl, ob1.mono s2, Same.t s2 hd1, okx.s0, okx.s1, hz, fun v H3 s3 h3 => q v H3 (s12.trans s3) h3⟩
      · rw [if_pos e3] at q
        exact ni_y e3 ⟨_, rfl, small (by simp), fun pt npt => q _ _ (Same.new s1 npt) two_new⟩
def spBarIn (K : PySem.W.Frag) : Sp := fun vs H Q _ => ∃ (v : V) (c : Int) (s : Sta), vs = [v, .int c] ∧ Dp K H v s.d ∧ Ret K H Q (dbar (if c ∈ s.inside then some ("is", c) else none))
/-! _bar_of_going_in: 0 state, 1 crew, 2 _, 3 inside -/
abbrev s__bar_of_going_in : Stmt := topS 19
abbrev N__bar_of_going_in : List Str := ["state", "crew", "_", "inside"]
theorem sc__bar_of_going_in : FnScope N__bar_of_going_in ["state", "crew"] (defScope s__bar_of_going_in) := ⟨rfl, rfl, rfl, by decide +kernel, rfl, by decide +kernel, by decide +kernel⟩
theorem ok__bar_of_going_in {f : Addr} {fd : FuncData} (D : Dfs K mg "_bar_of_going_in" s__bar_of_going_in ["state", "crew"] f fd) : Cal P w K mg base 1 "_bar_of_going_in" ["state", "crew"] (spBarIn K) f fd := by
  refine D.cal (D.F.ok sc__bar_of_going_in (fun vs H Q E h => ?_) (fun cdv A outer s H vs Q E hr h => ?_))
  · obtain ⟨v, c, s, rfl, _⟩ := h
    rfl
  · obtain ⟨v, c, st, rfl, hv, q⟩ := h
    obtain ⟨sa, d, i, rfl, hsa, hd, hi⟩ := sta_at hv
    refine ⟨_, (pss_cons (ps_asg (pv 0) (pg_tup (by rfl) (pgs_cons (pg_name (i := 2) sc__bar_of_going_in.nd rfl (Or.inl rfl)) (pgs_cons (pg_name (i := 2) sc__bar_of_going_in.nd rfl (Or.inl rfl)) (pgs_cons (pg_name (i := 3) sc__bar_of_going_in.nd rfl (Or.inl rfl)) (pgs_cons (pg_name (i := 2) sc__bar_of_going_in.nd rfl (Or.inl rfl)) pgs_nil))))))
      (pss_cons (ps_if (pt_cmpR (kin_seq (K := K)) (pv 1) (pv 3) (by rfl)) (pss_one (ps_ret (pe_tup (pa_cons pe_str (pa_cons (pv 1) pa_nil))))) pss_nil)
      (pss_one (ps_ret pe_non)))), ?_⟩
    refine ⟨_, rfl, sa, _, rfl, hsa, rfl, _, _, rfl, _, _, rfl, _, _, rfl, _, _, rfl, rfl, ?_⟩
    refine ⟨_, rfl, _, rfl, i, _, rfl, .inr hi, rfl, flat_ints _, _, rfl, ?_⟩
    by_cases e1 : c ∈ st.inside
    · rw [if_pos e1] at q
      exact in_y e1 ⟨_, rfl, small (by simp), fun pt npt => q _ _ (same_new npt) two_new⟩
    · rw [if_neg e1] at q
      exact in_n e1 (q _ _ (Same.refl _) .non)
def spBarOut (K : PySem.W.Frag) : Sp := fun vs H Q _ => ∃ (v : V) (c : Int) (s : Sta), vs = [v, .int c] ∧ Dp K H v s.d ∧ Ret K H Q (dbar (if c ∈ s.inside then none else some ("isnt", c)))
/-! _bar_of_going_out: 0 state, 1 crew, 2 _, 3 inside -/
abbrev s__bar_of_going_out : Stmt := topS 20
abbrev N__bar_of_going_out : List Str := ["state", "crew", "_", "inside"]
theorem sc__bar_of_going_out : FnScope N__bar_of_going_out ["state", "crew"] (defScope s__bar_of_going_out) := ⟨rfl, rfl, rfl, by decide +kernel, rfl, by decide +kernel, by decide +kernel⟩
theorem ok__bar_of_going_out {f : Addr} {fd : FuncData} (D : Dfs K mg "_bar_of_going_out" s__bar_of_going_out ["state", "crew"] f fd) : Cal P w K mg base 1 "_bar_of_going_out" ["state", "crew"] (spBarOut K) f fd := by
  refine D.cal (D.F.ok sc__bar_of_going_out (fun vs H Q E h => ?_) (fun cdv A outer s H vs Q E hr h => ?_))
  · obtain ⟨v, c, s, rfl, _⟩ := h
    rfl
  · obtain ⟨v, c, st, rfl, hv, q⟩ := h
    obtain ⟨sa, d, i, rfl, hsa, hd, hi⟩ := sta_at hv
    refine ⟨_, (pss_cons (ps_asg (pv 0) (pg_tup (by rfl) (pgs_cons (pg_name (i := 2) sc__bar_of_going_out.nd rfl (Or.inl rfl)) (pgs_cons (pg_name (i := 2) sc__bar_of_going_out.nd rfl (Or.inl rfl)) (pgs_cons (pg_name (i := 3) sc__bar_of_going_out.nd rfl (Or.inl rfl)) (pgs_cons (pg_name (i := 2) sc__bar_of_going_out.nd rfl (Or.inl rfl)) pgs_nil))))))
      (pss_cons (ps_if (pt_cmpR (knotIn_seq (K := K)) (pv 1) (pv 3) (by rfl)) (pss_one (ps_ret (pe_tup (pa_cons pe_str (pa_cons (pv 1) pa_nil))))) pss_nil)
      (pss_one (ps_ret pe_non)))), ?_⟩
    refine ⟨_, rfl, sa, _, rfl, hsa, rfl, _, _, rfl, _, _, rfl, _, _, rfl, _, _, rfl, rfl, ?_⟩
    refine ⟨_, rfl, _, rfl, i, _, rfl, .inr hi, rfl, flat_ints _, _, rfl, ?_⟩
    by_cases e1 : c ∈ st.inside
    · rw [if_pos e1] at q
      exact ni_n e1 (q _ _ (Same.refl _) .non)
    · rw [if_neg e1] at q
      exact ni_y e1 ⟨_, rfl, small (by simp), fun pt npt => q _ _ (same_new npt) two_new⟩
def spBarShift (K : PySem.W.Frag) (C : Addr) : Sp := fun vs H Q _ => ∃ (p : Addr) (v : V) (b : Int) (S : Sto) (s : Sta), vs = [.ref p, v, .int b] ∧ Ob K C H p S ∧ Dp K H v s.d ∧ Ret K H Q (dbar (barShift S s b))
/-! _bar_of_shift: 0 store, 1 state, 2 by, 3 aisle, 4 _, 5 inside, 6 kept, 7 shelves, 8 shelf, 9 sticks -/
abbrev s__bar_of_shift : Stmt := topS 18
abbrev N__bar_of_shift : List Str := ["store", "state", "by", "aisle", "_", "inside", "kept", "shelves", "shelf", "sticks"]
theorem sc__bar_of_shift : FnScope N__bar_of_shift ["store", "state", "by"] (defScope s__bar_of_shift) := ⟨rfl, rfl, rfl, by decide +kernel, rfl, by decide +kernel, by decide +kernel⟩
theorem ok__bar_of_shift {f C fI fS fW : Addr} {fd fdI fdS fdW : FuncData} (D : Dfs K mg "_bar_of_shift" s__bar_of_shift ["store", "state", "by"] f fd) (T : Tx K mg) (TS : TSx K mg C fI fS fW fdI fdS fdW) (G_shelves : FnOk P w K mg base CX0 1 fS fdS ["self"] (spShelvesM K C)) :
    Cal P w K mg base 2 "_bar_of_shift" ["store", "state", "by"] (spBarShift K C) f fd := by
  refine D.cal (D.F.ok sc__bar_of_shift (fun vs H Q E h => ?_) (fun cdv A outer s H vs Q E hr h => ?_))
  · obtain ⟨p, v, b, S, s, rfl, _⟩ := h
    rfl
  · obtain ⟨p, v, b, S, st, rfl, ob, hv, q⟩ := h
    obtain ⟨dx, l, m, xs, ys, o⟩ := id ob
    obtain ⟨sa, d, i, rfl, hsa, hd, hi⟩ := sta_at hv
    refine ⟨_, (pss_cons (ps_asg (pv 1) (pg_tup (by rfl) (pgs_cons (pg_name (i := 3) sc__bar_of_shift.nd rfl (Or.inl rfl)) (pgs_cons (pg_name (i := 4) sc__bar_of_shift.nd rfl (Or.inl rfl)) (pgs_cons (pg_name (i := 5) sc__bar_of_shift.nd rfl (Or.inl rfl)) (pgs_cons (pg_name (i := 6) sc__bar_of_shift.nd rfl (Or.inl rfl)) pgs_nil))))))
      (pss_cons (ps_set (i := 7) sc__bar_of_shift.nd rfl (Or.inl rfl) (pe_meth0 (pv 0) TS.cl TS.m_shelves G_shelves (hr.mono (by decide)) TS.b_shelves .nil pass0))
      (C8.pss_cut (ps_set (i := 8) sc__bar_of_shift.nd rfl (Or.inl rfl) (pe_ifExp (pt_cmpR op_eq (pv 2) pe_int (nomark _)) (pv 3) (pe_op op_sub (pv 3) pe_int)))
      (pss_cons (ps_if (pt_not (pt_chain op_le op_lt pe_int (pv 8) (pe_callB (klen (K := K)) (by rfl) T.n_len (by decide +kernel) (pa_cons (pv 7) pa_nil)))) (pss_one (ps_ret (pe_tup (pa_cons pe_str (pa_cons (pv 3) pa_nil))))) pss_nil)
      (pss_cons (ps_asg (pe_ix (kix_list (K := K)) (pv 7) (pv 8) (fun _ _ => rfl)) (pg_tup (by rfl) (pgs_cons (pg_name (i := 4) sc__bar_of_shift.nd rfl (Or.inl rfl)) (pgs_cons (pg_name (i := 4) sc__bar_of_shift.nd rfl (Or.inl rfl)) (pgs_cons (pg_name (i := 9) sc__bar_of_shift.nd rfl (Or.inl rfl)) pgs_nil)))))
      (pss_cons (ps_if (pt_cmpR op_eq (pv 9) pe_int (nomark _)) (pss_one (ps_ret (pe_tup (pa_cons pe_str (pa_cons (pv 8) pa_nil))))) pss_nil)
      (pss_cons (ps_if (pt_cmpR op_gt (pe_callB (klen (K := K)) (by rfl) T.n_len (by decide +kernel) (pa_cons (pv 5) pa_nil)) pe_int (nomark _)) (pss_one (ps_ret (pe_tup (pa_cons pe_str (pa_cons (pe_ix (kix_tup (K := K)) (pv 5) pe_int (fun _ _ => rfl)) pa_nil))))) pss_nil)
      (pss_cons (ps_if (pt_cmpR op_gt (pv 6) pe_int (nomark _)) (pss_one (ps_ret (pe_tup (pa_cons pe_str (pa_cons (pv 6) pa_nil))))) pss_nil)
      (pss_one (ps_ret pe_non)))))))))), ?_⟩
    refine ⟨_, rfl, sa, _, rfl, hsa, rfl, _, _, rfl, _, _, rfl, _, _, rfl, _, _, rfl, rfl, ?_⟩
    refine ⟨_, rfl, p, dx, _, rfl, o.o, fsS_m1, p, S, rfl, ob, fun r zs nr dzs => ?_⟩
    have s1 := same_new (o := .lst zs) nr
    have hr1 : SqL K (upd H r (.lst zs)) r zs := lst_new
    have hi1 := Same.t s1 hi
    have lz : zs.length = S.shelves.length := (dps_len dzs).trans (List.length_map ..)
    have dz1 := dps_mono s1 dzs
    generalize upd H r (.lst zs) = H1 at s1 hr1 hi1 dz1
    refine ⟨fun σ H' => H' = H1 ∧ σ = [some (.ref p), some (.ref sa), some (.int b), some (.int st.aisle), some (.ref d), some (.ref i), some (.int st.kept), some (.ref r), some (.int (if b = 1 then st.aisle else st.aisle - 1)), none], ?_, ?_⟩
    · refine ⟨_, rfl, rfl, _, rfl, ?_⟩
      by_cases e : b = 1
      · refine itD (by rw [e]) ⟨_, rfl, rfl, ?_⟩
        rw [if_pos e]
        rfl
      · refine itF (ine e) ⟨_, rfl, _, 1, rfl, rfl, rfl, ?_⟩
        rw [if_neg e]
        rfl
    · rintro σ H' ⟨rfl, rfl⟩
      unfold barShift at q
      dsimp only at q
      generalize (if b = 1 then st.aisle else st.aisle - 1) = sh at q
      refine ⟨_, rfl, _, _, rfl, rfl, _, rfl, ?_⟩
      by_cases e0 : 0 ≤ sh
      rotate_left
      · rw [if_neg (fun z => e0 z.1)] at q
        exact itF e0 ⟨_, rfl, iteT ⟨_, rfl, small (by simp), fun pt npt => q _ _ (Same.new s1 npt) two_new⟩⟩
      refine itD e0 ⟨_, rfl, r, zs, rfl, .inl hr1, _, _, rfl, rfl, _, rfl, ?_⟩
      by_cases e1 : sh < S.shelves.length
      rotate_left
      · rw [if_neg (fun z => e1 z.2)] at q
        exact itnF (by omega) ⟨_, rfl, small (by simp), fun pt npt => q _ _ (Same.new s1 npt) two_new⟩
      rw [if_pos ⟨e0, e1⟩] at q
      refine iteNS (by omega) ?_
      obtain ⟨x, hx, _⟩ := shelf_at_k e0 e1
      rw [hx] at q
      dsimp only at q
      obtain ⟨a, ha, hT⟩ := shelf_get dz1 hx
      refine ⟨_, rfl, _, rfl, r, zs, sh, .ref a, rfl, rfl, hr1, at_of (j := sh.toNat) (by omega) ha, a, _, rfl, hT, rfl, _, _, rfl, _, _, rfl, _, _, rfl, rfl, ?_⟩
      refine ⟨_, rfl, rfl, _, rfl, ?_⟩
      by_cases e2 : x.sticks = 1
      · rw [if_pos e2] at q
        exact itD (by rw [e2]) ⟨_, rfl, small (by simp), fun pt npt => q _ _ (Same.new s1 npt) two_new⟩
      rw [if_neg e2] at q
      refine itF (ine e2) ⟨_, rfl, i, _, rfl, .inr hi1, _, _, rfl, rfl, _, rfl, ?_⟩
      cases e3 : st.inside with
      | cons c cs =>
        rw [e3] at q hi1
        refine itD (by simp) ⟨_, rfl, i, _, 0, .int c, rfl, rfl, hi1, at_of (j := 0) rfl rfl, small (by simp), fun pt npt => q _ _ (Same.new s1 npt) two_new⟩
      | nil =>
        rw [e3] at q
        dsimp only at q
        refine itF (by simp) ⟨_, rfl, _, _, rfl, rfl, _, rfl, ?_⟩
        by_cases e4 : st.kept > 0
        · rw [if_pos e4] at q
          exact itD e4 ⟨_, rfl, small (by simp), fun pt npt => q _ _ (Same.new s1 npt) two_new⟩
        · rw [if_neg e4] at q
          exact itF e4 (q _ _ s1 .non)
end

structure Ts (K : PySem.W.Frag) (mg : Str → Option Value) : Prop where
  c_STEPS : ∃ (a : Addr) (xs : List V), mg "STEPS_OF_ANY_STORE" = some (.ref a) ∧ ∀ H, SqT K H a xs ∧ DpAll K H xs (dsteps fixedSteps)
section
variable {P : Program} {w : World} {K : PySem.W.Frag} {mg : Str → Option Value} {base : Heap}
def spBar (K : PySem.W.Frag) (C : Addr) : Sp := fun vs H Q _ => ∃ (p : Addr) (v u : V) (S : Sto) (s : Sta) (t : Stp), vs = [.ref p, v, u] ∧ Ob K C H p S ∧ Dp K H v s.d ∧ Dp K H u t.d ∧ StoOk S ∧ Rising 0 S.wishes.length s.done ∧ StpOk S.wishes.length t ∧
  Ret K H Q (dbar (bar S s t))
/-! _bar: 0 store, 1 state, 2 step, 3 word -/
abbrev s__bar : Stmt := topS 17
abbrev N__bar : List Str := ["store", "state", "step", "word"]
theorem sc__bar : FnScope N__bar ["store", "state", "step"] (defScope s__bar) := ⟨rfl, rfl, rfl, by decide +kernel, rfl, by decide +kernel, by decide +kernel⟩
theorem ok__bar {f f1 f2 f3 f4 C : Addr} {fd fd1 fd2 fd3 fd4 : FuncData} (D : Dfs K mg "_bar" s__bar ["store", "state", "step"] f fd) (C__bar_of_shift : Cal P w K mg base 2 "_bar_of_shift" ["store", "state", "by"] (spBarShift K C) f1 fd1)
    (C__bar_of_going_in : Cal P w K mg base 1 "_bar_of_going_in" ["state", "crew"] (spBarIn K) f2 fd2) (C__bar_of_going_out : Cal P w K mg base 1 "_bar_of_going_out" ["state", "crew"] (spBarOut K) f3 fd3) (C__bar_of_wish : Cal P w K mg base 4 "_bar_of_wish" ["store", "state", "wish"] (spBarWish K C) f4 fd4) :
    Cal P w K mg base 5 "_bar" ["store", "state", "step"] (spBar K C) f fd := by
  refine D.cal (D.F.ok sc__bar (fun vs H Q E h => ?_) (fun cdv A outer s H vs Q E hr h => ?_))
  · obtain ⟨p, v, u, S, s, t, rfl, _⟩ := h
    rfl
  · obtain ⟨p, v, u, S, st, t, rfl, ob, hv, hu, ok, hz, ht, q⟩ := h
    refine ⟨_, (pss_cons (ps_set (i := 3) sc__bar.nd rfl (Or.inl rfl) (pe_ix (kix_tup (K := K)) (pv 2) pe_int (fun _ _ => rfl)))
      (pss_cons (ps_if (pt_cmpR op_eq (pv 3) pe_str (nomark _)) (pss_one (ps_ret (pe_call C__bar_of_shift.G (hr.mono (by decide)) (by rfl) C__bar_of_shift.g C__bar_of_shift.kp C__bar_of_shift.b .nil pass0 (pa_cons (pv 0) (pa_cons (pv 1) (pa_cons (pe_ix (kix_tup (K := K)) (pv 2) pe_int (fun _ _ => rfl)) pa_nil)))))) pss_nil)
      (pss_cons (ps_if (pt_cmpR op_eq (pv 3) pe_str (nomark _)) (pss_one (ps_ret (pe_call C__bar_of_going_in.G (hr.mono (by decide)) (by rfl) C__bar_of_going_in.g C__bar_of_going_in.kp C__bar_of_going_in.b .nil pass0 (pa_cons (pv 1) (pa_cons (pe_ix (kix_tup (K := K)) (pv 2) pe_int (fun _ _ => rfl)) pa_nil))))) pss_nil)
      (pss_cons (ps_if (pt_cmpR op_eq (pv 3) pe_str (nomark _)) (pss_one (ps_ret (pe_call C__bar_of_going_out.G (hr.mono (by decide)) (by rfl) C__bar_of_going_out.g C__bar_of_going_out.kp C__bar_of_going_out.b .nil pass0 (pa_cons (pv 1) (pa_cons (pe_ix (kix_tup (K := K)) (pv 2) pe_int (fun _ _ => rfl)) pa_nil))))) pss_nil)
      (pss_cons (ps_if (pt_cmpR op_eq (pv 3) pe_str (nomark _)) (pss_one (ps_ret (pe_call C__bar_of_wish.G (hr.mono (by decide)) (by rfl) C__bar_of_wish.g C__bar_of_wish.kp C__bar_of_wish.b .nil pass0 (pa_cons (pv 0) (pa_cons (pv 1) (pa_cons (pe_ix (kix_tup (K := K)) (pv 2) pe_int (fun _ _ => rfl)) pa_nil)))))) pss_nil)
      (pss_one (ps_ret pe_non))))))), ?_⟩
    cases t with
    | wait =>
      obtain ⟨a, rfl, ha⟩ := dp_one hu
      refine ⟨_, rfl, a, _, 0, .str "wait", rfl, rfl, ha, rfl, ?_⟩
      refine ⟨_, rfl, rfl, _, rfl, itF (sne (by decide +kernel)) ⟨_, rfl, rfl, _, rfl, itF (sne (by decide +kernel)) ⟨_, rfl, rfl, _, rfl, itF (sne (by decide +kernel)) ⟨_, rfl, rfl, _, rfl, itF (sne (by decide +kernel)) ?_⟩⟩⟩⟩
      exact q _ _ (Same.refl _) .non
    | shift b =>
      obtain ⟨a, rfl, ha⟩ := dp_two hu
      refine ⟨_, rfl, a, _, 0, .str "shift", rfl, rfl, ha, rfl, ?_⟩
      refine ⟨_, rfl, rfl, _, rfl, itD rfl ⟨_, rfl, _, rfl, _, rfl, a, _, 1, .int b, rfl, rfl, ha, rfl, p, v, b, S, st, rfl, ob, hv, q⟩⟩
    | cin c =>
      obtain ⟨a, rfl, ha⟩ := dp_two hu
      refine ⟨_, rfl, a, _, 0, .str "in", rfl, rfl, ha, rfl, ?_⟩
      refine ⟨_, rfl, rfl, _, rfl, itF (sne (by decide +kernel)) ⟨_, rfl, rfl, _, rfl, itD rfl ⟨_, rfl, _, rfl, a, _, 1, .int c, rfl, rfl, ha, rfl, v, c, st, rfl, hv, q⟩⟩⟩
    | cout c =>
      obtain ⟨a, rfl, ha⟩ := dp_two hu
      refine ⟨_, rfl, a, _, 0, .str "out", rfl, rfl, ha, rfl, ?_⟩
      refine ⟨_, rfl, rfl, _, rfl, itF (sne (by decide +kernel)) ⟨_, rfl, rfl, _, rfl, itF (sne (by decide +kernel)) ⟨_, rfl, rfl, _, rfl, itD rfl ⟨_, rfl, _, rfl, a, _, 1, .int c, rfl, rfl, ha, rfl, v, c, st, rfl, hv, q⟩⟩⟩⟩
    | wish n =>
      obtain ⟨a, rfl, ha⟩ := dp_two hu
      refine ⟨_, rfl, a, _, 0, .str "do", rfl, rfl, ha, rfl, ?_⟩
      refine ⟨_, rfl, rfl, _, rfl, itF (sne (by decide +kernel)) ⟨_, rfl, rfl, _, rfl, itF (sne (by decide +kernel)) ⟨_, rfl, rfl, _, rfl, itF (sne (by decide +kernel)) ⟨_, rfl, rfl, _, rfl, itD rfl ?_⟩⟩⟩⟩
      exact ⟨_, rfl, _, rfl, _, rfl, a, _, 1, .int n, rfl, rfl, ha, rfl, p, v, n, S, st, rfl, ob, hv, ok, hz, ht.1, ht.2, q⟩
def sta0 (S : Sto) : Sta := ⟨S.aisle, [], [], 0⟩
def spBegin (K : PySem.W.Frag) (C : Addr) : Sp := fun vs H Q _ => ∃ (p : Addr) (S : Sto), vs = [.ref p] ∧ Ob K C H p S ∧ Ret K H Q (sta0 S).d
/-! begin: 0 store -/
abbrev s_begin : Stmt := topS 8
abbrev N_begin : List Str := ["store"]
theorem sc_begin : FnScope N_begin ["store"] (defScope s_begin) := ⟨rfl, rfl, rfl, by decide +kernel, rfl, by decide +kernel, by decide +kernel⟩
theorem ok_begin {f C fI fS fW : Addr} {fd fdI fdS fdW : FuncData} (D : Dfs K mg "begin" s_begin ["store"] f fd) (TS : TSx K mg C fI fS fW fdI fdS fdW) : Cal P w K mg base 1 "begin" ["store"] (spBegin K C) f fd := by
  refine D.cal (D.F.ok sc_begin (fun vs H Q E h => ?_) (fun cdv A outer s H vs Q E hr h => ?_))
  · obtain ⟨p, S, rfl, _⟩ := h
    rfl
  · obtain ⟨p, S, rfl, ⟨dx, l, m, xs, ys, o⟩, q⟩ := h
    refine ⟨_, (pss_one (ps_ret (pe_tup (pa_cons (pe_fld (pv 0) rfl) (pa_cons (pe_tup pa_nil) (pa_cons (pe_tup pa_nil) (pa_cons pe_int pa_nil))))))), ?_⟩
    refine ⟨_, rfl, p, C, dx, _, _, rfl, o.o, TS.cl, TS.nA, fsS_ai, small (by simp), fun p1 np1 => ⟨small (by simp), fun p2 np2 => ⟨small (by simp), fun p3 np3 => ?_⟩⟩⟩
    have s1 := same_new (o := .tup []) np1
    have s2 := same_new (o := .tup []) np2
    have s3 := same_new (o := .tup [.int S.aisle, .ref p1, .ref p2, .int 0]) np3
    exact q _ _ ((s1.trans s2).trans s3) (at_sta (s := sta0 S) tup_new (Same.t (s2.trans s3) tup_new) (Same.t s3 tup_new))
def spAllSteps (K : PySem.W.Frag) (C : Addr) : Sp := fun vs H Q _ => ∃ (p : Addr) (S : Sto), vs = [.ref p] ∧ Ob K C H p S ∧ StoOk S ∧ ∀ q xs H', Same H H' → H q = none → H' q = some (.lst xs) → DpAll K H' xs (dsteps (allSteps S.wishes.length)) → Q (.ref q) H'
/-! _all_steps: 0 store, 1 number -/
abbrev s__all_steps : Stmt := topS 16
abbrev N__all_steps : List Str := ["store", "number"]
theorem sc__all_steps : FnScope N__all_steps ["store"] (defScope s__all_steps) := ⟨rfl, rfl, rfl, by decide +kernel, rfl, by decide +kernel, by decide +kernel⟩
theorem ok__all_steps {f C fI fS fW : Addr} {fd fdI fdS fdW : FuncData} (D : Dfs K mg "_all_steps" s__all_steps ["store"] f fd) (T : Tx K mg) (Tp : Ts K mg) (TS : TSx K mg C fI fS fW fdI fdS fdW) (G_wishes : FnOk P w K mg base CX0 1 fW fdW ["self"] (spWishesM K C)) :
    Cal P w K mg base 2 "_all_steps" ["store"] (spAllSteps K C) f fd := by
  obtain ⟨a_STEPS_OF_ANY_STORE, fx, g_STEPS_OF_ANY_STORE, hF⟩ := Tp.c_STEPS
  refine D.cal (D.F.ok sc__all_steps (fun vs H Q E h => ?_) (fun cdv A outer s H vs Q E hr h => ?_))
  · obtain ⟨p, S, rfl, _⟩ := h
    rfl
  · obtain ⟨p, S, rfl, ob, ok, q⟩ := h
    obtain ⟨dx, l, m, xs, ys, o⟩ := id ob
    have w5 := ok.w5
    refine ⟨_, (pss_one (ps_ret (pe_op op_cat (pe_callTy (klist_of (K := K)) (by rfl) T.n_list (by decide +kernel) (pa_cons (pe_glob (v := .ref a_STEPS_OF_ANY_STORE) (by rfl) g_STEPS_OF_ANY_STORE rfl) pa_nil)) (pe_lc (own := [("number", 1)]) (g := gName 1) rfl sc__all_steps.nd (pi_range1 (by rfl) T.n_range (pa_cons (pe_callB (klen (K := K)) (by rfl) T.n_len (by decide +kernel) (pa_cons (pe_meth0 (pv 0) TS.cl TS.m_wishes G_wishes (hr.mono (by decide)) TS.b_wishes .nil pass0) pa_nil)) pa_nil)) (blkOk_by (own := [("number", 1)]) (N := N__all_steps) (sc := defScope s__all_steps) (by decide +kernel)) (fun _ _ _ _ _ => (pg_name (i := 1) sc__all_steps.nd rfl (Or.inl rfl))) (fun _ _ _ _ _ => pts_nil) (fun _ _ _ _ _ => by exact (pe_tup (pa_cons pe_str (pa_cons (pv 1) pa_nil)))))))), ?_⟩
    refine ⟨a_STEPS_OF_ANY_STORE, fx, rfl, .inr (hF _).1, fun l1 nl1 => ?_⟩
    have s1 := same_new (o := .lst fx) nl1
    refine ⟨_, rfl, p, dx, _, rfl, s1 _ _ o.o, fsS_m2, p, S, rfl, ob.mono s1, fun r us nr dus => ?_⟩
    have s2 := same_new (o := .lst us) nr
    have lu : us.length = S.wishes.length := (dps_len dus).trans (List.length_map ..)
    refine ⟨r, us, rfl, .inl lst_new, _, rfl, by omega, by omega, fun D nD => ?_⟩
    have e1 : (upd (upd H l1 (.lst fx)) r (.lst us)) l1 = some (.lst fx) := s2 _ _ upd_same
    have s12 := s1.trans s2
    generalize upd (upd H l1 (.lst fx)) r (.lst us) = H2 at nD e1 s12
    refine lc_range (lo := 0) (n := (us.length : Int).toNat) (fun i H' => ∃ B zs, Acq K H2 B H' D zs (dsteps ((List.range i).map fun (k : Nat) => Stp.wish (k : Int)))) ⟨H2, [], Acq.start (Same.refl _) (Same.refl _) nD⟩ ?_ ?_
    · rintro i H3 hi ⟨B, zs, A⟩
      refine ⟨rfl, _, rfl, small (by simp), fun p3 np3 => ?_⟩
      have A2 := A.grow (o := .tup [.str "do", .int (0 + (i : Int))]) np3
      refine ⟨zs, A2.el, ?_, ?_⟩
      · have e := dps_len A.dx
        have e2 : (dsteps ((List.range i).map fun (k : Nat) => Stp.wish (k : Int))).length = i := by
          unfold dsteps
          rw [List.length_map, List.length_map, List.length_range]
        exact small1000 (by omega)
      · refine ⟨upd B p3 (.tup [.str "do", .int (0 + (i : Int))]), zs ++ [.ref p3], ?_⟩
        · have A3 := A2.app (v := .ref p3) (d := (Stp.wish (0 + (i : Int))).d) (two_dp tup_new)
          have e : dsteps ((List.range (i + 1)).map fun (k : Nat) => Stp.wish (k : Int)) = dsteps ((List.range i).map fun (k : Nat) => Stp.wish (k : Int)) ++ [(Stp.wish (0 + (i : Int))).d] := by
            unfold dsteps
            rw [List.range_succ, List.map_append, List.map_append, Int.zero_add]
            rfl
          rw [e]
          exact A3
    · rintro H3 ⟨B, zs, A⟩
      obtain ⟨s3, _, dz⟩ := A.all
      have lz : zs.length = us.length := by
        have e := dps_len dz
        unfold dsteps at e
        rw [List.length_map, List.length_map, List.length_range] at e
        omega
      have lf : fx.length = 7 := dps_len (hF H).2
      refine ⟨l1, D, fx, zs, rfl, rfl, s3 _ _ e1, A.el, small (by omega), fun pq npq => ?_⟩
      have s4 := same_new (o := .lst (fx ++ zs)) npq
      refine q pq _ _ ((s12.trans s3).trans s4) ((s12.trans s3).free npq) upd_same ?_
      have e : dsteps (allSteps S.wishes.length) = dsteps fixedSteps ++ dsteps ((List.range S.wishes.length).map fun (k : Nat) => Stp.wish (k : Int)) := List.map_append ..
      rw [e]
      have en : (us.length : Int).toNat = S.wishes.length := by omega
      rw [en] at dz
      exact dps_app (hF _).2 (dps_mono s4 dz)
theorem any_mem {l : List Stp} {t : Stp} (h : t ∈ l) : ((dsteps l).any fun z => PyData.eqv z t.d) = true := List.any_eq_true.mpr ⟨t.d, List.mem_map.mpr ⟨t, h, rfl⟩, t.lay.refl⟩
theorem step_item {ts : List Stp} {i : Nat} {d : PyData} (h : (dsteps ts)[i]? = some d) : ∃ t, ts[i]? = some t ∧ d = t.d := by
  unfold dsteps at h
  rw [List.getElem?_map] at h
  cases e : ts[i]? with
  | none =>
    rw [e] at h
    cases h
  | some z =>
    rw [e] at h
    exact ⟨z, rfl, (Option.some.inj h).symm⟩
def openSteps (S : Sto) (s : Sta) : List Stp := (allSteps S.wishes.length).filter fun t => (bar S s t).isNone
theorem dbar_none {K : PySem.W.Frag} {H : Hp} {v : V} {o : Option (Str × Int)} (h : Dp K H v (dbar o)) : decide (v = .non) = o.isNone := by
  cases o with
  | none =>
    rw [dp_none h]
    rfl
  | some rn =>
    obtain ⟨a, rfl, _⟩ := dp_two h
    exact decide_eq_false (fun z => by cases z)
theorem allSteps_len (m : Nat) : (allSteps m).length = m + 7 := by
  unfold allSteps fixedSteps
  rw [List.length_append, List.length_map, List.length_range]
  show 7 + m = m + 7
  omega
end

/-! ## the state behind a step, plans -/
def insI (x : Int) : List Int → List Int
  | [] => [x]
  | y :: r => if x ≤ y then x :: y :: r else y :: insI x r
def sortI : List Int → List Int
  | [] => []
  | x :: r => insI x (sortI r)
theorem insI_perm (x : Int) : ∀ l : List Int, (insI x l).Perm (x :: l)
  | [] => List.Perm.refl _
  | y :: r => by
    unfold insI
    split
    · exact List.Perm.refl _
    · exact ((insI_perm x r).cons y).trans (List.Perm.swap x y r)
theorem sortI_perm : ∀ l : List Int, (sortI l).Perm l
  | [] => List.Perm.refl _
  | x :: r => (insI_perm x (sortI r)).trans ((sortI_perm r).cons x)
theorem insI_sorted {x : Int} : ∀ {l : List Int}, l.Pairwise (· ≤ ·) → (insI x l).Pairwise (· ≤ ·)
  | [], _ => List.pairwise_singleton _ _
  | y :: r, h => by
    obtain ⟨h1, h2⟩ := List.pairwise_cons.mp h
    unfold insI
    split
    · rename_i e
      refine List.pairwise_cons.mpr ⟨fun z hz => ?_, h⟩
      rcases List.mem_cons.mp hz with rfl | hz
      · exact e
      · exact Int.le_trans e (h1 z hz)
    · rename_i e
      refine List.pairwise_cons.mpr ⟨fun z hz => ?_, insI_sorted h2⟩
      rcases List.mem_cons.mp ((insI_perm x r).mem_iff.mp hz) with rfl | hz
      · omega
      · exact h1 z hz
theorem sortI_sorted : ∀ l : List Int, (sortI l).Pairwise (· ≤ ·)
  | [] => List.Pairwise.nil
  | x :: r => insI_sorted (sortI_sorted r)
theorem sortI_of {l m : List Int} (h1 : m.Perm l) (h2 : m.Pairwise (· ≤ ·)) : m = sortI l :=
  (h1.trans (sortI_perm l).symm).eq_of_pairwise (fun x y _ _ a b => Int.le_antisymm a b) h2 (sortI_sorted l)
theorem sortI_congr {l m : List Int} (h : l.Perm m) : sortI l = sortI m := sortI_of ((sortI_perm l).trans h) (sortI_sorted l)
theorem mem_sortI {l : List Int} {z : Int} : z ∈ sortI l ↔ z ∈ l := (sortI_perm l).mem_iff
theorem maxI {i j : Int} : (if j > i then j else i) = max i j := by
  split <;> omega
def keepAt (S : Sto) (n : Int) : Int := match S.wishes[n.toNat]? with
  | some x => x.keep
  | none => 0
def behindS (S : Sto) (s : Sta) : Stp → Sta
  | .wait => ⟨s.aisle, s.done, s.inside, max (s.kept - 1) 0⟩
  | .shift b => ⟨s.aisle + b, s.done, s.inside, max (s.kept - 1) 0⟩
  | .cin c => ⟨s.aisle, s.done, sortI (s.inside ++ [c]), max (s.kept - 1) 0⟩
  | .cout c => ⟨s.aisle, s.done, s.inside.filter (fun z => decide (z ≠ c)), max (s.kept - 1) 0⟩
  | .wish n => ⟨s.aisle, sortI (s.done ++ [n]), s.inside, max (max (s.kept - 1) 0) (keepAt S n)⟩
def runS (S : Sto) (s : Sta) (ts : List Stp) : Sta := ts.foldl (behindS S) s
def playS (S : Sto) : Sta → List Stp → List Sta
  | s, [] => [s]
  | s, t :: r => s :: playS S (behindS S s t) r
def OpenPlan (S : Sto) : Sta → List Stp → Prop
  | _, [] => True
  | s, t :: r => bar S s t = none ∧ OpenPlan S (behindS S s t) r
def DoneOk (S : Sto) (s : Sta) : Prop := Rising 0 S.wishes.length s.done
def dstates (l : List Sta) : List PyData := l.map Sta.d
theorem states_lays (l : List Sta) : Lays 2 (dstates l) := .all fun d hd => by
  obtain ⟨i, _, rfl⟩ := List.mem_map.mp hd
  exact i.lay
theorem runS_snoc {S : Sto} {s : Sta} {ts : List Stp} {t : Stp} : runS S s (ts ++ [t]) = behindS S (runS S s ts) t := by
  unfold runS
  rw [List.foldl_append]
  rfl
theorem playS_snoc {S : Sto} : ∀ {s : Sta} {ts : List Stp} {t : Stp}, playS S s (ts ++ [t]) = playS S s ts ++ [runS S s (ts ++ [t])]
  | s, [], t => rfl
  | s, u :: r, t => by
    show s :: playS S (behindS S s u) (r ++ [t]) = s :: (playS S (behindS S s u) r ++ [runS S (behindS S s u) (r ++ [t])])
    rw [playS_snoc]
theorem playS_len {S : Sto} : ∀ {s : Sta} {ts : List Stp}, (playS S s ts).length = ts.length + 1
  | s, [] => rfl
  | s, u :: r => by
    show (playS S (behindS S s u) r).length + 1 = _
    rw [playS_len, List.length_cons]
theorem Rising.sorted {lo m : Int} : ∀ {l : List Int}, Rising lo m l → l.Pairwise (· ≤ ·) ∧ ∀ z ∈ l, lo ≤ z
  | [], _ => ⟨List.Pairwise.nil, fun z h => absurd h (by simp)⟩
  | i :: r, ⟨a, b, c⟩ => by
    obtain ⟨h1, h2⟩ := Rising.sorted (l := r) c
    refine ⟨List.pairwise_cons.mpr ⟨fun z hz => ?_, h1⟩, fun z hz => ?_⟩
    · have := h2 z hz
      omega
    · rcases List.mem_cons.mp hz with rfl | hz
      · exact a
      · have := h2 z hz
        omega
theorem Rising.ins {lo m n : Int} : ∀ {l : List Int}, Rising lo m l → n ∉ l → lo ≤ n → n < m → Rising lo m (insI n l)
  | [], _, _, a, b => ⟨a, b, trivial⟩
  | i :: r, ⟨h1, h2, h3⟩, hn, a, b => by
    have ne : ¬ n = i := fun z => hn (by rw [z]; exact List.mem_cons_self)
    unfold insI
    split
    · exact ⟨a, b, by omega, h2, h3⟩
    · exact ⟨h1, h2, Rising.ins (l := r) h3 (fun z => hn (List.mem_cons_of_mem _ z)) (by omega) b⟩
theorem sort_ins {lo m n : Int} {l : List Int} (h : Rising lo m l) : sortI (l ++ [n]) = insI n l :=
  (sortI_of ((insI_perm n l).trans (List.perm_append_comm (l₁ := [n]) (l₂ := l))) (insI_sorted h.sorted.1)).symm
theorem barWish_none {S : Sto} {s : Sta} {n : Int} {x : Wish} (hx : S.wishes[n.toNat]? = some x) (h : barWish S s n = none) :
    n ∉ s.done ∧ (∀ z ∈ x.after, z ∈ s.done) ∧ x.crew ∈ s.inside ∧ beside s.aisle x.shelf x.side = true ∧ barLoad S s.done x.kind x.shelf = none := by
  unfold barWish at h
  rw [hx] at h
  dsimp only at h
  by_cases e1 : n ∈ s.done
  · rw [if_pos e1] at h
    cases h
  rw [if_neg e1] at h
  cases e2 : x.after.find? (fun z => decide (z ∉ s.done)) with
  | some z =>
    rw [e2] at h
    cases h
  | none =>
    rw [e2] at h
    dsimp only at h
    by_cases e3 : x.crew ∈ s.inside
    · rw [if_neg (fun y => y e3)] at h
      cases e4 : beside s.aisle x.shelf x.side with
      | false =>
        rw [e4, if_pos rfl] at h
        cases h
      | true =>
        rw [e4, if_neg (by decide)] at h
        refine ⟨e1, fun z hz => ?_, e3, rfl, h⟩
        have q := List.find?_eq_none.mp e2 z hz
        by_cases e5 : z ∈ s.done
        · exact e5
        · exact absurd (decide_eq_true e5) q
    · rw [if_pos e3] at h
      cases h
theorem DoneOk.step {S : Sto} {s : Sta} {t : Stp} (h : DoneOk S s) (ht : StpOk S.wishes.length t) (hb : bar S s t = none) : DoneOk S (behindS S s t) := by
  cases t with
  | wish n =>
    obtain ⟨x, hx, _⟩ := wish_at_k ht.1 ht.2
    obtain ⟨e1, _⟩ := barWish_none hx hb
    show Rising 0 _ (sortI (s.done ++ [n]))
    rw [sort_ins h]
    exact Rising.ins h e1 ht.1 ht.2
  | _ => exact h
theorem DoneOk.run {S : Sto} : ∀ {ts : List Stp} {s : Sta}, DoneOk S s → (∀ t ∈ ts, StpOk S.wishes.length t) → OpenPlan S s ts → DoneOk S (runS S s ts)
  | [], s, h, _, _ => h
  | t :: r, s, h, ht, op => DoneOk.run (ts := r) (h.step (ht t List.mem_cons_self) op.1) (fun u hu => ht u (List.mem_cons_of_mem _ hu)) op.2
theorem OpenPlan.take {S : Sto} : ∀ {ts : List Stp} {s : Sta} (i : Nat), OpenPlan S s ts → OpenPlan S s (ts.take i)
  | _, _, 0, _ => trivial
  | [], _, _ + 1, h => h
  | t :: r, s, i + 1, h => ⟨h.1, OpenPlan.take (ts := r) i h.2⟩
theorem OpenPlan.at {S : Sto} : ∀ {ts : List Stp} {s : Sta} {i : Nat} {t : Stp}, OpenPlan S s ts → ts[i]? = some t → bar S (runS S s (ts.take i)) t = none
  | [], s, i, t, _, h => by simp at h
  | u :: r, s, 0, t, h, e => by
    have e' : u = t := Option.some.inj e
    rw [← e']
    exact h.1
  | u :: r, s, i + 1, t, h, e => OpenPlan.at (ts := r) h.2 e
theorem OpenPlan.snoc {S : Sto} : ∀ {ts : List Stp} {s : Sta} {t : Stp}, OpenPlan S s ts → bar S (runS S s ts) t = none → OpenPlan S s (ts ++ [t])
  | [], s, t, _, h => ⟨h, trivial⟩
  | u :: r, s, t, h, e => ⟨h.1, OpenPlan.snoc (ts := r) h.2 e⟩
section
variable {P : Program} {w : World} {K : PySem.W.Frag} {mg : Str → Option Value} {base : Heap}
def spBehind (K : PySem.W.Frag) (C : Addr) : Sp := fun vs H Q _ => ∃ (p : Addr) (v u : V) (S : Sto) (s : Sta) (t : Stp), vs = [.ref p, v, u] ∧ Ob K C H p S ∧ Dp K H v s.d ∧ Dp K H u t.d ∧ StpOk S.wishes.length t ∧ s.done.length < 60 ∧ s.inside.length < 60 ∧ Ret K H Q (behindS S s t).d
/-! behind: 0 store, 1 state, 2 step, 3 aisle, 4 done, 5 inside, 6 kept, 7 word, 8 _, 9 keep, 10 crew -/
abbrev s_behind : Stmt := topS 13
abbrev N_behind : List Str := ["store", "state", "step", "aisle", "done", "inside", "kept", "word", "_", "keep", "crew"]
theorem sc_behind : FnScope N_behind ["store", "state", "step"] (defScope s_behind) := ⟨rfl, rfl, rfl, by decide +kernel, rfl, by decide +kernel, by decide +kernel⟩
theorem ok_behind {f C fI fS fW : Addr} {fd fdI fdS fdW : FuncData} (D : Dfs K mg "behind" s_behind ["store", "state", "step"] f fd) (T : Tx K mg) (TS : TSx K mg C fI fS fW fdI fdS fdW) (G_wishes : FnOk P w K mg base CX0 1 fW fdW ["self"] (spWishesM K C)) :
    Cal P w K mg base 2 "behind" ["store", "state", "step"] (spBehind K C) f fd := by
  refine D.cal (D.F.ok sc_behind (fun vs H Q E h => ?_) (fun cdv A outer s H vs Q E hr h => ?_))
  · obtain ⟨p, v, u, S, s, t, rfl, _⟩ := h
    rfl
  · obtain ⟨p, v, u, S, st, t, rfl, ob, hv, hu, ht, hl1, hl2, q⟩ := h
    obtain ⟨sa, d, i, rfl, hsa, hd, hi⟩ := sta_at hv
    obtain ⟨dx, l, m, xs, ys, o⟩ := id ob
    refine ⟨_, (pss_cons (ps_asg (pv 1) (pg_tup (by rfl) (pgs_cons (pg_name (i := 3) sc_behind.nd rfl (Or.inl rfl)) (pgs_cons (pg_name (i := 4) sc_behind.nd rfl (Or.inl rfl)) (pgs_cons (pg_name (i := 5) sc_behind.nd rfl (Or.inl rfl)) (pgs_cons (pg_name (i := 6) sc_behind.nd rfl (Or.inl rfl)) pgs_nil))))))
      (C8.pss_cut (ps_set (i := 6) sc_behind.nd rfl (Or.inl rfl) (pe_callB (call_max2 rfl) (by rfl) T.n_max (by decide +kernel) (pa_cons (pe_op op_sub (pv 6) pe_int) (pa_cons pe_int pa_nil))))
      (C8.pss_cut (ps_set (i := 7) sc_behind.nd rfl (Or.inl rfl) (pe_ix (kix_tup (K := K)) (pv 2) pe_int (fun _ _ => rfl)))
      (C8.pss_cut (ps_if (pt_cmpR op_eq (pv 7) pe_str (nomark _)) (pss_one (ps_set (i := 3) sc_behind.nd rfl (Or.inl rfl) (pe_op op_add (pv 3) (pe_ix (kix_tup (K := K)) (pv 2) pe_int (fun _ _ => rfl))))) (pss_one (ps_if (pt_cmpR op_eq (pv 7) pe_str (nomark _)) (pss_one (ps_set (i := 5) sc_behind.nd rfl (Or.inl rfl) (pe_callTy (ktuple_of (K := K)) (by rfl) T.n_tuple (by decide +kernel) (pa_cons (pe_callB (ksorted (K := K)) (by rfl) T.n_sorted (by decide +kernel) (pa_cons (pe_lst (StX.pa_star (pv 5) (pa_cons (pe_ix (kix_tup (K := K)) (pv 2) pe_int (fun _ _ => rfl)) pa_nil))) pa_nil)) pa_nil)))) (pss_one (ps_if (pt_cmpR op_eq (pv 7) pe_str (nomark _)) (pss_one (ps_set (i := 5) sc_behind.nd rfl (Or.inl rfl) (pe_callTy (ktuple_of (K := K)) (by rfl) T.n_tuple (by decide +kernel) (pa_cons (pe_lc (own := [("crew", 10)]) (g := gName 10) rfl sc_behind.nd (pi_tup (pv 5)) (blkOk_by (own := [("crew", 10)]) (N := N_behind) (sc := defScope s_behind) (by decide +kernel)) (fun _ _ _ _ _ => (pg_name (i := 10) sc_behind.nd rfl (Or.inl rfl))) (fun _ _ _ _ _ => (pts_one (pt_cmpR op_ne (pv 10) (pe_ix (kix_tup (K := K)) (pv 2) pe_int (fun _ _ => rfl)) (nomark _)))) (fun _ _ _ _ _ => (pv 10))) pa_nil)))) (pss_one (ps_if (pt_cmpR op_eq (pv 7) pe_str (nomark _)) (pss_cons (ps_asg (pe_ix (kix_list (K := K)) (pe_meth0 (pv 0) TS.cl TS.m_wishes G_wishes (hr.mono (by decide)) TS.b_wishes .nil pass0) (pe_ix (kix_tup (K := K)) (pv 2) pe_int (fun _ _ => rfl)) (fun _ _ => rfl)) (pg_tup (by rfl) (pgs_cons (pg_name (i := 8) sc_behind.nd rfl (Or.inl rfl)) (pgs_cons (pg_name (i := 8) sc_behind.nd rfl (Or.inl rfl)) (pgs_cons (pg_name (i := 8) sc_behind.nd rfl (Or.inl rfl)) (pgs_cons (pg_name (i := 8) sc_behind.nd rfl (Or.inl rfl)) (pgs_cons (pg_name (i := 9) sc_behind.nd rfl (Or.inl rfl)) (pgs_cons (pg_name (i := 8) sc_behind.nd rfl (Or.inl rfl)) pgs_nil))))))))
      (pss_cons (ps_set (i := 4) sc_behind.nd rfl (Or.inl rfl) (pe_callTy (ktuple_of (K := K)) (by rfl) T.n_tuple (by decide +kernel) (pa_cons (pe_callB (ksorted (K := K)) (by rfl) T.n_sorted (by decide +kernel) (pa_cons (pe_lst (StX.pa_star (pv 4) (pa_cons (pe_ix (kix_tup (K := K)) (pv 2) pe_int (fun _ _ => rfl)) pa_nil))) pa_nil)) pa_nil)))
      (pss_one (ps_set (i := 6) sc_behind.nd rfl (Or.inl rfl) (pe_callB (call_max2 rfl) (by rfl) T.n_max (by decide +kernel) (pa_cons (pv 6) (pa_cons (pv 9) pa_nil))))))) pss_nil)))))))
      (pss_one (ps_ret (pe_tup (pa_cons (pv 3) (pa_cons (pv 4) (pa_cons (pv 5) (pa_cons (pv 6) pa_nil))))))))))), ?_⟩
    refine ⟨_, rfl, sa, _, rfl, hsa, rfl, _, _, rfl, _, _, rfl, _, _, rfl, _, _, rfl, rfl, ?_⟩
    refine ⟨fun σ H' => H = H' ∧ σ = [some (.ref p), some (.ref sa), some u, some (.int st.aisle), some (.ref d), some (.ref i), some (.int (max (st.kept - 1) 0)), none, none, none, none], ?_, ?_⟩
    · refine ⟨_, rfl, _, _, rfl, rfl, _, _, rfl, rfl, ?_⟩
      rw [maxI]
      rfl
    rintro σ _ ⟨rfl, rfl⟩
    generalize hk1 : max (st.kept - 1) 0 = k1
    have ret : ∀ (d2 i2 : Addr) (st2 : Sta) (H2 : Hp), Same H H2 → SqT K H2 d2 (st2.done.map V.int) → SqT K H2 i2 (st2.inside.map V.int) → st2 = behindS S st t → ∀ p2, H2 p2 = none → Q (.ref p2) (upd H2 p2 (.tup [.int st2.aisle, .ref d2, .ref i2, .int st2.kept])) := by
      intro d2 i2 st2 H2 s2 h1 h2 e p2 np2
      have z := same_new (o := .tup [.int st2.aisle, .ref d2, .ref i2, .int st2.kept]) np2
      exact q _ _ (s2.trans z) (by rw [← e]; exact at_sta tup_new (Same.t z h1) (Same.t z h2))
    -- what is read off the step
    obtain ⟨w0, c, hc, hw⟩ : ∃ (w0 : Str) (c : Addr), u = .ref c ∧ (∃ r, SqT K H c (.str w0 :: r) ∧ Stp.d t = .tuple (.str w0 :: (match t with | .wait => [] | .shift b => [.int b] | .cin b => [.int b] | .cout b => [.int b] | .wish b => [.int b])) ∧ r = (match t with | .wait => [] | .shift b => [.int b] | .cin b => [.int b] | .cout b => [.int b] | .wish b => [.int b])) := by
      cases t with
      | wait =>
        obtain ⟨c, e, h⟩ := dp_one hu
        exact ⟨_, c, e, _, h, rfl, rfl⟩
      | _ =>
        obtain ⟨c, e, h⟩ := dp_two hu
        exact ⟨_, c, e, _, h, rfl, rfl⟩
    obtain ⟨r, hcT, ed, er⟩ := hw
    subst hc
    refine ⟨fun σ H' => H = H' ∧ σ = [some (.ref p), some (.ref sa), some (.ref c), some (.int st.aisle), some (.ref d), some (.ref i), some (.int k1), some (.str w0), none, none, none], ?_, ?_⟩
    · exact ⟨_, rfl, c, _, 0, .str w0, rfl, rfl, hcT, at_of (j := 0) rfl rfl, rfl, rfl⟩
    rintro σ _ ⟨rfl, rfl⟩
    refine ⟨fun σ H' => ∃ (d2 i2 : Addr) (st2 : Sta) (v8 v9 : Option V), σ = [some (.ref p), some (.ref sa), some (.ref c), some (.int st2.aisle), some (.ref d2), some (.ref i2), some (.int st2.kept), some (.str w0), v8, v9, none] ∧ Same H H' ∧ SqT K H' d2 (st2.done.map V.int) ∧ SqT K H' i2 (st2.inside.map V.int) ∧ st2 = behindS S st t, ?_, ?_⟩
    rotate_left
    · rintro σ H2 ⟨d2, i2, st2, v8, v9, rfl, s2, h1, h2, e⟩
      exact ⟨_, rfl, _, rfl, _, rfl, _, rfl, small (by simp), fun p2 np2 => ret d2 i2 st2 H2 s2 h1 h2 e p2 np2⟩
    cases t with
    | wait =>
      cases ed
      refine ⟨_, rfl, rfl, _, rfl, itF (sne (by decide +kernel)) ⟨_, rfl, rfl, _, rfl, itF (sne (by decide +kernel)) ⟨_, rfl, rfl, _, rfl, itF (sne (by decide +kernel)) ⟨_, rfl, rfl, _, rfl, itF (sne (by decide +kernel)) ?_⟩⟩⟩⟩
      exact ⟨d, i, ⟨st.aisle, st.done, st.inside, k1⟩, none, none, rfl, Same.refl _, hd, hi, by rw [← hk1]; rfl⟩
    | shift b =>
      cases ed
      subst er
      refine ⟨_, rfl, rfl, _, rfl, itD rfl ⟨_, rfl, _, rfl, c, _, 1, .int b, rfl, rfl, hcT, rfl, _, _, rfl, rfl, ?_⟩⟩
      exact ⟨d, i, ⟨st.aisle + b, st.done, st.inside, k1⟩, none, none, rfl, Same.refl _, hd, hi, by rw [← hk1]; rfl⟩
    | cin b =>
      cases ed
      subst er
      refine ⟨_, rfl, rfl, _, rfl, itF (sne (by decide +kernel)) ⟨_, rfl, rfl, _, rfl, itD rfl ?_⟩⟩
      refine ⟨_, rfl, i, _, rfl, .inl hi, _, rfl, c, _, 1, .int b, rfl, rfl, hcT, rfl, small (by simp; omega), fun p1 np1 => ?_⟩
      have z1 := same_new (o := .lst (st.inside.map V.int ++ [.int b])) np1
      refine ⟨p1, st.inside ++ [b], rfl, by rw [List.map_append]; exact lst_new, by simp; omega, fun ns p2 hp hs np2 => ?_⟩
      rw [sortI_of hp hs]
      have z2 := same_new (o := .lst ((sortI (st.inside ++ [b])).map V.int)) np2
      refine ⟨p2, _, rfl, .inl ⟨lst_new, fun p3 np3 => ?_⟩⟩
      have z3 := same_new (o := .tup ((sortI (st.inside ++ [b])).map V.int)) np3
      exact ⟨d, p3, ⟨st.aisle, st.done, sortI (st.inside ++ [b]), k1⟩, none, none, rfl, (z1.trans z2).trans z3, Same.t ((z1.trans z2).trans z3) hd, tup_new, by rw [← hk1]; rfl⟩
    | cout b =>
      cases ed
      subst er
      refine ⟨_, rfl, rfl, _, rfl, itF (sne (by decide +kernel)) ⟨_, rfl, rfl, _, rfl, itF (sne (by decide +kernel)) ⟨_, rfl, rfl, _, rfl, itD rfl ?_⟩⟩⟩
      refine ⟨_, rfl, i, rfl, ⟨_, hi⟩, fun D1 nD1 => ?_⟩
      refine lc_tup (K := K) (a := i) (xs := st.inside.map V.int) (fun j H' => Same H H' ∧ H' D1 = some (.lst (((st.inside.take j).filter fun z => decide (z ≠ b)).map V.int))) ⟨same_new nD1, ?_⟩ (fun j H' _ h => Same.t h.1 hi) ?_ ?_
      · rw [List.take_zero, upd_same]
        rfl
      · rintro j y H' hj ⟨s1, eD⟩
        obtain ⟨z, hzj, rfl⟩ := int_item hj
        have ef := filter_snoc (p := fun z => decide (z ≠ b)) hzj
        rw [ef]
        refine ⟨rfl, _, rfl, _, rfl, c, _, 1, .int b, rfl, rfl, Same.t s1 hcT, rfl, rfl, _, rfl, ?_⟩
        by_cases e2 : z = b
        · rw [decide_eq_false (fun h => h e2), if_neg Bool.false_ne_true, List.append_nil]
          exact iteNS (by rw [e2]) ⟨s1, eD⟩
        · rw [decide_eq_true e2, if_pos rfl]
          refine itnF (ine e2) ⟨_, rfl, _, eD, ?_, ?_, ?_⟩
          · rw [List.length_map]
            refine small1000 (Nat.le_trans (List.length_filter_le _ _) ?_)
            rw [List.length_take]
            omega
          · intro b' o' h
            rw [upd_ne (ne_of_none h nD1)]
            exact s1 b' o' h
          · rw [upd_same, List.map_append]
            rfl
      · rintro H1 ⟨s1, eD⟩
        rw [List.length_map, List.take_length] at eD
        refine ⟨D1, _, rfl, .inl ⟨SqL.of eD, fun p3 np3 => ?_⟩⟩
        have z3 := same_new (o := .tup ((st.inside.filter fun z => decide (z ≠ b)).map V.int)) np3
        exact ⟨d, p3, ⟨st.aisle, st.done, st.inside.filter (fun z => decide (z ≠ b)), k1⟩, none, none, rfl, s1.trans z3, Same.t (s1.trans z3) hd, tup_new, by rw [← hk1]; rfl⟩
    | wish n =>
      cases ed
      subst er
      obtain ⟨x, hx, _⟩ := wish_at_k ht.1 ht.2
      have ek : keepAt S n = x.keep := by
        unfold keepAt
        rw [hx]
      refine ⟨_, rfl, rfl, _, rfl, itF (sne (by decide +kernel)) ⟨_, rfl, rfl, _, rfl, itF (sne (by decide +kernel)) ⟨_, rfl, rfl, _, rfl, itF (sne (by decide +kernel)) ⟨_, rfl, rfl, _, rfl, itD rfl ?_⟩⟩⟩⟩
      refine ⟨_, rfl, p, dx, _, rfl, o.o, fsS_m2, p, S, rfl, ob, fun r2 zs nr2 dzs => ?_⟩
      have s1 := same_new (o := .lst zs) nr2
      obtain ⟨a, t, ha, hT, _⟩ := wish_get (dps_mono s1 dzs) hx
      refine ⟨_, rfl, c, _, 1, .int n, rfl, rfl, Same.t s1 hcT, rfl, r2, zs, n, .ref a, rfl, rfl, lst_new, at_of (j := n.toNat) (by have := ht.1; omega) ha, a, _, rfl, hT, rfl, _, _, rfl, _, _, rfl, _, _, rfl, _, _, rfl, _, _, rfl, _, _, rfl, rfl, ?_⟩
      refine ⟨_, rfl, d, _, rfl, .inl (Same.t s1 hd), _, rfl, c, _, 1, .int n, rfl, rfl, Same.t s1 hcT, rfl, small (by simp; omega), fun p1 np1 => ?_⟩
      have z1 := same_new (o := .lst (st.done.map V.int ++ [.int n])) np1
      refine ⟨p1, st.done ++ [n], rfl, by rw [List.map_append]; exact lst_new, by simp; omega, fun ns p2 hp hs np2 => ?_⟩
      rw [sortI_of hp hs]
      have z2 := same_new (o := .lst ((sortI (st.done ++ [n])).map V.int)) np2
      refine ⟨p2, _, rfl, .inl ⟨lst_new, fun p3 np3 => ?_⟩⟩
      have z3 := same_new (o := .tup ((sortI (st.done ++ [n])).map V.int)) np3
      refine ⟨_, rfl, _, rfl, _, _, rfl, ?_⟩
      have sall := ((s1.trans z1).trans z2).trans z3
      refine ⟨p3, i, ⟨st.aisle, sortI (st.done ++ [n]), st.inside, max k1 x.keep⟩, some (.ref t), some (.int x.keep), by rw [maxI]; rfl, sall, tup_new, Same.t sall hi, by rw [← hk1, ← ek]; rfl⟩
theorem run_len {S : Sto} : ∀ {ts : List Stp} {s : Sta}, (runS S s ts).done.length ≤ s.done.length + ts.length ∧ (runS S s ts).inside.length ≤ s.inside.length + ts.length
  | [], s => ⟨Nat.le_refl _, Nat.le_refl _⟩
  | t :: r, s => by
    have h := run_len (S := S) (ts := r) (s := behindS S s t)
    have e : (behindS S s t).done.length ≤ s.done.length + 1 ∧ (behindS S s t).inside.length ≤ s.inside.length + 1 := by
      cases t with
      | wait => exact ⟨Nat.le_succ _, Nat.le_succ _⟩
      | shift b => exact ⟨Nat.le_succ _, Nat.le_succ _⟩
      | cin c =>
        refine ⟨Nat.le_succ _, ?_⟩
        show (sortI (s.inside ++ [c])).length ≤ _
        rw [(sortI_perm _).length_eq, List.length_append]
        exact Nat.le_refl _
      | cout c => exact ⟨Nat.le_succ _, Nat.le_trans (List.length_filter_le _ _) (Nat.le_succ _)⟩
      | wish n =>
        refine ⟨?_, Nat.le_succ _⟩
        show (sortI (s.done ++ [n])).length ≤ _
        rw [(sortI_perm _).length_eq, List.length_append]
        exact Nat.le_refl _
    show (runS S (behindS S s t) r).done.length ≤ _ ∧ (runS S (behindS S s t) r).inside.length ≤ _
    rw [List.length_cons]
    omega
end

/-- the wish z stands at the shelf k, and is of this kind -/
def isK (S : Sto) (k : Int) (kd : Str) (z : Int) : Bool := match S.wishes[z.toNat]? with
  | some x => decide (x.shelf = k ∧ x.kind = kd)
  | none => false
theorem isK_eq {S : Sto} {k z : Int} {kd : Str} {x : Wish} (hx : S.wishes[z.toNat]? = some x) : isK S k kd z = decide (x.shelf = k ∧ x.kind = kd) := by
  unfold isK
  rw [hx]
theorem delta_eq {S : Sto} {k z : Int} {x : Wish} (hx : S.wishes[z.toNat]? = some x) : delta S k z = if x.shelf = k then (if x.kind = "fetch" then -1 else 1) else 0 := by
  unfold delta
  rw [hx]
theorem nfb : ¬ (("bring" : Str) = "fetch") := by decide +kernel
theorem nbf : ¬ (("fetch" : Str) = "bring") := by decide +kernel
theorem goods_law {S : Sto} {done : List Int} {k : Int} (hz : ∀ z ∈ done, 0 ≤ z ∧ z < S.wishes.length) (ok : StoOk S) :
    goods S done k = hasAt S k - ((done.filter (isK S k "fetch")).length : Int) + ((done.filter (isK S k "bring")).length : Int) := by
  unfold goods
  induction done with
  | nil => simp
  | cons z r ih =>
    have ih' := ih fun y hy => hz y (List.mem_cons_of_mem _ hy)
    obtain ⟨z0, z1⟩ := hz z List.mem_cons_self
    obtain ⟨x, hx, hm⟩ := wish_at_k z0 z1
    rw [List.map_cons, List.sum_cons, delta_eq hx]
    by_cases e1 : x.shelf = k
    · rw [if_pos e1]
      rcases (ok.ws x hm).kind with e2 | e2
      · have p1 : isK S k "fetch" z = true := by
          rw [isK_eq hx]
          exact decide_eq_true ⟨e1, e2⟩
        have p2 : ¬ isK S k "bring" z = true := by
          rw [isK_eq hx, e2]
          exact fun h => nbf (of_decide_eq_true h).2
        rw [if_pos e2, List.filter_cons_of_pos p1, List.filter_cons_of_neg p2, List.length_cons]
        omega
      · have p1 : ¬ isK S k "fetch" z = true := by
          rw [isK_eq hx, e2]
          exact fun h => nfb (of_decide_eq_true h).2
        have p2 : isK S k "bring" z = true := by
          rw [isK_eq hx]
          exact decide_eq_true ⟨e1, e2⟩
        rw [e2, if_neg nfb, List.filter_cons_of_neg p1, List.filter_cons_of_pos p2, List.length_cons]
        omega
    · have p : ∀ kd, ¬ isK S k kd z = true := fun kd => by
        rw [isK_eq hx]
        exact fun h => e1 (of_decide_eq_true h).1
      rw [if_neg e1, List.filter_cons_of_neg (p _), List.filter_cons_of_neg (p _)]
      omega

/-! ## a step that is not barred keeps a state one of the store's form -/
theorem barShift_none {S : Sto} {s : Sta} {b : Int} (h : barShift S s b = none) : 0 ≤ (if b = 1 then s.aisle else s.aisle - 1) ∧ (if b = 1 then s.aisle else s.aisle - 1) < S.shelves.length ∧
    (∃ x, S.shelves[(if b = 1 then s.aisle else s.aisle - 1).toNat]? = some x ∧ ¬ x.sticks = 1) ∧ s.inside = [] ∧ s.kept ≤ 0 := by
  unfold barShift at h
  dsimp only at h
  generalize (if b = 1 then s.aisle else s.aisle - 1) = sh at h ⊢
  by_cases e : 0 ≤ sh ∧ sh < S.shelves.length
  · rw [if_pos e] at h
    obtain ⟨x, hx, _⟩ := shelf_at_k e.1 e.2
    rw [hx] at h
    dsimp only at h
    by_cases e2 : x.sticks = 1
    · rw [if_pos e2] at h
      cases h
    · rw [if_neg e2] at h
      refine ⟨e.1, e.2, ⟨x, hx, e2⟩, ?_⟩
      cases e3 : s.inside with
      | cons c r =>
        rw [e3] at h
        cases h
      | nil =>
        rw [e3] at h
        dsimp only at h
        by_cases e4 : s.kept > 0
        · rw [if_pos e4] at h
          cases h
        · exact ⟨rfl, by omega⟩
  · rw [if_neg e] at h
    cases h
theorem barLoad_none {S : Sto} {done : List Int} {kind : Str} {k : Int} (h : barLoad S done kind k = none) : (kind = "fetch" → ¬ goods S done k = 0) ∧ (kind = "bring" → ¬ goods S done k = roomAt S k) := by
  unfold barLoad at h
  constructor
  · intro e z
    rw [if_pos ⟨e, z⟩] at h
    cases h
  · intro e z
    rw [if_neg (fun y => nfb (e.symm.trans y.1)), if_pos ⟨e, z⟩] at h
    cases h
theorem sum_perm {l m : List Int} (h : l.Perm m) : l.sum = m.sum := by
  induction h with
  | nil => rfl
  | cons x _ ih => rw [List.sum_cons, List.sum_cons, ih]
  | swap x y l =>
    rw [List.sum_cons, List.sum_cons, List.sum_cons, List.sum_cons]
    omega
  | trans _ _ a b => exact a.trans b
theorem goods_perm {S : Sto} {l m : List Int} {k : Int} (h : l.Perm m) : goods S l k = goods S m k := by
  unfold goods
  rw [sum_perm (h.map _)]
theorem goods_snoc {S : Sto} {l : List Int} {n k : Int} : goods S (l ++ [n]) k = goods S l k + delta S k n := by
  unfold goods
  rw [List.map_append, List.sum_append]
  simp only [List.map_cons, List.map_nil, List.sum_cons, List.sum_nil]
  omega
theorem goods_step {S : Sto} {l : List Int} {n k : Int} : goods S (sortI (l ++ [n])) k = goods S l k + delta S k n := by
  rw [goods_perm (sortI_perm _), goods_snoc]
theorem StaOk.step {S : Sto} {s : Sta} {t : Stp} (ok : StoOk S) (h : StaOk S s) (ht : StpOk S.wishes.length t) (hb : bar S s t = none) : StaOk S (behindS S s t) := by
  have hk : 0 ≤ max (s.kept - 1) 0 ∧ max (s.kept - 1) 0 ≤ 3 := by
    have := h.k0
    have := h.k3
    omega
  have ha0 := h.a0
  have ha1 := h.a1
  cases t with
  | wait => exact ⟨h.a0, h.a1, h.done, h.inside, hk.1, hk.2, h.has⟩
  | shift b =>
    obtain ⟨c1, c2, _, _, _⟩ := barShift_none hb
    refine ⟨?_, ?_, h.done, h.inside, hk.1, hk.2, h.has⟩
    · show 0 ≤ s.aisle + b
      rcases ht with rfl | rfl
      · rw [if_neg (by decide)] at c1
        omega
      · omega
    · show s.aisle + b ≤ _
      rcases ht with rfl | rfl
      · omega
      · rw [if_pos rfl] at c2
        omega
  | cin c =>
    have e : c ∉ s.inside := fun z => by
      have hb' : (if c ∈ s.inside then some (("is" : Str), c) else none) = none := hb
      rw [if_pos z] at hb'
      cases hb'
    refine ⟨h.a0, h.a1, h.done, ?_, hk.1, hk.2, h.has⟩
    show InsideOk (sortI (s.inside ++ [c]))
    rcases h.inside with i | i | i | i <;> rw [i] at e ⊢ <;> rcases ht with rfl | rfl
    · exact .inr (.inl rfl)
    · exact .inr (.inr (.inl rfl))
    · exact absurd (by simp) e
    · exact .inr (.inr (.inr rfl))
    · exact .inr (.inr (.inr rfl))
    · exact absurd (by simp) e
    · exact absurd (by simp) e
    · exact absurd (by simp) e
  | cout c =>
    refine ⟨h.a0, h.a1, h.done, ?_, hk.1, hk.2, h.has⟩
    show InsideOk (s.inside.filter fun z => decide (z ≠ c))
    rcases h.inside with i | i | i | i <;> rw [i] <;> rcases ht with rfl | rfl
    · exact .inl rfl
    · exact .inl rfl
    · exact .inl rfl
    · exact .inr (.inl rfl)
    · exact .inr (.inr (.inl rfl))
    · exact .inl rfl
    · exact .inr (.inr (.inl rfl))
    · exact .inr (.inl rfl)
  | wish n =>
    obtain ⟨x, hx, hm⟩ := wish_at_k ht.1 ht.2
    have okx := ok.ws x hm
    obtain ⟨e1, e2, e3, e4, e5⟩ := barWish_none hx hb
    obtain ⟨f1, f2⟩ := barLoad_none e5
    have ek : keepAt S n = x.keep := by
      unfold keepAt
      rw [hx]
    have k0 := okx.k0
    have k3 := okx.k3
    refine ⟨h.a0, h.a1, ?_, h.inside, ?_, ?_, fun k h0 h1 => ?_⟩
    · show Rising 0 _ (sortI (s.done ++ [n]))
      rw [sort_ins h.done]
      exact h.done.ins e1 ht.1 ht.2
    · show 0 ≤ max (max (s.kept - 1) 0) (keepAt S n)
      omega
    · show max (max (s.kept - 1) 0) (keepAt S n) ≤ 3
      omega
    · show 0 ≤ goods S (sortI (s.done ++ [n])) k ∧ goods S (sortI (s.done ++ [n])) k ≤ roomAt S k
      obtain ⟨g0, g1⟩ := h.has k h0 h1
      rw [goods_step, delta_eq hx]
      by_cases e : x.shelf = k
      · rw [if_pos e]
        rw [e] at f1 f2
        by_cases ef : x.kind = "fetch"
        · rw [if_pos ef]
          have := f1 ef
          omega
        · rw [if_neg ef]
          have := f2 (okx.kind.resolve_left ef)
          omega
      · rw [if_neg e]
        omega
theorem sta0_ok {S : Sto} (ok : StoOk S) : StaOk S (sta0 S) := by
  refine ⟨ok.a0, ok.a1, trivial, .inl rfl, Int.le_refl _, by show (0 : Int) ≤ 3; decide, fun k h0 h1 => ?_⟩
  obtain ⟨sh, hsh, hm, eh, er⟩ := shelf_at_k h0 h1
  have oks := ok.sh sh hm
  show 0 ≤ goods S [] k ∧ goods S [] k ≤ _
  have e : goods S [] k = hasAt S k := by
    unfold goods
    rw [List.map_nil, List.sum_nil, Int.add_zero]
  rw [e, eh, er]
  exact ⟨oks.h0, oks.h1⟩

/-! ### min of a tuple of ints -/
section
variable {prog : Program} {w : World} {A : Around} {E : Value → Shared → Prop} {s : Shared}
theorem least_of_tuple {t : Addr} {us : List Value} {zs : List Int} {R : Value → Shared → Prop} (calm : A.handled = none) (tt : s.heap.IsTuple t us.toArray) (zi : IntsAre us zs) (zl : 0 < zs.length)
    (fin : ∀ g k z v, (∀ c o, s.heap.get? c = some o → g.get? c = some o) → z ∈ zs → (∀ y, y ∈ zs → z ≤ y) → R (.int z v) { s with heap := g, toks := k }) : wpAny (model prog w) A (call (.builtin "min") [.ref t]) R E s := by
  obtain ⟨ps, ep⟩ := zi.allInts.items
  have en : numsOf (intItems ps).toList = zs := by
    rw [← ep]
    exact zi.numsOf
  rw [nums_intItems] at en
  subst en
  rw [ep] at tt
  have sz : (intItems ps).size = ps.size := by simp [intItems]
  have tl : t < s.heap.objs.size := by
    obtain ⟨_, q, _⟩ := tt
    exact Heap.lt_size q
  refine call_min_walk (wpAny_pyIter_tuple tt ?_)
  refine ⟨s.heap.objs.size, [s.heap.objs.size, t], [s.heap.objs.size], _, _, _, _, rfl, Walks.tuple (A := A.in1) calm _ t (Nat.ne_of_lt tl) (intItems ps), ⟨⟨_, Heap.get?_push_size _ rfl, rfl, rfl⟩, tt.push _⟩, ?_, ?_, CmpOf.ints_lt (numAt ps) (fun _ _ => intItems_at), ?_⟩
  · intro c hc
    show c < (s.heap.push _).objs.size
    rw [Heap.size_push]
    simp only [List.mem_cons, List.not_mem_nil, or_false] at hc
    rcases hc with e | e
    · rw [e]
      exact Nat.lt_succ_self _
    · rw [e]
      exact Nat.lt_succ_of_lt tl
  · rw [sz]
    simpa using zl
  · intro v g k hv hk
    obtain ⟨u, rfl⟩ := intItems_at hv
    obtain ⟨b1, b2⟩ := argBest_lt (numAt ps) ((intItems ps).size - 1)
    rw [List.length_map, Array.length_toList] at zl
    refine fin g k _ u (fun c o q => hk c o ?_ (Heap.get?_push_of_some _ q)) ?_ ?_
    · intro m
      rw [List.mem_singleton] at m
      have lt := Heap.lt_size q
      rw [m] at lt
      exact Nat.lt_irrefl _ lt
    · rw [numAt_eq]
      refine PySem.getD_mem ?_
      rw [List.length_map, Array.length_toList]
      omega
    · intro y hy
      obtain ⟨j, lj, rfl⟩ := mem_getD hy
      rw [List.length_map, Array.length_toList] at lj
      rw [← numAt_eq]
      exact b2 j (by omega)
end
def rMinT (K : PySem.W.Frag) : List V → Hp → VK → Prop := fun us H Q => ∃ (a : Addr) (zs : List Int), us = [V.ref a] ∧ SqT K H a (zs.map V.int) ∧ 0 < zs.length ∧ ∀ z, z ∈ zs → (∀ y, y ∈ zs → z ≤ y) → Q (.int z) H
theorem kminT {X : Cx} {K : PySem.W.Frag} (calm : X.calm = true) (eK : X.K = K := by rfl) : CallR X (.builtin "min") (rMinT K) := by
  subst eK
  intro pins s σ H us vs Q I r hh
  obtain ⟨a, zs, rfl, ht, hl, q⟩ := hh
  obtain ⟨its, rv, it, _⟩ := I.tuple ht
  rw [Vals.ref1 r]
  exact least_of_tuple (I.ok.hd calm) it rv.ints hl fun g k z v old h1 h2 => ⟨.int z, H, I.kept old, ⟨_, rfl⟩, q z h1 h2⟩

/-! ## what the law says of steps -/
section
variable {P : Program} {w : World} {K : PySem.W.Frag} {mg : Str → Option Value} {base : Heap}
def spGoods (K : PySem.W.Frag) : Sp := fun vs H Q _ => ∃ (v : V) (k : Int) (d : Addr) (S : Sto) (done : List Int), vs = [v, .int k, .ref d] ∧ Dp K H v S.d ∧ StoOk S ∧ SqT K H d (done.map V.int) ∧ 0 ≤ k ∧ k < S.shelves.length ∧ (∀ z ∈ done, 0 ≤ z ∧ z < S.wishes.length) ∧ done.length ≤ 900 ∧
  ∀ H', Same H H' → Q (.int (goods S done k)) H'
/-! _law_goods: 0 _law_store_here, 1 _law_shelf, 2 _law_done, 3 _law_fetched, 4 _law_brought, 5 _law_k -/
abbrev s__law_goods : Stmt := topS 42
abbrev N__law_goods : List Str := ["_law_store_here", "_law_shelf", "_law_done", "_law_fetched", "_law_brought", "_law_k"]
theorem sc__law_goods : FnScope N__law_goods ["_law_store_here", "_law_shelf", "_law_done"] (defScope s__law_goods) := ⟨rfl, rfl, rfl, by decide +kernel, rfl, by decide +kernel, by decide +kernel⟩
theorem ok__law_goods {f : Addr} {fd : FuncData} (D : Dfs K mg "_law_goods" s__law_goods ["_law_store_here", "_law_shelf", "_law_done"] f fd) (T : Tx K mg) : Cal P w K mg base 1 "_law_goods" ["_law_store_here", "_law_shelf", "_law_done"] (spGoods K) f fd := by
  refine D.cal (D.F.ok sc__law_goods (fun vs H Q E h => ?_) (fun cdv A outer s H vs Q E hr h => ?_))
  · obtain ⟨v, k, d, S, done, rfl, _⟩ := h
    rfl
  · obtain ⟨v, k, d, S, done, rfl, hv, ok, hd, k0, k1, hz, hl, q⟩ := h
    obtain ⟨a, l, m, xs, ys, rfl, st⟩ := sto_at hv
    obtain ⟨sh, hsh, _, ehas, _⟩ := shelf_at_k k0 k1
    refine ⟨_, (pss_cons (ps_setLc (i := 3) (own := [("_law_k", 5)]) (g := gName 5) rfl sc__law_goods.nd rfl rfl (sw_true rfl rfl rfl (by decide +kernel)) (pi_tup (pv 2)) (blkOk_by (own := [("_law_k", 5)]) (N := N__law_goods) (sc := defScope s__law_goods) (by decide +kernel)) (fun _ _ _ _ _ => (pg_name (i := 5) sc__law_goods.nd rfl (Or.inl rfl))) (fun _ _ _ _ _ => (pts_one (PW.pt (pw_and (pt_cmpR op_eq (pe_ix (kix_tup (K := K)) (pe_ix (kix_list (K := K)) (pe_ix (kix_tup (K := K)) (pv 0) pe_int (fun _ _ => rfl)) (pv 5) (fun _ _ => rfl)) pe_int (fun _ _ => rfl)) (pv 1) (nomark _)) (pw_and1 (pt_cmpR op_eq (pe_ix (kix_tup (K := K)) (pe_ix (kix_list (K := K)) (pe_ix (kix_tup (K := K)) (pv 0) pe_int (fun _ _ => rfl)) (pv 5) (fun _ _ => rfl)) pe_int (fun _ _ => rfl)) pe_str (nomark _))))))) (fun _ _ _ _ _ => (pv 5)))
      (pss_cons (ps_setLc (i := 4) (own := [("_law_k", 5)]) (g := gName 5) rfl sc__law_goods.nd rfl rfl (sw_true rfl rfl rfl (by decide +kernel)) (pi_tup (pv 2)) (blkOk_by (own := [("_law_k", 5)]) (N := N__law_goods) (sc := defScope s__law_goods) (by decide +kernel)) (fun _ _ _ _ _ => (pg_name (i := 5) sc__law_goods.nd rfl (Or.inl rfl))) (fun _ _ _ _ _ => (pts_one (PW.pt (pw_and (pt_cmpR op_eq (pe_ix (kix_tup (K := K)) (pe_ix (kix_list (K := K)) (pe_ix (kix_tup (K := K)) (pv 0) pe_int (fun _ _ => rfl)) (pv 5) (fun _ _ => rfl)) pe_int (fun _ _ => rfl)) (pv 1) (nomark _)) (pw_and1 (pt_cmpR op_eq (pe_ix (kix_tup (K := K)) (pe_ix (kix_list (K := K)) (pe_ix (kix_tup (K := K)) (pv 0) pe_int (fun _ _ => rfl)) (pv 5) (fun _ _ => rfl)) pe_int (fun _ _ => rfl)) pe_str (nomark _))))))) (fun _ _ _ _ _ => (pv 5)))
      (pss_one (ps_ret (pe_op op_add (pe_op op_sub (pe_ix (kix_tup (K := K)) (pe_ix (kix_list (K := K)) (pe_ix (kix_tup (K := K)) (pv 0) pe_int (fun _ _ => rfl)) (pv 1) (fun _ _ => rfl)) pe_int (fun _ _ => rfl)) (pe_callB (klen (K := K)) (by rfl) T.n_len (by decide +kernel) (pa_cons (pv 3) pa_nil))) (pe_callB (klen (K := K)) (by rfl) T.n_len (by decide +kernel) (pa_cons (pv 4) pa_nil))))))), ?_⟩
    refine ⟨_, rfl, d, rfl, ⟨_, hd⟩, fun D1 nD1 => ?_⟩
    refine lc_tup (K := K) (a := d) (xs := done.map V.int) (fun i H' => Same H H' ∧ H' D1 = some (.lst (((done.take i).filter (isK S k "fetch")).map V.int))) ⟨same_new nD1, ?_⟩ (fun i H' _ h => Same.t h.1 hd) ?_ ?_
    · rw [List.take_zero, upd_same]
      rfl
    · rintro i y H' hy ⟨s1, e1⟩
      obtain ⟨z, hzi, rfl⟩ := int_item hy
      obtain ⟨z0, z1⟩ := hz z (List.mem_of_getElem? hzi)
      obtain ⟨x, hx, hm⟩ := wish_at_k z0 z1
      have st1 := st.mono s1
      obtain ⟨b, t, hb, hbT, _⟩ := wish_get st1.dy hx
      have ef := filter_snoc (p := isK S k "fetch") hzi
      rw [isK_eq hx] at ef
      rw [ef]
      have hsz : (((done.take i).filter (isK S k "fetch")).map V.int).length < sizeLine := by
        rw [List.length_map]
        refine small1000 (Nat.le_trans (List.length_filter_le _ _) ?_)
        rw [List.length_take]
        omega
      refine ⟨rfl, ?_⟩
      refine ⟨_, rfl, a, _, 2, .ref m, rfl, rfl, st1.t, rfl, _, rfl, m, ys, z, .ref b, rfl, rfl, st1.m, at_of (j := z.toNat) (by omega) hb, b, _, 1, .int x.shelf, rfl, rfl, hbT, rfl, _, rfl, rfl, _, rfl, ?_⟩
      by_cases g1 : x.shelf = k
      · refine itD (by rw [g1]) ⟨_, rfl, a, _, 2, .ref m, rfl, rfl, st1.t, rfl, _, rfl, m, ys, z, .ref b, rfl, rfl, st1.m, at_of (j := z.toNat) (by omega) hb, b, _, 0, .str x.kind, rfl, rfl, hbT, rfl, rfl, _, rfl, ?_⟩
        by_cases g2 : x.kind = "fetch"
        · rw [decide_eq_true ⟨g1, g2⟩]
          refine itD (by rw [g2]) ⟨_, rfl, _, e1, hsz, fun b o h => ?_, ?_⟩
          · rw [upd_ne (ne_of_none h nD1)]
            exact s1 b o h
          · rw [upd_same, List.map_append]
            rfl
        · rw [decide_eq_false (fun h => g2 h.2)]
          refine itF (sne g2) ⟨s1, ?_⟩
          rw [if_neg Bool.false_ne_true, List.append_nil]
          exact e1
      · rw [decide_eq_false (fun h => g1 h.1)]
        refine itF (ine g1) (iteF ⟨s1, ?_⟩)
        rw [if_neg Bool.false_ne_true, List.append_nil]
        exact e1
    · rintro H1 ⟨s1, e1⟩
      rw [List.length_map, List.take_length] at e1
      refine ⟨_, rfl, d, rfl, ⟨_, Same.t s1 hd⟩, fun D2 nD2 => ?_⟩
      refine lc_tup (K := K) (a := d) (xs := done.map V.int) (fun i H' => Same H1 H' ∧ H' D2 = some (.lst (((done.take i).filter (isK S k "bring")).map V.int))) ⟨same_new nD2, ?_⟩ (fun i H' _ h => Same.t (s1.trans h.1) hd) ?_ ?_
      · rw [List.take_zero, upd_same]
        rfl
      · rintro i y H' hy ⟨s2, e2⟩
        obtain ⟨z, hzi, rfl⟩ := int_item hy
        obtain ⟨z0, z1⟩ := hz z (List.mem_of_getElem? hzi)
        obtain ⟨x, hx, hm⟩ := wish_at_k z0 z1
        have st1 := st.mono (s1.trans s2)
        obtain ⟨b, t, hb, hbT, _⟩ := wish_get st1.dy hx
        have ef := filter_snoc (p := isK S k "bring") hzi
        rw [isK_eq hx] at ef
        rw [ef]
        have hsz : (((done.take i).filter (isK S k "bring")).map V.int).length < sizeLine := by
          rw [List.length_map]
          refine small1000 (Nat.le_trans (List.length_filter_le _ _) ?_)
          rw [List.length_take]
          omega
        refine ⟨rfl, ?_⟩
        refine ⟨_, rfl, a, _, 2, .ref m, rfl, rfl, st1.t, rfl, _, rfl, m, ys, z, .ref b, rfl, rfl, st1.m, at_of (j := z.toNat) (by omega) hb, b, _, 1, .int x.shelf, rfl, rfl, hbT, rfl, _, rfl, rfl, _, rfl, ?_⟩
        by_cases g1 : x.shelf = k
        · refine itD (by rw [g1]) ⟨_, rfl, a, _, 2, .ref m, rfl, rfl, st1.t, rfl, _, rfl, m, ys, z, .ref b, rfl, rfl, st1.m, at_of (j := z.toNat) (by omega) hb, b, _, 0, .str x.kind, rfl, rfl, hbT, rfl, rfl, _, rfl, ?_⟩
          by_cases g2 : x.kind = "bring"
          · rw [decide_eq_true ⟨g1, g2⟩]
            refine itD (by rw [g2]) ⟨_, rfl, _, e2, hsz, fun b o h => ?_, ?_⟩
            · rw [upd_ne (ne_of_none h nD2)]
              exact s2 b o h
            · rw [upd_same, List.map_append]
              rfl
          · rw [decide_eq_false (fun h => g2 h.2)]
            refine itF (sne g2) ⟨s2, ?_⟩
            rw [if_neg Bool.false_ne_true, List.append_nil]
            exact e2
        · rw [decide_eq_false (fun h => g1 h.1)]
          refine itF (ine g1) (iteF ⟨s2, ?_⟩)
          rw [if_neg Bool.false_ne_true, List.append_nil]
          exact e2
      · rintro H2 ⟨s2, e2⟩
        rw [List.length_map, List.take_length] at e2
        have s12 := s1.trans s2
        have st2 := st.mono s12
        obtain ⟨b, hb, hbT⟩ := shelf_get st2.dx hsh
        refine ⟨_, rfl, a, _, 0, .ref l, rfl, rfl, st2.t, rfl, _, rfl, l, xs, k, .ref b, rfl, rfl, st2.l, at_of (j := k.toNat) (by omega) hb, b, _, 1, .int sh.has, rfl, rfl, hbT, rfl, _, rfl, D1, _, rfl, .inl (SqL.of (s2 _ _ e1)), _, _, rfl, rfl, _, rfl, D2, _, rfl, .inl (SqL.of e2), _, _, rfl, rfl, ?_⟩
        have eg := goods_law (k := k) hz ok
        rw [ehas] at eg
        rw [List.length_map, List.length_map]
        show Q (.int (sh.has - _ + _)) H2
        rw [← eg]
        exact q H2 s12
end

theorem eqv_nilT (l : List Int) : PyData.eqv (.tuple (dints l)) (.tuple []) = l.isEmpty := by
  cases l with
  | nil => rfl
  | cons i r => rfl
theorem eqv_nilL (l : List Int) : PyData.eqv (.list (dints l)) (.list []) = l.isEmpty := by
  cases l with
  | nil => rfl
  | cons i r => rfl
theorem lay_nilT : Lay 1 (.tuple []) := Lays.tup lays_nil
theorem lay_nilL : Lay 1 (.list []) := Lays.lst lays_nil
theorem n_rl : ¬ (("right" : Str) = "left") := by decide +kernel
theorem n_al : ¬ (("any" : Str) = "left") := by decide +kernel
theorem n_ar : ¬ (("any" : Str) = "right") := by decide +kernel
theorem key_ne {a b : Str} (h : ¬ a = b) : ¬ ((Sum.inr a : L2.Key) = Sum.inr b) := fun z => h (Sum.inr.inj z)
theorem get3 {x y z : V} (j : L2.Key) : valV (mergeK [] [(Sum.inr ("left" : Str), x), (Sum.inr ("right" : Str), y), (Sum.inr ("any" : Str), z)]) j =
    if j = Sum.inr ("any" : Str) then some z else if j = Sum.inr ("right" : Str) then some y else if j = Sum.inr ("left" : Str) then some x else none := by
  show valV (putK (putK (putK [] (Sum.inr ("left" : Str)) x) (Sum.inr ("right" : Str)) y) (Sum.inr ("any" : Str)) z) j = _
  rw [valV_put, valV_put, valV_put, valV_nil]

section
variable {P : Program} {w : World} {K : PySem.W.Frag} {mg : Str → Option Value} {base : Heap}
def spLawBarWish (K : PySem.W.Frag) : Sp := fun vs H Q _ => ∃ (v u : V) (n : Int) (S : Sto) (s : Sta), vs = [v, u, .int n] ∧ Dp K H v S.d ∧ Dp K H u s.d ∧ StoOk S ∧ StaOk S s ∧ 0 ≤ n ∧ n < S.wishes.length ∧ Ret K H Q (dbar (barWish S s n))
/-! _law_bar_of_wish: 0 _law_store_here, 1 _law_state, 2 _law_number, 3 _law_aisle, 4 _law_done, 5 _law_inside, 6 _law_kept, 7 _law_kind, 8 _law_shelf, 9 _law_side, 10 _law_crew, 11 _law_keep, 12 _law_after, 13 _law_left, 14 _law_beside, 15 _law_goods_here, 16 _law_one -/
abbrev s__law_bar_of_wish : Stmt := topS 44
abbrev N__law_bar_of_wish : List Str := ["_law_store_here", "_law_state", "_law_number", "_law_aisle", "_law_done", "_law_inside", "_law_kept", "_law_kind", "_law_shelf", "_law_side", "_law_crew", "_law_keep", "_law_after", "_law_left", "_law_beside", "_law_goods_here", "_law_one"]
theorem sc__law_bar_of_wish : FnScope N__law_bar_of_wish ["_law_store_here", "_law_state", "_law_number"] (defScope s__law_bar_of_wish) := ⟨rfl, rfl, rfl, by decide +kernel, rfl, by decide +kernel, by decide +kernel⟩
theorem ok__law_bar_of_wish {f f1 : Addr} {fd fd1 : FuncData} (D : Dfs K mg "_law_bar_of_wish" s__law_bar_of_wish ["_law_store_here", "_law_state", "_law_number"] f fd) (T : Tx K mg) (C__law_goods : Cal P w K mg base 1 "_law_goods" ["_law_store_here", "_law_shelf", "_law_done"] (spGoods K) f1 fd1) :
    Cal P w K mg base 2 "_law_bar_of_wish" ["_law_store_here", "_law_state", "_law_number"] (spLawBarWish K) f fd := by
  refine D.cal (D.F.ok sc__law_bar_of_wish (fun vs H Q E h => ?_) (fun cdv A outer s H vs Q E hr h => ?_))
  · obtain ⟨v, u, n, S, s, rfl, _⟩ := h
    rfl
  · obtain ⟨v, u, n, S, st, rfl, hv, hu, ok, sk, n0, n1, q⟩ := h
    obtain ⟨a, l, m, xs, ys, rfl, so⟩ := sto_at hv
    obtain ⟨sa, d, i, rfl, hsa, hd, hi⟩ := sta_at hu
    obtain ⟨x, hx, hmem⟩ := wish_at_k n0 n1
    have okx := ok.ws x hmem
    obtain ⟨b, t, hb, hbT, ht⟩ := wish_get so.dy hx
    unfold barWish at q
    rw [hx] at q
    dsimp only at q
    refine ⟨_, (pss_cons (ps_asg (pv 1) (pg_tup (by rfl) (pgs_cons (pg_name (i := 3) sc__law_bar_of_wish.nd rfl (Or.inl rfl)) (pgs_cons (pg_name (i := 4) sc__law_bar_of_wish.nd rfl (Or.inr rfl)) (pgs_cons (pg_name (i := 5) sc__law_bar_of_wish.nd rfl (Or.inl rfl)) (pgs_cons (pg_name (i := 6) sc__law_bar_of_wish.nd rfl (Or.inl rfl)) pgs_nil))))))
      (C8.pss_cut (ps_asg (pe_ix (kix_list (K := K)) (pe_ix (kix_tup (K := K)) (pv 0) pe_int (fun _ _ => rfl)) (pv 2) (fun _ _ => rfl)) (pg_tup (by rfl) (pgs_cons (pg_name (i := 7) sc__law_bar_of_wish.nd rfl (Or.inl rfl)) (pgs_cons (pg_name (i := 8) sc__law_bar_of_wish.nd rfl (Or.inl rfl)) (pgs_cons (pg_name (i := 9) sc__law_bar_of_wish.nd rfl (Or.inl rfl)) (pgs_cons (pg_name (i := 10) sc__law_bar_of_wish.nd rfl (Or.inl rfl)) (pgs_cons (pg_name (i := 11) sc__law_bar_of_wish.nd rfl (Or.inl rfl)) (pgs_cons (pg_name (i := 12) sc__law_bar_of_wish.nd rfl (Or.inl rfl)) pgs_nil))))))))
      (pss_cons (ps_if (pt_cmpR (kin_seq (K := K)) (pv 2) (pv 4) (by rfl)) (pss_one (ps_ret (pe_tup (pa_cons pe_str (pa_cons (pv 2) pa_nil))))) pss_nil)
      (C8.pss_cut (ps_setLc (i := 13) (own := [("_law_one", 16)]) (g := gName 16) rfl sc__law_bar_of_wish.nd rfl rfl (sw_true rfl rfl rfl (by decide +kernel)) (pi_tup (pv 12)) (blkOk_by (own := [("_law_one", 16)]) (N := N__law_bar_of_wish) (sc := defScope s__law_bar_of_wish) (by decide +kernel)) (fun _ _ _ _ _ => (pg_name (i := 16) sc__law_bar_of_wish.nd rfl (Or.inl rfl))) (fun _ _ _ _ _ => (pts_one (pt_cmpR (knotIn_seq (K := K)) (pv 16) (pv 4) (by rfl)))) (fun _ _ _ _ _ => (pv 16)))
      (pss_cons (ps_if (pt_cmpR (kneD (K := K) hr.units) (pv 13) (pe_lst pa_nil) (nomark _)) (pss_one (ps_ret (pe_tup (pa_cons pe_str (pa_cons (pe_ix (kix_list (K := K)) (pv 13) pe_int (fun _ _ => rfl)) pa_nil))))) pss_nil)
      (pss_cons (ps_if (pt_cmpR (knotIn_seq (K := K)) (pv 10) (pv 5) (by rfl)) (pss_one (ps_ret (pe_tup (pa_cons pe_str (pa_cons (pv 10) pa_nil))))) pss_nil)
      (C8.pss_cut (ps_set (i := 14) sc__law_bar_of_wish.nd rfl (Or.inl rfl) (pe_dget (hu_of hr) (pe_disp (pps_cons pe_str (pe_lst (pa_cons (pv 8) pa_nil)) (pps_cons pe_str (pe_lst (pa_cons (pe_op op_add (pv 8) pe_int) pa_nil)) (pps_cons pe_str (pe_lst (pa_cons (pv 8) (pa_cons (pe_op op_add (pv 8) pe_int) pa_nil))) pps_nil))) (by rfl) (by rfl) (fun z => by cases z) (by decide)) (pv 9) (fun _ _ => rfl)))
      (pss_cons (ps_if (pt_cmpR (knotIn_seq (K := K)) (pv 3) (pv 14) (by rfl)) (pss_one (ps_ret (pe_tup (pa_cons pe_str (pa_cons (pv 3) pa_nil))))) pss_nil)
      (pss_cons (ps_set (i := 15) sc__law_bar_of_wish.nd rfl (Or.inl rfl) (pe_call C__law_goods.G (hr.mono (by decide)) (by rfl) C__law_goods.g C__law_goods.kp C__law_goods.b .nil pass0 (pa_cons (pv 0) (pa_cons (pv 8) (pa_cons (pv 4) pa_nil)))))
      (pss_cons (ps_if (pt_cmpR op_eq (pv 7) pe_str (nomark _)) (pss_one (ps_ret (pe_ifExp (pt_cmpR op_le (pv 15) pe_int (nomark _)) (pe_tup (pa_cons pe_str (pa_cons (pv 8) pa_nil))) pe_non))) pss_nil)
      (pss_one (ps_ret (pe_ifExp (pt_cmpR op_ge (pv 15) (pe_ix (kix_tup (K := K)) (pe_ix (kix_list (K := K)) (pe_ix (kix_tup (K := K)) (pv 0) pe_int (fun _ _ => rfl)) (pv 8) (fun _ _ => rfl)) pe_int (fun _ _ => rfl)) (nomark _)) (pe_tup (pa_cons pe_str (pa_cons (pv 8) pa_nil))) pe_non))))))))))))), ?_⟩
    refine ⟨_, rfl, sa, _, rfl, hsa, rfl, _, _, rfl, _, _, rfl, _, _, rfl, _, _, rfl, rfl, ?_⟩
    refine ⟨fun σ H' => H = H' ∧ σ = [some (.ref a), some (.ref sa), some (.int n), some (.int st.aisle), some (.ref d), some (.ref i), some (.int st.kept), some (.str x.kind), some (.int x.shelf), some (.str x.side), some (.int x.crew), some (.int x.keep), some (.ref t), none, none, none, none], ?_, ?_⟩
    · exact ⟨_, rfl, a, _, 2, .ref m, rfl, rfl, so.t, rfl, _, rfl, m, ys, n, .ref b, rfl, rfl, so.m, at_of (j := n.toNat) (by omega) hb, b, _, rfl, hbT, rfl, _, _, rfl, _, _, rfl, _, _, rfl, _, _, rfl, _, _, rfl, _, _, rfl, rfl, rfl, rfl⟩
    rintro σ _ ⟨rfl, rfl⟩
    refine ⟨_, rfl, _, rfl, d, _, rfl, .inr hd, rfl, flat_ints _, _, rfl, ?_⟩
    by_cases e1 : n ∈ st.done
    · rw [if_pos e1] at q
      exact in_y e1 ⟨_, rfl, small (by simp), fun pt npt => q _ _ (same_new npt) two_new⟩
    rw [if_neg e1] at q
    refine in_n e1 ?_
    -- left = [one for one in after if one not in done]
    have hal : x.after.length ≤ 5 := by
      have := okx.after.len
      have := ok.w5
      omega
    refine ⟨fun σ H' => ∃ D1 : Addr, Same H H' ∧ H' D1 = some (.lst ((x.after.filter fun z => decide (z ∉ st.done)).map V.int)) ∧ σ = [some (.ref a), some (.ref sa), some (.int n), some (.int st.aisle), some (.ref d), some (.ref i), some (.int st.kept), some (.str x.kind), some (.int x.shelf), some (.str x.side), some (.int x.crew), some (.int x.keep), some (.ref t), some (.ref D1), none, none, none], ?_, ?_⟩
    rotate_left
    · rintro σ H1 ⟨D1, s1, eD, rfl⟩
      have ehead : x.after.find? (fun z => decide (z ∉ st.done)) = (x.after.filter fun z => decide (z ∉ st.done)).head? := List.head?_filter.symm
      rw [ehead] at q
      generalize x.after.filter (fun z => decide (z ∉ st.done)) = left at eD q
      -- if left != []
      refine ⟨_, rfl, small (by simp), fun p0 np0 => ?_⟩
      have s2 := same_new (o := .lst []) np0
      refine ⟨.list (dints left), .list [], .lst (SqL.of (s2 _ _ eD)) (ints_dps _), .lst lst_new .nil, (Lays.lst (n := 1) (lays_ints _)).shaped, lay_nilL.shaped, _, rfl, ?_⟩
      have s12 := s1.trans s2
      have eD2 := s2 _ _ eD
      generalize upd H1 p0 (.lst []) = H2 at s12 eD2
      rw [eqv_nilL]
      cases left with
      | cons z r =>
        dsimp only [List.head?_cons] at q
        refine itnBf rfl ⟨_, rfl, D1, _, 0, .int z, rfl, rfl, SqL.of eD2, at_of (j := 0) rfl rfl, small (by simp), fun pt npt => q _ _ (Same.new s12 npt) two_new⟩
      | nil =>
        dsimp only [List.head?_nil] at q
        refine itnB rfl ?_
        -- if crew not in inside
        refine ⟨_, rfl, _, rfl, i, _, rfl, .inr (Same.t s12 hi), rfl, flat_ints _, _, rfl, ?_⟩
        by_cases e3 : x.crew ∈ st.inside
        rotate_left
        · rw [if_pos e3] at q
          exact ni_y e3 ⟨_, rfl, small (by simp), fun pt npt => q _ _ (Same.new s12 npt) two_new⟩
        rw [if_neg (fun h => h e3)] at q
        refine ni_n e3 ?_
        -- beside = {..}[side]
        refine ⟨fun σ H' => ∃ (pl : Addr) (zs : List Int), σ = [some (.ref a), some (.ref sa), some (.int n), some (.int st.aisle), some (.ref d), some (.ref i), some (.int st.kept), some (.str x.kind), some (.int x.shelf), some (.str x.side), some (.int x.crew), some (.int x.keep), some (.ref t), some (.ref D1), some (.ref pl), none, none] ∧
          Same H H' ∧ H' pl = some (.lst (zs.map V.int)) ∧ (st.aisle ∈ zs ↔ beside st.aisle x.shelf x.side = true), fun pd npd => ?_, ?_⟩
        rotate_left
        · rintro σ H3 ⟨pl, zs, rfl, s13, hpl, hbes⟩
          -- if aisle not in beside
          refine ⟨_, rfl, _, rfl, pl, _, rfl, .inl (SqL.of hpl), rfl, flat_ints _, _, rfl, ?_⟩
          cases e4 : beside st.aisle x.shelf x.side with
          | false =>
            rw [e4, if_pos rfl] at q
            refine ni_y (fun z => ?_) ⟨_, rfl, small (by simp), fun pt npt => q _ _ (Same.new s13 npt) two_new⟩
            rw [hbes, e4] at z
            cases z
          | true =>
            rw [e4, if_neg (by decide)] at q
            refine ni_n (hbes.mpr e4) ?_
            have so3 := so.mono s13
            have hl5 : st.done.length ≤ 900 := by
              have := sk.done.len
              have := ok.w5
              omega
            refine ⟨_, rfl, _, rfl, _, rfl, .ref a, x.shelf, d, S, st.done, rfl, so3.d, ok, Same.t s13 hd, okx.s0, okx.s1, fun z hz => sk.done.mem hz, hl5, fun H4 s4 => ?_⟩
            have s14 := s13.trans s4
            obtain ⟨b0, b1⟩ := sk.has x.shelf okx.s0 okx.s1
            obtain ⟨sh, hsh, _, _, eroom⟩ := shelf_at_k okx.s0 okx.s1
            unfold barLoad at q
            refine ⟨_, rfl, rfl, _, rfl, ?_⟩
            by_cases k1 : x.kind = "fetch"
            · refine itD (by rw [k1]) ⟨_, rfl, _, _, rfl, rfl, _, rfl, ?_⟩
              by_cases k2 : goods S st.done x.shelf = 0
              · rw [if_pos ⟨k1, k2⟩] at q
                exact itD (by omega) ⟨_, rfl, small (by simp), fun pt npt => q _ _ (Same.new s14 npt) two_new⟩
              · rw [if_neg (fun z => k2 z.2), if_neg (fun z => nbf (k1.symm.trans z.1))] at q
                exact itF (by omega) (q _ _ s14 .non)
            · have k3 : x.kind = "bring" := okx.kind.resolve_left k1
              rw [if_neg (fun z => k1 z.1)] at q
              refine itF (sne k1) ?_
              have so4 := so.mono s14
              obtain ⟨c, hc, hcT⟩ := shelf_get so4.dx hsh
              refine ⟨_, rfl, _, rfl, a, _, 0, .ref l, rfl, rfl, so4.t, rfl, _, rfl, l, xs, x.shelf, .ref c, rfl, rfl, so4.l, at_of (j := x.shelf.toNat) (by have := okx.s0; omega) hc, c, _, 0, .int sh.room, rfl, rfl, hcT, rfl, _, _, rfl, rfl, _, rfl, ?_⟩
              by_cases k2 : goods S st.done x.shelf = roomAt S x.shelf
              · rw [if_pos ⟨k3, k2⟩] at q
                exact itD (by omega) ⟨_, rfl, small (by simp), fun pt npt => q _ _ (Same.new s14 npt) two_new⟩
              · rw [if_neg (fun z => k2 z.2)] at q
                exact itF (by omega) (q _ _ s14 .non)
        refine ⟨_, rfl, small (by simp), fun p1 np1 => ⟨_, rfl, _, 1, rfl, rfl, small (by simp), fun p2 np2 => ⟨_, rfl, _, rfl, _, 1, rfl, rfl, small (by simp), fun p3 np3 => ?_⟩⟩⟩
        have d1 : pd ≠ p1 := ne_of_none upd_same np1
        have d2 : pd ≠ p2 := ne_of_none (by rw [upd_ne d1]; exact upd_same) np2
        have d3 : pd ≠ p3 := ne_of_none (by rw [upd_ne d2, upd_ne d1]; exact upd_same) np3
        have d12 : p1 ≠ p2 := ne_of_none upd_same np2
        have d13 : p1 ≠ p3 := ne_of_none (by rw [upd_ne d12]; exact upd_same) np3
        have d23 : p2 ≠ p3 := ne_of_none upd_same np3
        refine ⟨by rw [upd_ne d3, upd_ne d2, upd_ne d1]; exact upd_same, [(Sum.inr ("left" : Str), .ref p1), (Sum.inr ("right" : Str), .ref p2), (Sum.inr ("any" : Str), .ref p3)], rfl, by simp, ?_⟩
        refine ⟨_, rfl, ?_⟩
        have s3 : Same H2 (upd (upd (upd (upd (upd H2 pd (.dK [])) p1 (.lst [.int x.shelf])) p2 (.lst [.int (x.shelf + 1)])) p3 (.lst [.int x.shelf, .int (x.shelf + 1)])) pd (.dK (mergeK [] [(Sum.inr ("left" : Str), .ref p1), (Sum.inr ("right" : Str), .ref p2), (Sum.inr ("any" : Str), .ref p3)]))) :=
          Same.put ((((same_new npd).trans (same_new np1)).trans (same_new np2)).trans (same_new np3)) npd
        have g1 : (upd (upd (upd (upd (upd H2 pd (.dK [])) p1 (.lst [.int x.shelf])) p2 (.lst [.int (x.shelf + 1)])) p3 (.lst [.int x.shelf, .int (x.shelf + 1)])) pd (.dK (mergeK [] [(Sum.inr ("left" : Str), .ref p1), (Sum.inr ("right" : Str), .ref p2), (Sum.inr ("any" : Str), .ref p3)]))) p1 = some (.lst ([x.shelf].map V.int)) := by
          rw [upd_ne (Ne.symm d1), upd_ne d13, upd_ne d12]
          exact upd_same
        have g2 : (upd (upd (upd (upd (upd H2 pd (.dK [])) p1 (.lst [.int x.shelf])) p2 (.lst [.int (x.shelf + 1)])) p3 (.lst [.int x.shelf, .int (x.shelf + 1)])) pd (.dK (mergeK [] [(Sum.inr ("left" : Str), .ref p1), (Sum.inr ("right" : Str), .ref p2), (Sum.inr ("any" : Str), .ref p3)]))) p2 = some (.lst ([x.shelf + 1].map V.int)) := by
          rw [upd_ne (Ne.symm d2), upd_ne d23]
          exact upd_same
        have g3 : (upd (upd (upd (upd (upd H2 pd (.dK [])) p1 (.lst [.int x.shelf])) p2 (.lst [.int (x.shelf + 1)])) p3 (.lst [.int x.shelf, .int (x.shelf + 1)])) pd (.dK (mergeK [] [(Sum.inr ("left" : Str), .ref p1), (Sum.inr ("right" : Str), .ref p2), (Sum.inr ("any" : Str), .ref p3)]))) p3 = some (.lst ([x.shelf, x.shelf + 1].map V.int)) := by
          rw [upd_ne (Ne.symm d3)]
          exact upd_same
        have gd : (upd (upd (upd (upd (upd H2 pd (.dK [])) p1 (.lst [.int x.shelf])) p2 (.lst [.int (x.shelf + 1)])) p3 (.lst [.int x.shelf, .int (x.shelf + 1)])) pd (.dK (mergeK [] [(Sum.inr ("left" : Str), .ref p1), (Sum.inr ("right" : Str), .ref p2), (Sum.inr ("any" : Str), .ref p3)]))) pd = some (.dK (mergeK [] [(Sum.inr ("left" : Str), .ref p1), (Sum.inr ("right" : Str), .ref p2), (Sum.inr ("any" : Str), .ref p3)])) := upd_same
        have hb3 : ∃ (pl : Addr) (zs : List Int), valV (mergeK [] [(Sum.inr ("left" : Str), V.ref p1), (Sum.inr ("right" : Str), V.ref p2), (Sum.inr ("any" : Str), V.ref p3)]) (Sum.inr x.side) = some (.ref pl) ∧
            (upd (upd (upd (upd (upd H2 pd (.dK [])) p1 (.lst [.int x.shelf])) p2 (.lst [.int (x.shelf + 1)])) p3 (.lst [.int x.shelf, .int (x.shelf + 1)])) pd (.dK (mergeK [] [(Sum.inr ("left" : Str), .ref p1), (Sum.inr ("right" : Str), .ref p2), (Sum.inr ("any" : Str), .ref p3)]))) pl = some (.lst (zs.map V.int)) ∧ (st.aisle ∈ zs ↔ beside st.aisle x.shelf x.side = true) := by
          rw [get3]
          unfold beside
          rcases okx.side with e | e | e
          · rw [e, if_neg (key_ne (fun z => n_al z.symm)), if_neg (key_ne (fun z => n_rl z.symm)), if_pos rfl, if_pos rfl]
            exact ⟨p1, _, rfl, g1, by rw [List.mem_singleton, decide_eq_true_iff]⟩
          · rw [e, if_neg (key_ne (fun z => n_ar z.symm)), if_pos rfl, if_neg n_rl, if_pos rfl]
            exact ⟨p2, _, rfl, g2, by rw [List.mem_singleton, decide_eq_true_iff]⟩
          · rw [e, if_pos rfl, if_neg n_al, if_neg n_ar]
            exact ⟨p3, _, rfl, g3, by rw [List.mem_cons, List.mem_singleton, decide_eq_true_iff]⟩
        obtain ⟨pl, zs, hval, hpl, hbes⟩ := hb3
        refine ⟨pd, .ref pl, rfl, by rw [← hval]; exact DGet.k (k := Sum.inr x.side) gd, ?_⟩
        have s13 := s12.trans s3
        exact ⟨pl, zs, rfl, s13, hpl, hbes⟩
    refine ⟨_, rfl, t, rfl, ⟨_, ht⟩, fun D1 nD1 => ?_⟩
    refine lc_tup (K := K) (a := t) (xs := x.after.map V.int) (fun j H' => Same H H' ∧ H' D1 = some (.lst (((x.after.take j).filter fun z => decide (z ∉ st.done)).map V.int))) ⟨same_new nD1, ?_⟩ (fun j H' _ h => Same.t h.1 ht) ?_ ?_
    · rw [List.take_zero, upd_same]
      rfl
    · rintro j y H' hj ⟨s1, eD⟩
      obtain ⟨z, hzj, rfl⟩ := int_item hj
      have ef := filter_snoc (p := fun z => decide (z ∉ st.done)) hzj
      rw [ef]
      refine ⟨rfl, ?_⟩
      refine ⟨_, rfl, _, rfl, d, _, rfl, .inr (Same.t s1 hd), rfl, flat_ints _, _, rfl, ?_⟩
      by_cases e2 : z ∈ st.done
      · rw [decide_eq_false (fun h => h e2), if_neg Bool.false_ne_true, List.append_nil]
        exact ni_n e2 ⟨s1, eD⟩
      · rw [decide_eq_true e2, if_pos rfl]
        refine ni_y e2 ⟨_, rfl, _, eD, ?_, ?_, ?_⟩
        · rw [List.length_map]
          refine small1000 (Nat.le_trans (List.length_filter_le _ _) ?_)
          rw [List.length_take]
          omega
        · intro b o h
          rw [upd_ne (ne_of_none h nD1)]
          exact s1 b o h
        · rw [upd_same, List.map_append]
          rfl
    rintro H1 ⟨s1, eD⟩
    rw [List.length_map, List.take_length] at eD
    exact ⟨D1, s1, eD, rfl⟩
def spLawBar (K : PySem.W.Frag) : Sp := fun vs H Q _ => ∃ (v u z : V) (S : Sto) (s : Sta) (t : Stp), vs = [v, u, z] ∧ Dp K H v S.d ∧ Dp K H u s.d ∧ Dp K H z t.d ∧ StoOk S ∧ StaOk S s ∧ StpOk S.wishes.length t ∧ Ret K H Q (dbar (bar S s t))
/-! _law_bar: 0 _law_store_here, 1 _law_state, 2 _law_step, 3 _law_aisle, 4 _law_done, 5 _law_inside, 6 _law_kept, 7 _law_shelf -/
abbrev s__law_bar : Stmt := topS 43
abbrev N__law_bar : List Str := ["_law_store_here", "_law_state", "_law_step", "_law_aisle", "_law_done", "_law_inside", "_law_kept", "_law_shelf"]
theorem sc__law_bar : FnScope N__law_bar ["_law_store_here", "_law_state", "_law_step"] (defScope s__law_bar) := ⟨rfl, rfl, rfl, by decide +kernel, rfl, by decide +kernel, by decide +kernel⟩
theorem ok__law_bar {f f1 : Addr} {fd fd1 : FuncData} (D : Dfs K mg "_law_bar" s__law_bar ["_law_store_here", "_law_state", "_law_step"] f fd) (T : Tx K mg)
    (C__law_bar_of_wish : Cal P w K mg base 2 "_law_bar_of_wish" ["_law_store_here", "_law_state", "_law_number"] (spLawBarWish K) f1 fd1) : Cal P w K mg base 3 "_law_bar" ["_law_store_here", "_law_state", "_law_step"] (spLawBar K) f fd := by
  refine D.cal (D.F.ok sc__law_bar (fun vs H Q E h => ?_) (fun cdv A outer s H vs Q E hr h => ?_))
  · obtain ⟨v, u, z, S, s, t, rfl, _⟩ := h
    rfl
  · obtain ⟨v, u, z, S, st, t, rfl, hv, hu, hz, ok, sk, ht, q⟩ := h
    obtain ⟨a, l, m, xs, ys, rfl, so⟩ := sto_at hv
    obtain ⟨sa, d, i, rfl, hsa, hd, hi⟩ := sta_at hu
    refine ⟨_, (pss_cons (ps_asg (pv 1) (pg_tup (by rfl) (pgs_cons (pg_name (i := 3) sc__law_bar.nd rfl (Or.inl rfl)) (pgs_cons (pg_name (i := 4) sc__law_bar.nd rfl (Or.inl rfl)) (pgs_cons (pg_name (i := 5) sc__law_bar.nd rfl (Or.inl rfl)) (pgs_cons (pg_name (i := 6) sc__law_bar.nd rfl (Or.inl rfl)) pgs_nil))))))
      (pss_cons (ps_if (pt_cmpR op_eq (pe_ix (kix_tup (K := K)) (pv 2) pe_int (fun _ _ => rfl)) pe_str (nomark _)) (pss_one (ps_ret pe_non)) pss_nil)
      (pss_cons (ps_if (pt_cmpR op_eq (pe_ix (kix_tup (K := K)) (pv 2) pe_int (fun _ _ => rfl)) pe_str (nomark _)) (C8.pss_cut (ps_set (i := 7) sc__law_bar.nd rfl (Or.inl rfl) (pe_op op_sub (pv 3) (pe_callTy call_int1 (by rfl) T.n_int (by decide +kernel) (pa_cons (pe_cmpR op_eq (pe_ix (kix_tup (K := K)) (pv 2) pe_int (fun _ _ => rfl)) (pe_un un_neg pe_int) (nomark _)) pa_nil))))
      (pss_cons (ps_if (PW.pt (pw_or (pt_cmpR op_lt (pv 7) pe_int (nomark _)) (pw_or1 (pt_cmpR op_ge (pv 7) (pe_callB (klen (K := K)) (by rfl) T.n_len (by decide +kernel) (pa_cons (pe_ix (kix_tup (K := K)) (pv 0) pe_int (fun _ _ => rfl)) pa_nil)) (nomark _))))) (pss_one (ps_ret (pe_tup (pa_cons pe_str (pa_cons (pv 3) pa_nil))))) pss_nil)
      (pss_cons (ps_if (pt_cmpR op_eq (pe_ix (kix_tup (K := K)) (pe_ix (kix_list (K := K)) (pe_ix (kix_tup (K := K)) (pv 0) pe_int (fun _ _ => rfl)) (pv 7) (fun _ _ => rfl)) pe_int (fun _ _ => rfl)) pe_int (nomark _)) (pss_one (ps_ret (pe_tup (pa_cons pe_str (pa_cons (pv 7) pa_nil))))) pss_nil)
      (pss_cons (ps_if (pt_cmpR (kneD (K := K) hr.units) (pv 5) (pe_tup pa_nil) (nomark _)) (pss_one (ps_ret (pe_tup (pa_cons pe_str (pa_cons (pe_callB (kminT (K := K) rfl) (by rfl) T.n_min (by decide +kernel) (pa_cons (pv 5) pa_nil)) pa_nil))))) pss_nil)
      (pss_one (ps_ret (pe_ifExp (pt_cmpR op_gt (pv 6) pe_int (nomark _)) (pe_tup (pa_cons pe_str (pa_cons (pv 6) pa_nil))) pe_non))))))) pss_nil)
      (pss_cons (ps_if (pt_cmpR op_eq (pe_ix (kix_tup (K := K)) (pv 2) pe_int (fun _ _ => rfl)) pe_str (nomark _)) (pss_one (ps_ret (pe_ifExp (pt_cmpR (kin_seq (K := K)) (pe_ix (kix_tup (K := K)) (pv 2) pe_int (fun _ _ => rfl)) (pv 5) (by rfl)) (pe_tup (pa_cons pe_str (pa_cons (pe_ix (kix_tup (K := K)) (pv 2) pe_int (fun _ _ => rfl)) pa_nil))) pe_non))) pss_nil)
      (pss_cons (ps_if (pt_cmpR op_eq (pe_ix (kix_tup (K := K)) (pv 2) pe_int (fun _ _ => rfl)) pe_str (nomark _)) (pss_one (ps_ret (pe_ifExp (pt_cmpR (kin_seq (K := K)) (pe_ix (kix_tup (K := K)) (pv 2) pe_int (fun _ _ => rfl)) (pv 5) (by rfl)) pe_non (pe_tup (pa_cons pe_str (pa_cons (pe_ix (kix_tup (K := K)) (pv 2) pe_int (fun _ _ => rfl)) pa_nil)))))) pss_nil)
      (pss_one (ps_ret (pe_call C__law_bar_of_wish.G (hr.mono (by decide)) (by rfl) C__law_bar_of_wish.g C__law_bar_of_wish.kp C__law_bar_of_wish.b .nil pass0 (pa_cons (pv 0) (pa_cons (pv 1) (pa_cons (pe_ix (kix_tup (K := K)) (pv 2) pe_int (fun _ _ => rfl)) pa_nil))))))))))), ?_⟩
    refine ⟨_, rfl, sa, _, rfl, hsa, rfl, _, _, rfl, _, _, rfl, _, _, rfl, _, _, rfl, rfl, ?_⟩
    cases t with
    | wait =>
      obtain ⟨c, rfl, hc⟩ := dp_one hz
      exact ⟨_, rfl, c, _, 0, .str "wait", rfl, rfl, hc, rfl, rfl, _, rfl, itD rfl (q _ _ (Same.refl _) .non)⟩
    | shift b =>
      obtain ⟨c, rfl, hc⟩ := dp_two hz
      refine ⟨_, rfl, c, _, 0, .str "shift", rfl, rfl, hc, rfl, rfl, _, rfl, itF (sne (by decide +kernel)) ?_⟩
      refine ⟨_, rfl, c, _, 0, .str "shift", rfl, rfl, hc, rfl, rfl, _, rfl, itD rfl ?_⟩
      -- shelf = aisle - int(step[1] == -1)
      refine ⟨fun σ H' => H = H' ∧ σ = [some (.ref a), some (.ref sa), some (.ref c), some (.int st.aisle), some (.ref d), some (.ref i), some (.int st.kept), some (.int (st.aisle - (if decide (V.int b = V.int (-1)) = true then 1 else 0)))], ?_, ?_⟩
      · exact ⟨_, rfl, _, rfl, c, _, 1, .int b, rfl, rfl, hc, rfl, _, rfl, rfl, .inr ⟨_, rfl, _, _, rfl, rfl, rfl, rfl⟩⟩
      rintro σ H' ⟨rfl, rfl⟩
      have esh : st.aisle - (if decide (V.int b = V.int (-1)) = true then 1 else 0) = if b = 1 then st.aisle else st.aisle - 1 := by
        rcases ht with e | e
        · rw [e, if_pos (decide_eq_true rfl), if_neg (by decide)]
        · rw [e, if_neg (fun h => absurd (V.int.inj (of_decide_eq_true h)) (by decide)), if_pos rfl, Int.sub_zero]
      have q' : Ret K H Q (dbar (barShift S st b)) := q
      unfold barShift at q'
      dsimp only at q'
      rw [← esh] at q'
      generalize st.aisle - (if decide (V.int b = V.int (-1)) = true then 1 else 0) = sh at q'
      refine ⟨_, rfl, _, _, rfl, rfl, _, rfl, ?_⟩
      by_cases e0 : sh < 0
      · rw [if_neg (fun z => by omega)] at q'
        exact itD e0 (iteT ⟨_, rfl, small (by simp), fun pt npt => q' _ _ (same_new npt) two_new⟩)
      refine itF e0 ?_
      refine ⟨_, rfl, _, rfl, a, _, 0, .ref l, rfl, rfl, so.t, rfl, l, xs, rfl, .inl so.l, _, _, rfl, rfl, _, rfl, ?_⟩
      have lx := so.lx
      by_cases e1 : sh < S.shelves.length
      rotate_left
      · rw [if_neg (fun z => e1 z.2)] at q'
        exact itD (by omega) ⟨_, rfl, small (by simp), fun pt npt => q' _ _ (same_new npt) two_new⟩
      rw [if_pos ⟨by omega, e1⟩] at q'
      refine itF (by omega) ?_
      obtain ⟨x, hx, _⟩ := shelf_at_k (by omega) e1
      rw [hx] at q'
      dsimp only at q'
      obtain ⟨g, hg, hgT⟩ := shelf_get so.dx hx
      refine ⟨_, rfl, a, _, 0, .ref l, rfl, rfl, so.t, rfl, _, rfl, l, xs, sh, .ref g, rfl, rfl, so.l, at_of (j := sh.toNat) (by omega) hg, g, _, 2, .int x.sticks, rfl, rfl, hgT, rfl, rfl, _, rfl, ?_⟩
      by_cases e2 : x.sticks = 1
      · rw [if_pos e2] at q'
        exact itD (by rw [e2]) ⟨_, rfl, small (by simp), fun pt npt => q' _ _ (same_new npt) two_new⟩
      rw [if_neg e2] at q'
      refine itF (ine e2) ⟨_, rfl, small (by simp), fun p0 np0 => ?_⟩
      have s1 := same_new (o := .tup []) np0
      refine ⟨.tuple (dints st.inside), .tuple [], .tup (Same.t s1 hi) (ints_dps _), .tup tup_new .nil, (Lays.tup (n := 1) (lays_ints _)).shaped, lay_nilT.shaped, _, rfl, ?_⟩
      rw [eqv_nilT]
      have hin := sk.inside
      cases e3 : st.inside with
      | cons c0 cs =>
        rw [e3] at q' hi hin
        refine itnBf rfl ⟨_, rfl, i, _, rfl, Same.t s1 hi, by simp, fun z hz hmin => ⟨small (by simp), fun pt npt => ?_⟩⟩
        have ez : z = c0 := by
          rcases hin with h | h | h | h
          · cases h
          · cases h
            simpa using hz
          · cases h
            simpa using hz
          · cases h
            have := hmin 0 (by simp)
            simp at hz
            omega
        rw [ez]
        exact q' _ _ (Same.new s1 npt) two_new
      | nil =>
        rw [e3] at q'
        dsimp only at q'
        refine itnB rfl ⟨_, rfl, _, _, rfl, rfl, _, rfl, ?_⟩
        by_cases e4 : st.kept > 0
        · rw [if_pos e4] at q'
          exact itD e4 ⟨_, rfl, small (by simp), fun pt npt => q' _ _ (Same.new s1 npt) two_new⟩
        · rw [if_neg e4] at q'
          exact itF e4 (q' _ _ s1 .non)
    | cin e =>
      obtain ⟨c, rfl, hc⟩ := dp_two hz
      refine ⟨_, rfl, c, _, 0, .str "in", rfl, rfl, hc, rfl, rfl, _, rfl, itF (sne (by decide +kernel)) ?_⟩
      refine ⟨_, rfl, c, _, 0, .str "in", rfl, rfl, hc, rfl, rfl, _, rfl, itF (sne (by decide +kernel)) ?_⟩
      refine ⟨_, rfl, c, _, 0, .str "in", rfl, rfl, hc, rfl, rfl, _, rfl, itD rfl ?_⟩
      refine ⟨_, rfl, c, _, 1, .int e, rfl, rfl, hc, rfl, _, rfl, i, _, rfl, .inr hi, rfl, flat_ints _, _, rfl, ?_⟩
      have q' : Ret K H Q (dbar (if e ∈ st.inside then some ("is", e) else none)) := q
      by_cases e1 : e ∈ st.inside
      · rw [if_pos e1] at q'
        exact in_y e1 ⟨_, rfl, c, _, 1, .int e, rfl, rfl, hc, rfl, small (by simp), fun pt npt => q' _ _ (same_new npt) two_new⟩
      · rw [if_neg e1] at q'
        exact in_n e1 (q' _ _ (Same.refl _) .non)
    | cout e =>
      obtain ⟨c, rfl, hc⟩ := dp_two hz
      refine ⟨_, rfl, c, _, 0, .str "out", rfl, rfl, hc, rfl, rfl, _, rfl, itF (sne (by decide +kernel)) ?_⟩
      refine ⟨_, rfl, c, _, 0, .str "out", rfl, rfl, hc, rfl, rfl, _, rfl, itF (sne (by decide +kernel)) ?_⟩
      refine ⟨_, rfl, c, _, 0, .str "out", rfl, rfl, hc, rfl, rfl, _, rfl, itF (sne (by decide +kernel)) ?_⟩
      refine ⟨_, rfl, c, _, 0, .str "out", rfl, rfl, hc, rfl, rfl, _, rfl, itD rfl ?_⟩
      refine ⟨_, rfl, c, _, 1, .int e, rfl, rfl, hc, rfl, _, rfl, i, _, rfl, .inr hi, rfl, flat_ints _, _, rfl, ?_⟩
      have q' : Ret K H Q (dbar (if e ∈ st.inside then none else some ("isnt", e))) := q
      by_cases e1 : e ∈ st.inside
      · rw [if_pos e1] at q'
        exact in_y e1 (q' _ _ (Same.refl _) .non)
      · rw [if_neg e1] at q'
        exact in_n e1 ⟨_, rfl, c, _, 1, .int e, rfl, rfl, hc, rfl, small (by simp), fun pt npt => q' _ _ (same_new npt) two_new⟩
    | wish n =>
      obtain ⟨c, rfl, hc⟩ := dp_two hz
      refine ⟨_, rfl, c, _, 0, .str "do", rfl, rfl, hc, rfl, rfl, _, rfl, itF (sne (by decide +kernel)) ?_⟩
      refine ⟨_, rfl, c, _, 0, .str "do", rfl, rfl, hc, rfl, rfl, _, rfl, itF (sne (by decide +kernel)) ?_⟩
      refine ⟨_, rfl, c, _, 0, .str "do", rfl, rfl, hc, rfl, rfl, _, rfl, itF (sne (by decide +kernel)) ?_⟩
      refine ⟨_, rfl, c, _, 0, .str "do", rfl, rfl, hc, rfl, rfl, _, rfl, itF (sne (by decide +kernel)) ?_⟩
      exact ⟨_, rfl, _, rfl, _, rfl, c, _, 1, .int n, rfl, rfl, hc, rfl, .ref a, .ref sa, n, S, st, rfl, hv, hu, ok, sk, ht.1, ht.2, q⟩
end

section
variable {P : Program} {w : World} {K : PySem.W.Frag} {mg : Str → Option Value} {base : Heap}
def spLawBegin (K : PySem.W.Frag) : Sp := fun vs H Q _ => ∃ (v : V) (S : Sto), vs = [v] ∧ Dp K H v S.d ∧ Ret K H Q (sta0 S).d
/-! _law_begin: 0 _law_store_here -/
abbrev s__law_begin : Stmt := topS 48
abbrev N__law_begin : List Str := ["_law_store_here"]
theorem sc__law_begin : FnScope N__law_begin ["_law_store_here"] (defScope s__law_begin) := ⟨rfl, rfl, rfl, by decide +kernel, rfl, by decide +kernel, by decide +kernel⟩
theorem ok__law_begin {f : Addr} {fd : FuncData} (D : Dfs K mg "_law_begin" s__law_begin ["_law_store_here"] f fd) : Cal P w K mg base 1 "_law_begin" ["_law_store_here"] (spLawBegin K) f fd := by
  refine D.cal (D.F.ok sc__law_begin (fun vs H Q E h => ?_) (fun cdv A outer s H vs Q E hr h => ?_))
  · obtain ⟨v, S, rfl, _⟩ := h
    rfl
  · obtain ⟨v, S, rfl, hv, q⟩ := h
    obtain ⟨a, l, m, xs, ys, rfl, so⟩ := sto_at hv
    refine ⟨_, (pss_one (ps_ret (pe_tup (pa_cons (pe_ix (kix_tup (K := K)) (pv 0) pe_int (fun _ _ => rfl)) (pa_cons (pe_tup pa_nil) (pa_cons (pe_tup pa_nil) (pa_cons pe_int pa_nil))))))), ?_⟩
    refine ⟨_, rfl, a, _, 1, .int S.aisle, rfl, rfl, so.t, rfl, small (by simp), fun p1 np1 => ⟨small (by simp), fun p2 np2 => ⟨small (by simp), fun p3 np3 => ?_⟩⟩⟩
    have s1 := same_new (o := .tup []) np1
    have s2 := same_new (o := .tup []) np2
    have s3 := same_new (o := .tup [.int S.aisle, .ref p1, .ref p2, .int 0]) np3
    exact q _ _ ((s1.trans s2).trans s3) (at_sta (s := sta0 S) tup_new (Same.t (s2.trans s3) tup_new) (Same.t s3 tup_new))
def spEvery (K : PySem.W.Frag) : Sp := fun vs H Q _ => ∃ (v : V) (S : Sto), vs = [v] ∧ Dp K H v S.d ∧ StoOk S ∧ ∀ q xs H', Same H H' → H q = none → H' q = some (.lst xs) → DpAll K H' xs (dsteps (allSteps S.wishes.length)) → Q (.ref q) H'
/-! _law_every: 0 _law_store_here, 1 _law_some, 2 _law_number -/
abbrev s__law_every : Stmt := topS 46
abbrev N__law_every : List Str := ["_law_store_here", "_law_some", "_law_number"]
theorem sc__law_every : FnScope N__law_every ["_law_store_here"] (defScope s__law_every) := ⟨rfl, rfl, rfl, by decide +kernel, rfl, by decide +kernel, by decide +kernel⟩
theorem ok__law_every {f : Addr} {fd : FuncData} (D : Dfs K mg "_law_every" s__law_every ["_law_store_here"] f fd) (T : Tx K mg) : Cal P w K mg base 1 "_law_every" ["_law_store_here"] (spEvery K) f fd := by
  refine D.cal (D.F.ok sc__law_every (fun vs H Q E h => ?_) (fun cdv A outer s H vs Q E hr h => ?_))
  · obtain ⟨v, S, rfl, _⟩ := h
    rfl
  · obtain ⟨v, S, rfl, hv, ok, q⟩ := h
    obtain ⟨a, l, m, xs, ys, rfl, so⟩ := sto_at hv
    have w5 := ok.w5
    refine ⟨_, (C8.pss_cut (ps_set (i := 1) sc__law_every.nd rfl (Or.inl rfl) (pe_lst (pa_cons (pe_tup (pa_cons pe_str pa_nil)) (pa_cons (pe_tup (pa_cons pe_str (pa_cons (pe_un un_neg pe_int) pa_nil))) (pa_cons (pe_tup (pa_cons pe_str (pa_cons pe_int pa_nil))) (pa_cons (pe_tup (pa_cons pe_str (pa_cons pe_int pa_nil))) (pa_cons (pe_tup (pa_cons pe_str (pa_cons pe_int pa_nil))) (pa_cons (pe_tup (pa_cons pe_str (pa_cons pe_int pa_nil))) (pa_cons (pe_tup (pa_cons pe_str (pa_cons pe_int pa_nil))) pa_nil)))))))))
      (pss_one (ps_ret (pe_op op_cat (pv 1) (pe_lc (own := [("_law_number", 2)]) (g := gName 2) rfl sc__law_every.nd (pi_range1 (by rfl) T.n_range (pa_cons (pe_callB (klen (K := K)) (by rfl) T.n_len (by decide +kernel) (pa_cons (pe_ix (kix_tup (K := K)) (pv 0) pe_int (fun _ _ => rfl)) pa_nil)) pa_nil)) (blkOk_by (own := [("_law_number", 2)]) (N := N__law_every) (sc := defScope s__law_every) (by decide +kernel)) (fun _ _ _ _ _ => (pg_name (i := 2) sc__law_every.nd rfl (Or.inl rfl))) (fun _ _ _ _ _ => pts_nil) (fun _ _ _ _ _ => by exact (pe_tup (pa_cons pe_str (pa_cons (pv 2) pa_nil))))))))), ?_⟩
    refine ⟨fun σ H' => ∃ (l1 : Addr) (fx : List V), σ = [some (.ref a), some (.ref l1), none] ∧ Same H H' ∧ H' l1 = some (.lst fx) ∧ DpAll K H' fx (dsteps fixedSteps), ?_, ?_⟩
    rotate_left
    · rintro σ H2 ⟨l1, fx, rfl, s1, e1, dfx⟩
      have so1 := so.mono s1
      have ly := so.ly
      have lf : fx.length = 7 := dps_len dfx
      refine ⟨_, rfl, _, rfl, a, _, 2, .ref m, rfl, rfl, so1.t, rfl, m, ys, rfl, .inl so1.m, _, rfl, by omega, by omega, fun D nD => ?_⟩
      refine lc_range (lo := 0) (n := (ys.length : Int).toNat) (fun i H' => ∃ B zs, Acq K H2 B H' D zs (dsteps ((List.range i).map fun (k : Nat) => Stp.wish (k : Int)))) ⟨H2, [], Acq.start (Same.refl _) (Same.refl _) nD⟩ ?_ ?_
      · rintro i H3 hi ⟨B, zs, A⟩
        refine ⟨rfl, _, rfl, small (by simp), fun p3 np3 => ?_⟩
        have A2 := A.grow (o := .tup [.str "do", .int (0 + (i : Int))]) np3
        refine ⟨zs, A2.el, ?_, ?_⟩
        · have e := dps_len A.dx
          have e2 : (dsteps ((List.range i).map fun (k : Nat) => Stp.wish (k : Int))).length = i := by
            unfold dsteps
            rw [List.length_map, List.length_map, List.length_range]
          exact small1000 (by omega)
        · refine ⟨upd B p3 (.tup [.str "do", .int (0 + (i : Int))]), zs ++ [.ref p3], ?_⟩
          have A3 := A2.app (v := .ref p3) (d := (Stp.wish (0 + (i : Int))).d) (two_dp tup_new)
          have e : dsteps ((List.range (i + 1)).map fun (k : Nat) => Stp.wish (k : Int)) = dsteps ((List.range i).map fun (k : Nat) => Stp.wish (k : Int)) ++ [(Stp.wish (0 + (i : Int))).d] := by
            unfold dsteps
            rw [List.range_succ, List.map_append, List.map_append, Int.zero_add]
            rfl
          rw [e]
          exact A3
      · rintro H3 ⟨B, zs, A⟩
        obtain ⟨s3, _, dz⟩ := A.all
        have lz : zs.length = ys.length := by
          have e := dps_len dz
          unfold dsteps at e
          rw [List.length_map, List.length_map, List.length_range] at e
          omega
        refine ⟨l1, D, fx, zs, rfl, rfl, s3 _ _ e1, A.el, small (by omega), fun pq npq => ?_⟩
        have s4 := same_new (o := .lst (fx ++ zs)) npq
        refine q pq _ _ ((s1.trans s3).trans s4) ((s1.trans s3).free npq) upd_same ?_
        have e : dsteps (allSteps S.wishes.length) = dsteps fixedSteps ++ dsteps ((List.range S.wishes.length).map fun (k : Nat) => Stp.wish (k : Int)) := List.map_append ..
        rw [e]
        have en : (ys.length : Int).toNat = S.wishes.length := by omega
        rw [en] at dz
        exact dps_app (dps_mono (s3.trans s4) dfx) (dps_mono s4 dz)
    refine ⟨small (by simp), fun p1 n1 => ⟨1, rfl, small (by simp), fun p2 n2 => ⟨small (by simp), fun p3 n3 => ⟨small (by simp), fun p4 n4 => ⟨small (by simp), fun p5 n5 => ⟨small (by simp), fun p6 n6 => ⟨small (by simp), fun p7 n7 => ⟨small (by simp), fun l1 nl1 => ?_⟩⟩⟩⟩⟩⟩⟩⟩
    have t1 := same_new (o := .tup [.str "wait"]) n1
    have t2 := same_new (o := .tup [.str "shift", .int (-1)]) n2
    have t3 := same_new (o := .tup [.str "shift", .int 1]) n3
    have t4 := same_new (o := .tup [.str "in", .int 0]) n4
    have t5 := same_new (o := .tup [.str "in", .int 1]) n5
    have t6 := same_new (o := .tup [.str "out", .int 0]) n6
    have t7 := same_new (o := .tup [.str "out", .int 1]) n7
    have t8 := same_new (o := .lst [V.ref p1, .ref p2, .ref p3, .ref p4, .ref p5, .ref p6, .ref p7]) nl1
    have b7 := t7.trans t8
    have b6 := t6.trans b7
    have b5 := t5.trans b6
    have b4 := t4.trans b5
    have b3 := t3.trans b4
    have b2 := t2.trans b3
    have s1 := t1.trans b2
    have dfx : DpAll K _ [V.ref p1, .ref p2, .ref p3, .ref p4, .ref p5, .ref p6, .ref p7] (dsteps fixedSteps) :=
      .cons (pair1 (Same.t b2 tup_new)) (.cons (two_dp (Same.t b3 tup_new)) (.cons (two_dp (Same.t b4 tup_new)) (.cons (two_dp (Same.t b5 tup_new)) (.cons (two_dp (Same.t b6 tup_new)) (.cons (two_dp (Same.t b7 tup_new)) (.cons (two_dp (Same.t t8 tup_new)) .nil))))))
    exact ⟨l1, _, rfl, s1, upd_same, dfx⟩
def spLawSteps (K : PySem.W.Frag) : Sp := fun vs H Q _ => ∃ (v u : V) (S : Sto) (s : Sta), vs = [v, u] ∧ Dp K H v S.d ∧ Dp K H u s.d ∧ StoOk S ∧ StaOk S s ∧
  ∀ q xs H', Same H H' → H q = none → H' q = some (.lst xs) → DpAll K H' xs (dsteps (openSteps S s)) → Q (.ref q) H'
/-! _law_steps: 0 _law_store_here, 1 _law_state, 2 _law_step -/
abbrev s__law_steps : Stmt := topS 47
abbrev N__law_steps : List Str := ["_law_store_here", "_law_state", "_law_step"]
theorem sc__law_steps : FnScope N__law_steps ["_law_store_here", "_law_state"] (defScope s__law_steps) := ⟨rfl, rfl, rfl, by decide +kernel, rfl, by decide +kernel, by decide +kernel⟩
theorem ok__law_steps {f f1 f2 : Addr} {fd fd1 fd2 : FuncData} (D : Dfs K mg "_law_steps" s__law_steps ["_law_store_here", "_law_state"] f fd) (C__law_every : Cal P w K mg base 1 "_law_every" ["_law_store_here"] (spEvery K) f1 fd1)
    (C__law_bar : Cal P w K mg base 3 "_law_bar" ["_law_store_here", "_law_state", "_law_step"] (spLawBar K) f2 fd2) : Cal P w K mg base 4 "_law_steps" ["_law_store_here", "_law_state"] (spLawSteps K) f fd := by
  refine D.cal (D.F.ok sc__law_steps (fun vs H Q E h => ?_) (fun cdv A outer s H vs Q E hr h => ?_))
  · obtain ⟨v, u, S, s, rfl, _⟩ := h
    rfl
  · obtain ⟨v, u, S, st, rfl, hv, hu, ok, sk, q⟩ := h
    refine ⟨_, (pss_one (ps_ret (pe_lc (own := [("_law_step", 2)]) (g := gName 2) rfl sc__law_steps.nd (pi_list (by exact (pe_call C__law_every.G (hr.mono (by decide)) (by rfl) C__law_every.g C__law_every.kp C__law_every.b .nil pass0 (pa_cons (pv 0) pa_nil)))) (blkOk_by (own := [("_law_step", 2)]) (N := N__law_steps) (sc := defScope s__law_steps) (by decide +kernel)) (fun _ _ _ _ _ => (pg_name (i := 2) sc__law_steps.nd rfl (Or.inl rfl))) (fun _ _ _ _ _ => (pts_one (pt_cmpR op_isN (pe_call C__law_bar.G (hr.mono (by decide)) (by rfl) C__law_bar.g C__law_bar.kp C__law_bar.b .nil pass0 (pa_cons (pv 0) (pa_cons (pv 1) (pa_cons (pv 2) pa_nil)))) pe_non (nomark _)))) (fun _ _ _ _ _ => (pv 2))))), ?_⟩
    refine ⟨_, rfl, v, S, rfl, hv, ok, fun r zs H1 s1 nr e1 dz => ?_⟩
    have w5 := ok.w5
    refine ⟨r, rfl, ⟨zs, SqL.of e1⟩, fun D nD => ?_⟩
    refine lc_list (K := K) (a := r) (xs := zs) (fun i H' => ∃ B us, Acq K H1 B H' D us (dsteps (((allSteps S.wishes.length).take i).filter fun t => (bar S st t).isNone))) ⟨H1, [], ?_⟩ (fun i H' _ ⟨B, us, A⟩ => SqL.of ((A.s.trans A.R) _ _ e1)) ?_ ?_
    · rw [List.take_zero]
      exact Acq.start (Same.refl _) (Same.refl _) nD
    · rintro i y H3 hy ⟨B, us, A⟩
      obtain ⟨d, hd, dy⟩ := dps_of_get dz hy
      obtain ⟨t, ht, rfl⟩ := step_item hd
      have s3 := A.s.trans A.R
      have tok := allSteps_ok (List.mem_of_getElem? ht)
      refine ⟨rfl, _, rfl, _, rfl, _, rfl, v, u, y, S, st, t, rfl, dp_mono (s1.trans s3) hv, dp_mono (s1.trans s3) hu, dp_mono s3 dy, ok, sk, tok, fun b H4 s4 db => ?_⟩
      refine ⟨rfl, _, rfl, ?_⟩
      rw [dbar_none db]
      have A4 := A.keep s4
      have ef := filter_snoc (p := fun t => (bar S st t).isNone) ht
      cases hb : (bar S st t).isNone with
      | true =>
        rw [hb, if_pos rfl] at ef
        refine iteT ⟨_, rfl, us, A4.el, ?_, ?_⟩
        · have e := dps_len A4.dx
          have e2 : (dsteps (((allSteps S.wishes.length).take i).filter fun t => (bar S st t).isNone)).length ≤ 12 := by
            unfold dsteps
            rw [List.length_map]
            refine Nat.le_trans (List.length_filter_le _ _) ?_
            rw [List.length_take, allSteps_len]
            omega
          exact small1000 (by omega)
        · refine ⟨del1 H4 D, us ++ [y], ?_⟩
          have A5 := (A4.pure (Same.refl _)).app (d := t.d) (by
            have hs : Same H1 (del1 H4 D) := same_del (s3.trans s4) nD
            exact dp_mono hs dy)
          rw [ef]
          have e : dsteps (((allSteps S.wishes.length).take i).filter (fun t => (bar S st t).isNone) ++ [t]) = dsteps (((allSteps S.wishes.length).take i).filter fun t => (bar S st t).isNone) ++ [t.d] := List.map_append ..
          rw [e]
          exact A5
      | false =>
        rw [hb, if_neg Bool.false_ne_true, List.append_nil] at ef
        refine iteF ⟨B, us, ?_⟩
        rw [ef]
        exact A4
    · rintro H3 ⟨B, us, A⟩
      obtain ⟨s3, _, du⟩ := A.all
      have lz : zs.length = (allSteps S.wishes.length).length := (dps_len dz).trans (List.length_map ..)
      rw [lz, List.take_length] at du
      exact q D us H3 (s1.trans s3) (s1.free nD) A.el du
end

/-! ### what does not hang on a list that is left out -/
theorem RowSt.pure {K : PySem.W.Frag} {ρ : RowP} {B H H' : Hp} (R : RowSt K ρ B H) (s : Same H H') : RowSt K ρ B H' := by
  obtain ⟨n1, n2, e, g⟩ := R.row
  exact ⟨R.same.trans s, R.free, R.scr, n1, n2, s _ _ e, g⟩
mutual
def noL : PyData → Bool
  | .tuple ds => noLs ds
  | .list _ => false
  | .dict _ => false
  | _ => true
def noLs : List PyData → Bool
  | [] => true
  | d :: ds => noL d && noLs ds
end
mutual
theorem dp_del {K : PySem.W.Frag} {B : Hp} {r : Addr} {zs : List V} (e : B r = some (.lst zs)) : ∀ {v : V} {d : PyData}, Dp K B v d → noL d = true → Dp K (del1 B r) v d
  | _, _, .non, _ => .non
  | _, _, .bl b, _ => .bl b
  | _, _, .int i, _ => .int i
  | _, _, .str x, _ => .str x
  | _, _, .lst _ _, h => absurd h (by unfold noL; decide)
  | _, _, .tup h g, q => .tup (sqt_del e h) (dps_del e g (by unfold noL at q; exact q))
theorem dps_del {K : PySem.W.Frag} {B : Hp} {r : Addr} {zs : List V} (e : B r = some (.lst zs)) : ∀ {vs : List V} {ds : List PyData}, DpAll K B vs ds → noLs ds = true → DpAll K (del1 B r) vs ds
  | _, _, .nil, _ => .nil
  | _, _, .cons h g, q => by
    unfold noLs at q
    obtain ⟨q1, q2⟩ := Bool.and_eq_true_iff.mp q
    exact .cons (dp_del e h q1) (dps_del e g q2)
end
theorem noL_ints (l : List Int) : noLs (dints l) = true := by
  induction l with
  | nil => rfl
  | cons i l ih =>
    show (noL (.int i) && noLs (dints l)) = true
    rw [ih]
    rfl
theorem noL_shelves (l : List Shelf) : noLs (dshelves l) = true := by
  induction l with
  | nil => rfl
  | cons i l ih =>
    show (noL i.d && noLs (dshelves l)) = true
    rw [ih]
    rfl
theorem noL_wishes (l : List Wish) : noLs (dwishes l) = true := by
  induction l with
  | nil => rfl
  | cons x l ih =>
    show (noL x.d && noLs (dwishes l)) = true
    rw [ih]
    show ((true && (true && (true && (true && (true && (noLs (dints x.after) && true)))))) && true) = true
    rw [noL_ints]
    rfl
theorem sql_del {K : PySem.W.Frag} {B : Hp} {r l : Addr} {xs zs : List V} (e : B r = some (.lst zs)) (n : xs ≠ zs) (h : SqL K B l xs) : SqL K (del1 B r) l xs := by
  rcases h with (h | ⟨o, h⟩) | h
  · refine .inl (.inl ?_)
    rw [del1_ne (fun z => by
      rw [z, e] at h
      cases h
      exact n rfl)]
    exact h
  · refine .inl (.inr ⟨o, ?_⟩)
    rw [del1_ne (fun z => by rw [z, e] at h; cases h)]
    exact h
  · exact .inr h
theorem no_int_tup {K : PySem.W.Frag} {B : Hp} {i : Int} {ds : List PyData} (h : Dp K B (.int i) (.tuple ds)) : False := by cases h
theorem not_row1 {K : PySem.W.Frag} {B : Hp} {x : V} {i : Int} {r : List V} {ss : List Shelf} (h : DpAll K B (x :: .int i :: r) (dshelves ss)) : False := by
  cases ss with
  | nil => cases h
  | cons s ss =>
    cases ss with
    | nil =>
      cases h with
      | cons _ h => cases h
    | cons s2 ss =>
      cases h with
      | cons _ h =>
        cases h with
        | cons h _ => exact no_int_tup h
theorem not_row2 {K : PySem.W.Frag} {B : Hp} {x : V} {i : Int} {r : List V} {ss : List Wish} (h : DpAll K B (x :: .int i :: r) (dwishes ss)) : False := by
  cases ss with
  | nil => cases h
  | cons s ss =>
    cases ss with
    | nil =>
      cases h with
      | cons _ h => cases h
    | cons s2 ss =>
      cases h with
      | cons _ h =>
        cases h with
        | cons h _ => exact no_int_tup h
theorem ob_del {K : PySem.W.Frag} {C : Addr} {H : Hp} {r p : Addr} {x : V} {i j : Int} {S : Sto} (e : H r = some (.lst [x, .int i, .int j])) (h : Ob K C H p S) : Ob K C (del1 H r) p S := by
  obtain ⟨dx, l, m, xs, ys, o⟩ := h
  refine ⟨dx, l, m, xs, ys, ?_, sql_del e (fun z => ?_) o.l, dps_del e o.dx (noL_shelves _), sql_del e (fun z => ?_) o.m, dps_del e o.dy (noL_wishes _)⟩
  · rw [del1_ne (fun z => by
      have q := o.o
      rw [z, e] at q
      cases q)]
    exact o.o
  · have q := o.dx
    rw [z] at q
    exact not_row1 q
  · have q := o.dy
    rw [z] at q
    exact not_row2 q
/-- the row is known, B is all but it -/
theorem row_all {K : PySem.W.Frag} {ρ : RowP} {B H H' : Hp} (R : RowSt K ρ B H) (s : Same H H') : RowSt K ρ (del1 H' ρ.r) H' ∧ Same B (del1 H' ρ.r) := by
  obtain ⟨n1, n2, e, g⟩ := R.row
  have z := same_del (R.same.trans s) R.free
  exact ⟨⟨fun b o h => by
    by_cases hb : b = ρ.r
    · rw [hb, del1_same] at h
      cases h
    · rw [del1_ne hb] at h
      exact h, del1_same, Same.l z R.scr, n1, n2, s _ _ e, g⟩, z⟩

theorem noL_sta (s : Sta) : noL s.d = true := by
  show (true && (noLs (dints s.done) && (noLs (dints s.inside) && (true && true)))) = true
  rw [noL_ints, noL_ints]
  rfl
/-! ### the rules' names -/
theorem ok_end : PyData.strOk "end" = true := by decide +kernel
theorem ok_sticks : PyData.strOk "sticks" = true := by decide +kernel
theorem ok_kept : PyData.strOk "kept" = true := by decide +kernel
theorem ok_is : PyData.strOk "is" = true := by decide +kernel
theorem ok_isnt : PyData.strOk "isnt" = true := by decide +kernel
theorem ok_done : PyData.strOk "done" = true := by decide +kernel
theorem ok_after : PyData.strOk "after" = true := by decide +kernel
theorem ok_crew : PyData.strOk "crew" = true := by decide +kernel
theorem ok_aisle : PyData.strOk "aisle" = true := by decide +kernel
theorem ok_empty : PyData.strOk "empty" = true := by decide +kernel
theorem ok_full : PyData.strOk "full" = true := by decide +kernel
def RuleOk : Option (Str × Int) → Prop
  | none => True
  | some (r, _) => PyData.strOk r = true
theorem bar_rule (S : Sto) (s : Sta) (t : Stp) : RuleOk (bar S s t) := by
  cases t with
  | wait => trivial
  | shift b =>
    show RuleOk (barShift S s b)
    unfold barShift
    dsimp only
    generalize (if b = 1 then s.aisle else s.aisle - 1) = sh
    split
    · split
      · trivial
      · split
        · exact ok_sticks
        · split
          · exact ok_in
          · split
            · exact ok_kept
            · trivial
    · exact ok_end
  | cin c =>
    show RuleOk (if c ∈ s.inside then some ("is", c) else none)
    split
    · exact ok_is
    · trivial
  | cout c =>
    show RuleOk (if c ∈ s.inside then none else some ("isnt", c))
    split
    · trivial
    · exact ok_isnt
  | wish n =>
    show RuleOk (barWish S s n)
    unfold barWish
    split
    · trivial
    · split
      · exact ok_done
      · split
        · exact ok_after
        · split
          · exact ok_crew
          · split
            · exact ok_aisle
            · unfold barLoad
              split
              · exact ok_empty
              · split
                · exact ok_full
                · trivial
theorem dbar_lay {o : Option (Str × Int)} (h : RuleOk o) : Lay 1 (dbar o) := by
  cases o with
  | none => exact lay_none
  | some rn =>
    obtain ⟨r, n⟩ := rn
    exact (Lays.cons (lay_str h) (Lays.cons lay_int lays_nil)).tup

/-! ## own errors: made, caught, asked -/
/-- a def that may raise, as its callers use it -/
structure CalX (P : Program) (w : World) (K : PySem.W.Frag) (mg : Str → Option Value) (base : Heap) (k : Nat) (x : Str) (ps : List Str) (sp : Sp) (f : Addr) (fd : FuncData) : Prop where
  G : FnOk P w K mg base (L2.CX P w) k f fd ps sp
  g : mg x = some (.ref f)
  kp : PySem.W.keepIn K (.ref f) = true
  b : Binds K fd ps []
theorem Dfs.calX {P : Program} {w : World} {K : PySem.W.Frag} {mg : Str → Option Value} {base : Heap} {k : Nat} {x : Str} {ps : List Str} {sp : Sp} {f : Addr} {fd : FuncData} {st : Stmt} (D : Dfs K mg x st ps f fd) (G : FnOk P w K mg base (L2.CX P w) k f fd ps sp) : CalX P w K mg base k x ps sp f fd := ⟨G, D.g, D.F.kp, D.b⟩
/-- an own error's class, as an except clause or isinstance names it -/
structure Xn (K : PySem.W.Frag) (mg : Str → Option Value) (x : Str) (C : Addr) : Prop where
  g : mg x = some (.ref C)
  kp : PySem.W.keepIn K (.ref C) = true
  exC : PySem.W.subIn K (.ref C) (.type "BaseException") = some true
  tyC : PySem.W.typeIn K (.ref C) = some (.type "type")
  isC : PySem.W.isClsIn K C = true
theorem kit_own {K : PySem.W.Frag} {C D : Addr} {b : Bool} (h2 : PySem.W.isClsIn K D = true) (h3 : PySem.W.typeIn K (.ref D) = some (.type "type")) (h4 : PySem.W.subIn K (.ref C) (.ref D) = some b) (h5 : PySem.W.subIn K (.ref C) (.ref C) = some true) : PySem.W.kitOne K (.ref C) (.ref D) = some b := by
  have e2 : ((PySem.W.clsIn K D).isSome && PySem.W.typeIn K (.ref D) == some (.type "type")) = true := by
    have h2' : (PySem.W.clsIn K D).isSome = true := h2
    rw [h2', h3] <;> rfl
  unfold PySem.W.kitOne
  split
  · rename_i q
    have e : C = D := Value.ref.inj (beq_iff_eq.mp q)
    subst e
    rw [h5] at h4
    exact h4
  · show (if ((PySem.W.clsIn K D).isSome && PySem.W.typeIn K (.ref D) == some (.type "type")) = true then PySem.W.subIn K (.ref C) (.ref D) else none) = some b
    rw [if_pos e2]
    exact h4
theorem kit_typ {K : PySem.W.Frag} {C : Addr} {b : Bool} (h4 : PySem.W.subIn K (.ref C) (.type "ValueError") = some b) : PySem.W.kitOne K (.ref C) (.type "ValueError") = some b := by
  unfold PySem.W.kitOne
  split
  · rename_i q
    cases beq_iff_eq.mp q
  · show (if PySem.W.kitMeta "ValueError" = true then PySem.W.subIn K (.ref C) (.type "ValueError") else none) = some b
    rw [if_pos (by decide +kernel)]
    exact h4
theorem exm_own {K : PySem.W.Frag} {C D : Addr} {b : Bool} (h1 : PySem.W.subIn K (.ref D) (.type "BaseException") = some true) (h2 : PySem.W.isClsIn K D = true) (h3 : PySem.W.typeIn K (.ref D) = some (.type "type")) (h4 : PySem.W.subIn K (.ref C) (.ref D) = some b) : PySem.W.exmOne K (.ref C) (.ref D) = some b := by
  have e1 : (PySem.W.subIn K (.ref D) (.type "BaseException") == some true) = true := by rw [h1] <;> rfl
  have e2 : ((PySem.W.clsIn K D).isSome && PySem.W.typeIn K (.ref D) == some (.type "type")) = true := by
    have h2' : (PySem.W.clsIn K D).isSome = true := h2
    rw [h2', h3] <;> rfl
  show (if (PySem.W.subIn K (.ref D) (.type "BaseException") == some true) = true then (if ((PySem.W.clsIn K D).isSome && PySem.W.typeIn K (.ref D) == some (.type "type")) = true then PySem.W.subIn K (.ref C) (.ref D) else none) else none) = some b
  rw [if_pos e1, if_pos e2]
  exact h4
/-- what the class D must say, so that isinstance asks its instances rightly -/
structure ExD (K : PySem.W.Frag) (D : Addr) : Prop where
  hc : PySem.W.isClsIn K D = true
  hg : PySem.W.findIn K (.ref D) "__getattribute__" = some (some (.builtin "BaseException.__getattribute__"))
  hk : PySem.W.findIn K (.ref D) "__getattr__" = some none
  hs : PySem.W.subIn K (.ref D) (.type "BaseException") = some true
  hd : PySem.W.hasDictIn K D = true
  ha : PySem.W.findIn K (.ref D) "__class__" = some (some (.builtin "object.__class__"))
  hn : PySem.W.specialIn K (.builtin "object.__class__") "__get__" = some (some (.builtin "getset_descriptor.__get__"))
  ht : PySem.W.takesIn K (.builtin "object.__class__") = some true
  hm : PySem.W.mroIn K D (.type "object") = some true
theorem ExD.xf {K : PySem.W.Frag} {D : Addr} (h : ExD K D) : XfC K D := ⟨h.hg, h.hk, h.hs, h.hd⟩
/-- the dict of the error that the suite holds -/
def XdAt (d : Option Addr) (H : Hp) : Prop := d = none ∨ ∃ dd fs, d = some dd ∧ H dd = some (.xd fs)
/-- isinstance(e, c), e the error that the suite holds -/
def rIsX (K : PySem.W.Frag) (a : Addr) (cls : Value) (d : Option Addr) : List V → Hp → VK → Prop := fun xs H Q => ∃ (c : V) (cv : Value) (D : Addr) (b : Bool), xs = [.ref a, c] ∧ ClsV c cv ∧ cls = .ref D ∧ ExD K D ∧ XdAt d H ∧ PySem.W.kitOne K (.ref D) cv = some b ∧ Q (.bl b) H
/-- isinstance(e, (c1, c2, ..)) -/
def rIsXT (K : PySem.W.Frag) (a : Addr) (cls : Value) (d : Option Addr) : List V → Hp → VK → Prop := fun xs H Q => ∃ (tp : Addr) (cs : List V) (us : List Value) (D : Addr) (b : Bool), xs = [.ref a, .ref tp] ∧ H tp = some (.tup cs) ∧ Paired ClsV cs us ∧ cls = .ref D ∧ ExD K D ∧ XdAt d H ∧ PySem.W.kitAny K (.ref D) us = some b ∧ Q (.bl b) H
section
variable {X : Cx} {a D : Addr} {oe : Obj} {cls : Value} {d : Option Addr} {pn : List (Addr × Obj)}
theorem exd_inst {pins : List (Addr × Obj)} {σ : L2.St} {H : Hp} {s : Shared} (hz : Zc (.ref D) d oe) (hf : ∃ vs, oe.data = .fields vs) (I : L2.Inv (X.suite a ((a, oe) :: pn)) pins σ H s) (hd : XdAt d H) : ∃ od, PySem.W.InstAt s.heap a oe D od := by
  obtain ⟨hget, _⟩ := I.pin (a, oe) (List.mem_append.mpr (.inl List.mem_cons_self))
  obtain ⟨vs, hv⟩ := hf
  rcases hd with e | ⟨dd, fs, e, ea⟩
  · refine ⟨none, ?_⟩
    obtain ⟨oc, od, oda, osl⟩ := oe
    obtain ⟨h1, h2⟩ := hz
    dsimp only at h1 h2 hv
    subst h1 h2 hv e
    exact ⟨hget, rfl, rfl, trivial⟩
  · subst e
    have hx : ObjOk X.prog X.w H s.heap dd (.xd fs) := I.hok dd _ ea
    obtain ⟨mA, hns, hr⟩ := hx
    obtain ⟨od, ho, hl⟩ := lookIn_ns hns
    exact ⟨some od, hget, hz.1, by unfold PySem.W.notCls; rw [hv] <;> rfl, by rw [hz.2]; exact ho⟩
theorem call_isX (hz : Zc cls d oe) (hf : ∃ vs, oe.data = .fields vs) : CallR (X.suite a ((a, oe) :: pn)) (.builtin "isinstance") (rIsX X.K a cls d) := by
  intro pins s σ H xs us Q I r h
  obtain ⟨c, cv, D, b, rfl, k, rfl, C, hd, e, q⟩ := h
  obtain ⟨u1, u2, rfl, r1, r2⟩ := vals2 r
  have e2 := k.eq r2
  subst e2
  cases (show u1 = Value.ref a from r1)
  obtain ⟨od, J⟩ := exd_inst hz hf I hd
  exact PySem.W.kia_one (PySem.W.kitx_exc C.hc C.hg C.hk C.hs C.ha C.hn C.ht C.hm) I.kIn J e (fun z => nomatch z) fun tk => ⟨.bl b, H, I.tok tk, rfl, q⟩
theorem call_isXT (hz : Zc cls d oe) (hf : ∃ vs, oe.data = .fields vs) : CallR (X.suite a ((a, oe) :: pn)) (.builtin "isinstance") (rIsXT X.K a cls d) := by
  intro pins s σ H xs us Q I r h
  obtain ⟨tp, cs, ws, D, b, rfl, hT, k, rfl, C, hd, e, q⟩ := h
  obtain ⟨u1, u2, rfl, r1, r2⟩ := vals2 r
  cases (show u1 = Value.ref a from r1)
  cases (show u2 = Value.ref tp from r2)
  obtain ⟨od, J⟩ := exd_inst hz hf I hd
  obtain ⟨_, its, rv, o, h1, h2, n, h3⟩ := (show ObjOk X.prog X.w H s.heap tp (.tup cs) from I.hok tp _ hT)
  have e3 := ClsV.all k rv
  subst e3
  obtain ⟨oc, od', dt, sl⟩ := o
  simp only at h2 h3
  subst h2 h3
  exact PySem.W.kia_tup (PySem.W.kitx_exc C.hc C.hg C.hk C.hs C.ha C.hn C.ht C.hm) I.kIn J h1 e (fun z => nomatch z) fun tk => ⟨.bl b, H, I.tok tk, rfl, q⟩
end
/-- an own error of two fields -/
structure Xi2 (P : Program) (w : World) (K : PySem.W.Frag) (mg : Str → Option Value) (base : Heap) (C fI : Addr) (fd : FuncData) (f1 f2 : Str) (sp : Sp) : Prop where
  T : OexC K C
  D : ExD K C
  iC : PySem.W.findIn K (.ref C) "__init__" = some (some (.ref fI))
  tI : PySem.W.typeIn K (.ref fI) = some (.type "function")
  n1 : PySem.W.findIn K (.ref C) f1 = some none
  n2 : PySem.W.findIn K (.ref C) f2 = some none
  b : Binds K fd ["self", f1, f2] []
  G : FnOk P w K mg base CX0 1 fI fd ["self", f1, f2] sp
def spX2 (K : PySem.W.Frag) (C : Addr) (f1 f2 : Str) : Sp := fun vs H Q _ => ∃ (a : Addr) (x y : V), vs = [.ref a, x, y] ∧ OexC K C ∧ H a = some (exo a C none) ∧ ∀ dx, H dx = none → dx ≠ a → Q .non (upd (upd (upd H dx (exd dx [(f1, x)])) a (exo a C (some dx))) dx (exd dx [(f2, y), (f1, x)]))
theorem mk2 {K : PySem.W.Frag} {C : Addr} {f1 f2 : Str} {H : Hp} {x y : V} {Q : XK} (T : OexC K C) (q : ∀ d H', Same H H' → H d = none → H' d = some (.xd [(f2, y), (f1, x)]) → Q (.ref C) (some d) H') :
    [x, y].length ≤ 1000 ∧ ∀ a, H a = none → spX2 K C f1 f2 (.ref a :: ([x, y] ++ [])) (upd H a (exo a C none))
      (fun v H2 => v = .non ∧ ∃ (d : Addr) (fs : List (Str × V)), H2 a = some (exo a C (some d)) ∧ H2 d = some (exd d fs) ∧ H d = none ∧ Q (.ref C) (some d) (upd (L2.del H2 a) d (.xd fs))) (fun _ _ _ => False) := by
  refine ⟨by simp, fun a na => ⟨a, x, y, rfl, T, upd_same, fun dx ndx ne => ⟨rfl, dx, [(f2, y), (f1, x)], ?_, upd_same, ?_, q dx _ ?_ ?_ upd_same⟩⟩⟩
  · rw [upd_ne (Ne.symm ne), upd_same]
  · rw [upd_ne ne] at ndx
    exact ndx
  · intro b o h
    have h1 : b ≠ a := ne_of_none h na
    have h2 : b ≠ dx := fun z => by
      rw [z] at h
      rw [upd_ne ne, h] at ndx
      cases ndx
    rw [upd_ne h2, del_ne h1, upd_ne h2, upd_ne h1, upd_ne h2, upd_ne h1]
    exact h
  · rw [upd_ne ne] at ndx
    exact ndx

/-! ### expressions that only lay data down: what they give -/
def EvD (K : PySem.W.Frag) (σ : L2.St) (H : Hp) (t : TE) (d : PyData) : Prop := ∀ (H' : Hp) (Q : VK), Same H H' → (∀ v H'', Same H' H'' → Dp K H'' v d → Q v H'') → t σ H' Q
def Evs (K : PySem.W.Frag) (σ : L2.St) (H : Hp) (t : TA) (ds : List PyData) : Prop := ∀ (H' : Hp) (Q : List V → Hp → Prop), Same H H' → (∀ vs H'', Same H' H'' → DpAll K H'' vs ds → Q vs H'') → t σ H' Q
/-- a list of this walk's own -/
def EvR (K : PySem.W.Frag) (σ : L2.St) (H : Hp) (t : TE) (ds : List PyData) : Prop := ∀ (H' : Hp) (Q : VK), Same H H' → (∀ a xs H'', Same H' H'' → H'' a = some (.lst xs) → DpAll K H'' xs ds → Q (.ref a) H'') → t σ H' Q
/-- .. that is new -/
def EvL (K : PySem.W.Frag) (σ : L2.St) (H : Hp) (t : TE) (ds : List PyData) : Prop := ∀ (H' : Hp) (Q : VK), Same H H' → (∀ a xs H'', Same H' H'' → H' a = none → H'' a = some (.lst xs) → DpAll K H'' xs ds → Q (.ref a) H'') → t σ H' Q
section
variable {K : PySem.W.Frag} {σ : L2.St} {H : Hp}
theorem EvD.mono {H' : Hp} {t : TE} {d : PyData} (s : Same H H') (h : EvD K σ H t d) : EvD K σ H' t d := fun H2 Q s2 q => h H2 Q (s.trans s2) q
theorem ev_int {i : Int} : EvD K σ H (tC (.int i)) (.int i) := fun H' Q _ q => q _ H' (Same.refl _) (.int i)
theorem ev_str {i : Str} : EvD K σ H (tC (.str i)) (.str i) := fun H' Q _ q => q _ H' (Same.refl _) (.str i)
theorem ev_varI {k : Nat} {i : Int} (h : σ[k]? = some (some (.int i))) : EvD K σ H (tVar k) (.int i) := fun H' Q _ q => ⟨_, h, q _ H' (Same.refl _) (.int i)⟩
theorem ev_varS {k : Nat} {i : Str} (h : σ[k]? = some (some (.str i))) : EvD K σ H (tVar k) (.str i) := fun H' Q _ q => ⟨_, h, q _ H' (Same.refl _) (.str i)⟩
theorem ev_var {k : Nat} {v : V} {d : PyData} (h : σ[k]? = some (some v)) (hd : Dp K H v d) : EvD K σ H (tVar k) d := fun H' Q s q => ⟨_, h, q _ H' (Same.refl _) (dp_mono s hd)⟩
theorem ev_op {f : Int → Int → Int} {ta tb : TE} {i j : Int} (ha : EvD K σ H ta (.int i)) (hb : EvD K σ H tb (.int j)) : EvD K σ H (tOp (rI0 fun i j => V.int (f i j)) ta tb) (.int (f i j)) := fun H' Q s q => ha H' _ s fun v H1 s1 d1 => hb H1 _ (s.trans s1) fun u H2 s2 d2 => by
  rw [dp_int d1, dp_int d2]
  exact ⟨i, j, rfl, rfl, q _ H2 (s1.trans s2) (.int _)⟩
theorem ev_add {ta tb : TE} {i j : Int} (ha : EvD K σ H ta (.int i)) (hb : EvD K σ H tb (.int j)) : EvD K σ H (tOp (rI0 fun i j => V.int (i + j)) ta tb) (.int (i + j)) := ev_op (f := fun i j => i + j) ha hb
theorem ev_sub {ta tb : TE} {i j : Int} (ha : EvD K σ H ta (.int i)) (hb : EvD K σ H tb (.int j)) : EvD K σ H (tOp (rI0 fun i j => V.int (i - j)) ta tb) (.int (i - j)) := ev_op (f := fun i j => i - j) ha hb
theorem ev_neg {ta : TE} {i : Int} (ha : EvD K σ H ta (.int i)) : EvD K σ H (tUn (rU fun i => V.int (-i)) ta) (.int (-i)) := fun H' Q s q => ha H' _ s fun v H1 s1 d1 => by
  rw [dp_int d1]
  exact ⟨i, rfl, q _ H1 s1 (.int _)⟩
theorem evs_nil : Evs K σ H tNil [] := fun H' Q _ q => q [] H' (Same.refl _) .nil
theorem evs_cons {ta : TE} {tr : TA} {d : PyData} {ds : List PyData} (ha : EvD K σ H ta d) (hr : Evs K σ H tr ds) : Evs K σ H (tCons ta tr) (d :: ds) := fun H' Q s q => ha H' _ s fun v H1 s1 d1 => hr H1 _ (s.trans s1) fun vs H2 s2 d2 => q _ H2 (s1.trans s2) (.cons (dp_mono s2 d1) d2)
theorem ev_tup {ta : TA} {ds : List PyData} (ha : Evs K σ H ta ds) (hl : ds.length ≤ 1000 := by exact Nat.le_of_ble_eq_true rfl) : EvD K σ H (tTup ta) (.tuple ds) := fun H' Q s q => ha H' _ s fun vs H1 s1 d1 => ⟨small (by rw [dps_len d1]; exact hl), fun p np =>
  q _ _ (s1.trans (same_new np)) (.tup tup_new (dps_mono (same_new np) d1))⟩
theorem evl_lst {ta : TA} {ds : List PyData} (ha : Evs K σ H ta ds) (hl : ds.length ≤ 1000 := by exact Nat.le_of_ble_eq_true rfl) : EvL K σ H (tLst ta) ds := fun H' Q s q => ha H' _ s fun vs H1 s1 d1 => ⟨small (by rw [dps_len d1]; exact hl), fun p np =>
  q _ _ _ (s1.trans (same_new np)) (s1.free np) upd_same (dps_mono (same_new np) d1)⟩
theorem EvL.r {t : TE} {ds : List PyData} (h : EvL K σ H t ds) : EvR K σ H t ds := fun H' Q s q => h H' Q s fun a xs H'' s1 _ e d => q a xs H'' s1 e d
theorem EvL.d {t : TE} {ds : List PyData} (h : EvL K σ H t ds) : EvD K σ H t (.list ds) := fun H' Q s q => h H' Q s fun a xs H'' s1 _ e d => q _ H'' s1 (.lst (SqL.of e) d)
theorem evr_var {k : Nat} {a : Addr} {xs : List V} {ds : List PyData} (h : σ[k]? = some (some (.ref a))) (e : H a = some (.lst xs)) (hd : DpAll K H xs ds) : EvR K σ H (tVar k) ds := fun H' Q s q => ⟨_, h, q _ xs H' (Same.refl _) (s _ _ e) (dps_mono s hd)⟩
theorem evl_cat {ta tb : TE} {ds es : List PyData} (ha : EvR K σ H ta ds) (hb : EvR K σ H tb es) (hl : ds.length + es.length ≤ 1000) : EvL K σ H (tOp rCat ta tb) (ds ++ es) := fun H' Q s q => ha H' _ s fun a xs H1 s1 e1 d1 => hb H1 _ (s.trans s1) fun b ys H2 s2 e2 d2 =>
  ⟨a, b, xs, ys, rfl, rfl, s2 _ _ e1, e2, small (by rw [dps_len d1, dps_len d2]; exact hl), fun p np => q _ _ _ ((s1.trans s2).trans (same_new np)) ((s1.trans s2).free np) upd_same (dps_mono (same_new np) (dps_app (dps_mono s2 d1) d2))⟩
theorem dps_rep {H : Hp} {xs : List V} {ds : List PyData} (h : DpAll K H xs ds) : ∀ k : Nat, DpAll K H (List.replicate k xs).flatten (List.replicate k ds).flatten
  | 0 => .nil
  | k + 1 => by
    rw [List.replicate_succ, List.replicate_succ, List.flatten_cons, List.flatten_cons]
    exact dps_app h (dps_rep h k)
theorem evl_rep {ta tb : TE} {ds : List PyData} {k : Int} (ha : EvR K σ H ta ds) (hb : EvD K σ H tb (.int k)) (h0 : 0 ≤ k) (h1 : k ≤ 1000) (hl : ds.length * k.toNat ≤ 1000) : EvL K σ H (tOp rRep ta tb) (List.replicate k.toNat ds).flatten := fun H' Q s q => ha H' _ s fun a xs H1 s1 e1 d1 => hb H1 _ (s.trans s1) fun v H2 s2 d2 => by
  rw [dp_int d2]
  refine ⟨a, k, xs, rfl, rfl, s2 _ _ e1, by omega, by omega, small (by rw [dps_len d1]; exact hl), fun p np => q _ _ _ ((s1.trans s2).trans (same_new np)) ((s1.trans s2).free np) upd_same (dps_mono (s2.trans (same_new np)) (dps_rep d1 _))⟩
theorem evr_of {t : TE} {ds es : List PyData} (h : EvR K σ H t ds) (e : ds = es) : EvR K σ H t es := e ▸ h
theorem ev_of {t : TE} {d e : PyData} (h : EvD K σ H t d) (q : d = e) : EvD K σ H t e := q ▸ h
theorem EvL.go {t : TE} {ds : List PyData} {H' : Hp} {Q : VK} (h : EvL K σ H t ds) (s : Same H H') (q : ∀ a xs H'', Same H' H'' → H' a = none → H'' a = some (.lst xs) → DpAll K H'' xs ds → Q (.ref a) H'') : t σ H' Q := h H' Q s q
theorem EvD.go {t : TE} {d : PyData} {H' : Hp} {Q : VK} (h : EvD K σ H t d) (s : Same H H') (q : ∀ v H'', Same H' H'' → Dp K H'' v d → Q v H'') : t σ H' Q := h H' Q s q
theorem Evs.go {t : TA} {ds : List PyData} {H' : Hp} {Q : List V → Hp → Prop} (h : Evs K σ H t ds) (s : Same H H') (q : ∀ vs H'', Same H' H'' → DpAll K H'' vs ds → Q vs H'') : t σ H' Q := h H' Q s q
theorem EvL.set {t : TE} {ds : List PyData} {H' : Hp} {i : Nat} {tr : TS} {D : Ends} (h : EvL K σ H t ds) (s : Same H H') (q : ∀ a xs H'', Same H' H'' → H' a = none → H'' a = some (.lst xs) → DpAll K H'' xs ds → tr D (σ.set i (some (.ref a))) H'') : tSeq (tAsg t (gName i)) tr D σ H' := h H' _ s q
theorem EvL.asg {t : TE} {ds : List PyData} {H' : Hp} {i : Nat} {D : Ends} (h : EvL K σ H t ds) (s : Same H H') (q : ∀ a xs H'', Same H' H'' → H' a = none → H'' a = some (.lst xs) → DpAll K H'' xs ds → D.nx (σ.set i (some (.ref a))) H'') : tAsg t (gName i) D σ H' := h H' _ s q
theorem EvD.set {t : TE} {d : PyData} {H' : Hp} {i : Nat} {tr : TS} {D : Ends} (h : EvD K σ H t d) (s : Same H H') (q : ∀ v H'', Same H' H'' → Dp K H'' v d → tr D (σ.set i (some v)) H'') : tSeq (tAsg t (gName i)) tr D σ H' := h H' _ s q
theorem EvD.asg {t : TE} {d : PyData} {H' : Hp} {i : Nat} {D : Ends} (h : EvD K σ H t d) (s : Same H H') (q : ∀ v H'', Same H' H'' → Dp K H'' v d → D.nx (σ.set i (some v)) H'') : tAsg t (gName i) D σ H' := h H' _ s q
theorem EvD.ret {t : TE} {d : PyData} {H' : Hp} {D : Ends} (h : EvD K σ H t d) (s : Same H H') (q : ∀ v H'', Same H' H'' → Dp K H'' v d → D.rt v H'') : tRet t D σ H' := h H' _ s q
theorem ev_bool {b : Bool} : EvD K σ H (tC (.bl b)) (.bool b) := fun H' Q _ q => q _ H' (Same.refl _) (.bl b)
theorem cut_ft (xs : List V) (i j : Nat) : cutV xs (some (i : Int)) (some (j : Int)) = (xs.drop i).take (j - i) := by
  unfold cutV
  rw [HT.sIx_nat, HT.sIx_nat]
  refine List.ext_getElem? fun k => ?_
  rw [List.getElem?_take, List.getElem?_take, List.getElem?_drop, List.getElem?_drop]
  by_cases h1 : i ≤ xs.length
  · rw [Nat.min_eq_left h1]
    by_cases h2 : k < j - i
    · rw [if_pos h2]
      by_cases h3 : k < min j xs.length - i
      · rw [if_pos h3]
      · rw [if_neg h3, List.getElem?_eq_none (by omega)]
    · rw [if_neg h2, if_neg (by omega)]
  · rw [List.getElem?_eq_none (l := xs) (i := i + k) (by omega), if_neg (by omega)]
    split <;> rfl
theorem cut_t (xs : List V) (j : Nat) : cutV xs none (some (j : Int)) = xs.take j := by
  have e := cut_ft xs 0 j
  rw [List.drop_zero, Nat.sub_zero] at e
  rw [← e]
  unfold cutV
  rw [HT.sIx_none, HT.sIx_nat _ _ 0]
  simp
theorem dps_drop {vs : List V} {ds : List PyData} (h : DpAll K H vs ds) : ∀ n : Nat, DpAll K H (vs.drop n) (ds.drop n)
  | 0 => h
  | n + 1 => by
    cases ds with
    | nil =>
      rw [dps_nil h]
      exact .nil
    | cons d ds =>
      obtain ⟨x, r, rfl, _, hr⟩ := dps_cons h
      exact dps_drop hr n
/-- l[:j], l a list -/
theorem evl_to {k : Nat} {a : Addr} {xs : List V} {ds : List PyData} {j : Nat} {tj : TE} (h : σ[k]? = some (some (.ref a))) (hl : SqL K H a xs) (hd : DpAll K H xs ds) (hj : EvD K σ H tj (.int (j : Int))) : EvL K σ H (tSl (rSlL K) (tVar k) tNoPart (tPart tj)) (ds.take j) := fun H' Q s q =>
  ⟨_, h, hj H' _ s fun v H2 s2 d2 => ⟨(j : Int), dp_int d2, a, xs, rfl, Same.l (s.trans s2) hl, fun p np => by
    rw [cut_t]
    exact q p _ _ (s2.trans (same_new np)) (s2.free np) upd_same (dps_mono ((s.trans s2).trans (same_new np)) (dps_take hd j))⟩⟩
/-- l[i:j] -/
theorem evl_ft {k : Nat} {a : Addr} {xs : List V} {ds : List PyData} {i j : Nat} {ti tj : TE} (h : σ[k]? = some (some (.ref a))) (hl : SqL K H a xs) (hd : DpAll K H xs ds) (hi : EvD K σ H ti (.int (i : Int))) (hj : EvD K σ H tj (.int (j : Int))) : EvL K σ H (tSl (rSlL K) (tVar k) (tPart ti) (tPart tj)) ((ds.drop i).take (j - i)) := fun H' Q s q =>
  ⟨_, h, hi H' _ s fun u H1 s1 d1 => ⟨(i : Int), dp_int d1, hj H1 _ (s.trans s1) fun v H2 s2 d2 => ⟨(j : Int), dp_int d2, a, xs, rfl, Same.l ((s.trans s1).trans s2) hl, fun p np => by
    rw [cut_ft]
    exact q p _ _ ((s1.trans s2).trans (same_new np)) ((s1.trans s2).free np) upd_same (dps_mono (((s.trans s1).trans s2).trans (same_new np)) (dps_take (dps_drop hd i) _))⟩⟩⟩
/-- len(l) -/
theorem ev_len {k : Nat} {a : Addr} {xs : List V} {n : Int} (h : σ[k]? = some (some (.ref a))) (hl : SqL K H a xs) (e : (xs.length : Int) = n) : EvD K σ H (tCB (rLen K) (tCons (tVar k) tNil)) (.int n) := fun H' Q s q =>
  ⟨_, h, a, xs, rfl, .inl (Same.l s hl), by rw [e]; exact q _ H' (Same.refl _) (.int _)⟩
theorem ev_min {ta tb : TE} {i j : Int} (ha : EvD K σ H ta (.int i)) (hb : EvD K σ H tb (.int j)) : EvD K σ H (tCB (fun xs H Q => ∃ i j, xs = [V.int i, V.int j] ∧ Q (V.int (if j < i then j else i)) H) (tCons ta (tCons tb tNil))) (.int (min i j)) := fun H' Q s q => ha H' _ s fun v H1 s1 d1 => hb H1 _ (s.trans s1) fun u H2 s2 d2 => by
  rw [dp_int d1, dp_int d2]
  refine ⟨i, j, rfl, ?_⟩
  have e : (if j < i then j else i) = min i j := by split <;> omega
  rw [e]
  exact q _ H2 (s1.trans s2) (.int _)
theorem ev_eqI {ta tb : TE} {i j : Int} (ha : EvD K σ H ta (.int i)) (hb : EvD K σ H tb (.int j)) : EvD K σ H (tOp rEq ta tb) (.bool (decide (i = j))) := fun H' Q s q => ha H' _ s fun v H1 s1 d1 => hb H1 _ (s.trans s1) fun u H2 s2 d2 => by
  rw [dp_int d1, dp_int d2]
  refine ⟨rfl, ?_⟩
  have e : decide (V.int i = V.int j) = decide (i = j) := by
    by_cases h : i = j
    · rw [h, decide_eq_true rfl, decide_eq_true rfl]
    · rw [decide_eq_false h, decide_eq_false (ine h)]
  rw [e]
  exact q _ H2 (s1.trans s2) (.bl _)
theorem ev_ltI {ta tb : TE} {i j : Int} (ha : EvD K σ H ta (.int i)) (hb : EvD K σ H tb (.int j)) : EvD K σ H (tOp (rI0 fun i j => V.bl (decide (i < j))) ta tb) (.bool (decide (i < j))) := fun H' Q s q => ha H' _ s fun v H1 s1 d1 => hb H1 _ (s.trans s1) fun u H2 s2 d2 => by
  rw [dp_int d1, dp_int d2]
  exact ⟨i, j, rfl, rfl, q _ H2 (s1.trans s2) (.bl _)⟩
theorem ev_andB {ta tb : TE} {b c : Bool} (ha : EvD K σ H ta (.bool b)) (hb : EvD K σ H tb (.bool c)) : EvD K σ H (tAndV ta tb) (.bool (b && c)) := fun H' Q s q => ha H' _ s fun v H1 s1 d1 => by
  rw [dp_bool d1]
  refine ⟨b, rfl, ?_⟩
  cases b with
  | true => exact iteT (hb H1 _ (s.trans s1) fun u H2 s2 d2 => q _ H2 (s1.trans s2) d2)
  | false => exact iteF (q _ H1 s1 (.bl _))
theorem ev_intB {ta : TE} {b : Bool} (ha : EvD K σ H ta (.bool b)) : EvD K σ H (tCB (fun xs H Q => (∃ i, xs = [V.int i] ∧ Q (V.int i) H) ∨ ∃ k, xs = [V.bl k] ∧ Q (V.int (if k = true then 1 else 0)) H) (tCons ta tNil)) (.int (if b = true then 1 else 0)) := fun H' Q s q => ha H' _ s fun v H1 s1 d1 => by
  rw [dp_bool d1]
  exact .inr ⟨b, rfl, q _ H1 s1 (.int _)⟩
/-- (x,) * 6 and the like -/
theorem ev_repT {ta tb : TE} {ds : List PyData} {k : Int} (ha : EvD K σ H ta (.tuple ds)) (hb : EvD K σ H tb (.int k)) (h0 : 2 ≤ k) (h1 : k ≤ 1000) (ne : ds ≠ []) (hl : ds.length ≤ 1000) : EvD K σ H (tOp (rRepT K) ta tb) (.tuple (List.replicate k.toNat ds).flatten) := fun H' Q s q => ha H' _ s fun v H1 s1 d1 => hb H1 _ (s.trans s1) fun u H2 s2 d2 => by
  obtain ⟨a, xs, rfl, e1, dx⟩ := dp_tup d1
  rw [dp_int d2]
  have lx := dps_len dx
  refine ⟨a, k, xs, rfl, rfl, Same.t s2 e1, fun z => ne (List.eq_nil_of_length_eq_zero (by rw [← lx, z]; rfl)), h0, h1, by omega, fun p np => q _ _ ((s1.trans s2).trans (same_new np)) (.tup tup_new (dps_mono (s2.trans (same_new np)) (dps_rep dx _)))⟩
/-- [..][i], the list new -/
theorem ev_ixL {ta tb : TE} {ds : List PyData} {i : Int} {d : PyData} (ha : EvR K σ H ta ds) (hb : EvD K σ H tb (.int i)) (h0 : 0 ≤ i) (hd : ds[i.toNat]? = some d) : EvD K σ H (tOp (rIxL K) ta tb) d := fun H' Q s q => ha H' _ s fun a xs H1 s1 e1 d1 => hb H1 _ (s.trans s1) fun u H2 s2 d2 => by
  rw [dp_int d2]
  obtain ⟨x, hx, dx⟩ := dps_get d1 hd
  exact ⟨a, xs, i, x, rfl, rfl, SqL.of (s2 _ _ e1), at_of (j := i.toNat) (by omega) hx, q x H2 (s1.trans s2) (dp_mono s2 dx)⟩
theorem EvL.of {t : TE} {ds es : List PyData} (h : EvL K σ H t ds) (e : ds = es) : EvL K σ H t es := e ▸ h
theorem EvL.thn {t u : TE} {r : R2} {ds : List PyData} {H' : Hp} {Q : VK} (h : EvL K σ H t ds) (s : Same H H') (q : ∀ a xs H'', Same H' H'' → H' a = none → H'' a = some (.lst xs) → DpAll K H'' xs ds → u σ H'' (fun y H2 => r (.ref a) y H2 Q)) : tOp r t u σ H' Q := h H' _ s q
theorem EvL.cons {t : TE} {ds : List PyData} {H' : Hp} {tr : TA} {Q : List V → Hp → Prop} (h : EvL K σ H t ds) (s : Same H H') (q : ∀ a xs H'', Same H' H'' → H' a = none → H'' a = some (.lst xs) → DpAll K H'' xs ds → tr σ H'' fun vs H2 => Q (.ref a :: vs) H2) : tCons t tr σ H' Q := h H' _ s q
theorem EvD.cons {t : TE} {d : PyData} {H' : Hp} {tr : TA} {Q : List V → Hp → Prop} (h : EvD K σ H t d) (s : Same H H') (q : ∀ v H'', Same H' H'' → Dp K H'' v d → tr σ H'' fun vs H2 => Q (v :: vs) H2) : tCons t tr σ H' Q := h H' _ s q
/-- a draw, its bound an expression -/
theorem taken_go {ρ : RowP} {B : Hp} {k : Nat} {e : TE} {n : Int} {Q : VK} (R : RowSt K ρ B H) (hk : σ[k]? = some (some (.ref ρ.r))) (he : EvD K σ H e (.int n)) (hn : 0 < n) (q : ∀ z H', 0 ≤ z → z < n → RowSt K ρ B H' → Q (.int z) H') : tCall (spTaken K) [] E0 (tCons (tVar k) (tCons e tNil)) σ H Q :=
  ⟨_, hk, he H _ (Same.refl _) fun v H1 s1 d1 => by
    rw [dp_int d1]
    exact ⟨ρ, n, B, rfl, hn, R.pure s1, fun z H' z0 z1 R' => q z H' z0 z1 R'⟩⟩
/-- one of a new list, by a draw -/
theorem draw_ix {ρ : RowP} {B : Hp} {k : Nat} {t e : TE} {n : Int} {ds : List PyData} {Q : VK} (R : RowSt K ρ B H) (hk : σ[k]? = some (some (.ref ρ.r))) (h : EvL K σ H t ds) (he : EvD K σ H e (.int n)) (hn : n = ds.length) (hp : 0 < n) (nl : noLs ds = true)
    (q : ∀ (i : Nat) d v H', ds[i]? = some d → RowSt K ρ (del1 H' ρ.r) H' → Same B (del1 H' ρ.r) → Dp K (del1 H' ρ.r) v d → Q v H') : tOp (rIxL K) t (tCall (spTaken K) [] E0 (tCons (tVar k) (tCons e tNil))) σ H Q := by
  refine EvL.thn h (Same.refl _) fun a xs H1 s1 na e1 d1 => ?_
  obtain ⟨R1, s01⟩ := row_all R s1
  obtain ⟨n1, n2, er, _⟩ := (R.pure s1).row
  have hra := R.nr na
  refine ⟨_, hk, he H1 _ s1 fun v H2 s2 d2 => ?_⟩
  rw [dp_int d2]
  refine ⟨ρ, n, _, rfl, hp, R1.pure s2, fun z H3 z0 z1 R3 => ?_⟩
  have lx := dps_len d1
  obtain ⟨v, hat, hv, _⟩ := atI_mem (xs := xs) z0 (by omega)
  have d1' := dps_del er d1 nl
  obtain ⟨d, hd, dv⟩ := dps_of_get d1' hv
  obtain ⟨R4, s34⟩ := row_all R3 (Same.refl _)
  exact ⟨a, xs, z, v, rfl, rfl, SqL.of (R3.same _ _ (by rw [del1_ne (Ne.symm hra)]; exact e1)), hat, q z.toNat d v H3 hd R4 (s01.trans s34) (dp_mono s34 dv)⟩
theorem draw_cons {ρ : RowP} {B : Hp} {k : Nat} {t e : TE} {n : Int} {ds : List PyData} {tr : TA} {Q : List V → Hp → Prop} (R : RowSt K ρ B H) (hk : σ[k]? = some (some (.ref ρ.r))) (h : EvL K σ H t ds) (he : EvD K σ H e (.int n)) (hn : n = ds.length) (hp : 0 < n) (nl : noLs ds = true)
    (q : ∀ (i : Nat) d v H', ds[i]? = some d → RowSt K ρ (del1 H' ρ.r) H' → Same B (del1 H' ρ.r) → Dp K (del1 H' ρ.r) v d → tr σ H' fun vs H2 => Q (v :: vs) H2) : tCons (tOp (rIxL K) t (tCall (spTaken K) [] E0 (tCons (tVar k) (tCons e tNil)))) tr σ H Q :=
  draw_ix (Q := fun v H1 => tr σ H1 fun vs H2 => Q (v :: vs) H2) R hk h he hn hp nl q
theorem draw_asg {ρ : RowP} {B : Hp} {k i : Nat} {t e : TE} {n : Int} {ds : List PyData} {D : Ends} (R : RowSt K ρ B H) (hk : σ[k]? = some (some (.ref ρ.r))) (h : EvL K σ H t ds) (he : EvD K σ H e (.int n)) (hn : n = ds.length) (hp : 0 < n) (nl : noLs ds = true)
    (q : ∀ (j : Nat) d v H', ds[j]? = some d → RowSt K ρ (del1 H' ρ.r) H' → Same B (del1 H' ρ.r) → Dp K (del1 H' ρ.r) v d → D.nx (σ.set i (some v)) H') : tAsg (tOp (rIxL K) t (tCall (spTaken K) [] E0 (tCons (tVar k) (tCons e tNil)))) (gName i) D σ H :=
  draw_ix (Q := fun v H1 => D.nx (σ.set i (some v)) H1) R hk h he hn hp nl q
theorem taken_asg {ρ : RowP} {B : Hp} {k i : Nat} {e : TE} {n : Int} {D : Ends} (R : RowSt K ρ B H) (hk : σ[k]? = some (some (.ref ρ.r))) (he : EvD K σ H e (.int n)) (hn : 0 < n) (q : ∀ z H', 0 ≤ z → z < n → RowSt K ρ B H' → D.nx (σ.set i (some (.int z))) H') : tAsg (tCall (spTaken K) [] E0 (tCons (tVar k) (tCons e tNil))) (gName i) D σ H :=
  taken_go (Q := fun v H1 => D.nx (σ.set i (some v)) H1) R hk he hn q
end

/-! ## what may stand in a plan: tuples of texts and numbers -/
def ItemD (e : PyData) : Prop := (∃ y : Str, e = .str y ∧ PyData.strOk y = true ∧ y.length ≤ 100) ∨ ∃ i : Int, e = .int i ∧ i.natAbs.log2 < 1920
def StepD (d : PyData) : Prop := ∃ ds, d = .tuple ds ∧ ds.length ≤ 5 ∧ ∀ e ∈ ds, ItemD e
theorem item_eqv {d e : PyData} (hd : ItemD d) (he : ItemD e) (h : PyData.eqv d e = true) : d = e := by
  rcases hd with ⟨x, rfl, _⟩ | ⟨i, rfl, _⟩
  · rcases he with ⟨y, rfl, _⟩ | ⟨j, rfl, _⟩
    · unfold PyData.eqv at h
      rw [beq_iff_eq.mp h]
    · unfold PyData.eqv at h
      cases h
  · rcases he with ⟨y, rfl, _⟩ | ⟨j, rfl, _⟩
    · unfold PyData.eqv at h
      cases h
    · unfold PyData.eqv at h
      rw [beq_iff_eq.mp h]
theorem items_eqv : ∀ {ds es : List PyData}, (∀ e ∈ ds, ItemD e) → (∀ e ∈ es, ItemD e) → PyData.eqvAll ds es = true → ds = es
  | [], [], _, _, _ => rfl
  | [], _ :: _, _, _, h => by
    unfold PyData.eqvAll at h
    cases h
  | _ :: _, [], _, _, h => by
    unfold PyData.eqvAll at h
    cases h
  | d :: ds, e :: es, h1, h2, h => by
    unfold PyData.eqvAll at h
    obtain ⟨a, b⟩ := Bool.and_eq_true_iff.mp h
    rw [item_eqv (h1 d List.mem_cons_self) (h2 e List.mem_cons_self) a, items_eqv (fun z hz => h1 z (List.mem_cons_of_mem _ hz)) (fun z hz => h2 z (List.mem_cons_of_mem _ hz)) b]
theorem stepD_eqv {d e : PyData} (hd : StepD d) (he : StepD e) (h : PyData.eqv d e = true) : d = e := by
  obtain ⟨ds, rfl, _, h1⟩ := hd
  obtain ⟨es, rfl, _, h2⟩ := he
  unfold PyData.eqv at h
  rw [items_eqv h1 h2 h]
theorem StepD.lay {d : PyData} (h : StepD d) : Lay 1 d := by
  obtain ⟨ds, rfl, _, h⟩ := h
  refine (Lays.all fun e he => ?_).tup
  rcases h e he with ⟨y, rfl, hy, _⟩ | ⟨i, rfl, _⟩
  · exact lay_str hy
  · exact lay_int
theorem wlen_wait : ("wait" : Str).length ≤ 100 := by decide +kernel
theorem wlen_shift : ("shift" : Str).length ≤ 100 := by decide +kernel
theorem wlen_in : ("in" : Str).length ≤ 100 := by decide +kernel
theorem wlen_out : ("out" : Str).length ≤ 100 := by decide +kernel
theorem wlen_do : ("do" : Str).length ≤ 100 := by decide +kernel
theorem log_small {i : Int} (h : i.natAbs < 2 ^ 1000) : i.natAbs.log2 < 1920 := by
  by_cases z : i.natAbs = 0
  · rw [z]
    decide
  · have := (Nat.log2_lt z).mpr h
    omega
theorem pow_big : (10 ^ 8 : Nat) < 2 ^ 1000 := by decide +kernel
theorem item_int {i : Int} (h0 : -100000000 ≤ i) (h1 : i ≤ 100000000) : ItemD (.int i) := .inr ⟨i, rfl, log_small (by
  have := pow_big
  have e : i.natAbs ≤ 10 ^ 8 := by omega
  exact Nat.lt_of_le_of_lt e this)⟩
theorem stp_stepD {m : Int} (hm : m ≤ 1000) {t : Stp} (h : StpOk m t) : StepD t.d := by
  cases t with
  | wait => exact ⟨_, rfl, by decide, fun e he => by rw [List.mem_singleton] at he; rw [he]; exact .inl ⟨_, rfl, ok_wait, wlen_wait⟩⟩
  | shift b =>
    refine ⟨_, rfl, by show 2 ≤ 5; decide, fun e he => ?_⟩
    simp only [List.mem_cons, List.not_mem_nil, or_false] at he
    rcases he with rfl | rfl
    · exact .inl ⟨_, rfl, ok_shift, wlen_shift⟩
    · exact item_int (by rcases h with h | h <;> omega) (by rcases h with h | h <;> omega)
  | cin b =>
    refine ⟨_, rfl, by show 2 ≤ 5; decide, fun e he => ?_⟩
    simp only [List.mem_cons, List.not_mem_nil, or_false] at he
    rcases he with rfl | rfl
    · exact .inl ⟨_, rfl, ok_in, wlen_in⟩
    · exact item_int (by rcases h with h | h <;> omega) (by rcases h with h | h <;> omega)
  | cout b =>
    refine ⟨_, rfl, by show 2 ≤ 5; decide, fun e he => ?_⟩
    simp only [List.mem_cons, List.not_mem_nil, or_false] at he
    rcases he with rfl | rfl
    · exact .inl ⟨_, rfl, ok_out, wlen_out⟩
    · exact item_int (by rcases h with h | h <;> omega) (by rcases h with h | h <;> omega)
  | wish b =>
    refine ⟨_, rfl, by show 2 ≤ 5; decide, fun e he => ?_⟩
    simp only [List.mem_cons, List.not_mem_nil, or_false] at he
    obtain ⟨h0, h1⟩ := h
    rcases he with rfl | rfl
    · exact .inl ⟨_, rfl, ok_do, wlen_do⟩
    · exact item_int (by omega) (by omega)
/-! ### such a tuple in an f-string: some text, not too long -/
def reprD : PyData → Str
  | .str y => reprText y
  | .int i => Str.ofString (toString i)
  | _ => Str.empty
theorem reprD_len {e : PyData} (h : ItemD e) : (reprD e).length ≤ 2000 := by
  rcases h with ⟨y, rfl, hy, hl⟩ | ⟨i, rfl, hi⟩
  · have h1 : ∀ c ∈ y.cps.toList, c < 16 ^ 8 := fun c hc => by
      have h2 := Array.all_eq_true'.mp (show y.cps.all (· < 0x110000) = true from hy) c (Array.mem_toList_iff.mp hc)
      have h3 := of_decide_eq_true h2
      omega
    have := StrLaws.reprText_len y h1
    show (reprText y).length ≤ 2000
    omega
  · have e := int_text_length_le (k := 1920) (by decide) hi
    show (Str.ofString (toString i)).length ≤ 2000
    rw [PySem.ofString_length]
    omega
theorem piled_reprD : ∀ {ds : List PyData}, (∀ e ∈ ds, ItemD e) → piled (ds.map reprD) ≤ 2002 * ds.length
  | [], _ => Nat.le_refl _
  | d :: ds, h => by
    have h1 := reprD_len (h d List.mem_cons_self)
    have h2 := piled_reprD (ds := ds) fun e he => h e (List.mem_cons_of_mem _ he)
    rw [List.map_cons, piled_cons, List.length_cons]
    omega
theorem reprs_all {prog : Program} {w : World} {K : PySem.W.Frag} {H : Hp} : ∀ {ds : List PyData} {vs : List V} {its : List Value}, DpAll K H vs ds → Vals vs its → (∀ e ∈ ds, ItemD e) → ReprAll prog w its (ds.map reprD)
  | [], vs, its, h, r, _ => by
    rw [dps_nil h] at r
    cases r
    exact .nil
  | d :: ds, vs, its, h, r, hi => by
    obtain ⟨x, xs, rfl, h0, hr⟩ := dps_cons h
    cases r with
    | cons r1 r2 =>
      have ih := reprs_all (prog := prog) (w := w) hr r2 fun e he => hi e (List.mem_cons_of_mem _ he)
      have hd := hi d List.mem_cons_self
      have hl := reprD_len hd
      rcases hd with ⟨y, rfl, _⟩ | ⟨i, rfl, hb⟩
      · rw [dp_str h0] at r1
        obtain ⟨t, rfl⟩ := r1
        refine .cons (ReprIs.str y t ?_) ih
        have hl : (reprText y).length ≤ 2000 := hl
        rw [sizeLine_eq]
        omega
      · rw [dp_int h0] at r1
        obtain ⟨t, rfl⟩ := r1
        exact .cons (ReprIs.int t hb) ih
def tFmtM (K : PySem.W.Frag) (te : TE) : TE := fun σ H Q => te σ H fun x H1 => ∃ d, Dp K H1 x d ∧ StepD d ∧ ∀ m : Str, m.length ≤ 11000 → Q (.str m) H1
theorem pe_fmtM {X : Cx} {K : PySem.W.Frag} {e : Expr} {te : TE} {pos : Pos} {k : Nat} (hr : Room k X.A) (he : PE X e te) (hk : X.K = K := by rfl) : PE X (.FormattedValue e (-1) none pos) (tFmtM K te) := by
  subst hk
  refine ⟨fun pins s σ H Q I h => wpAny_FormattedValue_plain (thn (he.run pins s σ H _ I h) fun v s1 hv => ?_)⟩
  obtain ⟨x, H1, I1, r1, d, hd, ⟨ds, rfl, hl, hi⟩, q⟩ := hv
  obtain ⟨a, xs, rfl, ht, dx⟩ := dp_tup hd
  cases r1
  obtain ⟨its, rv, ⟨o, ho, hcl, n, hdt⟩, _⟩ := I1.tuple ht
  have hp := piled_reprD hi
  have htx := fmt_text (ds.map reprD)
  have hu := hr.units
  refine fmt_tuple (ts := ds.map reprD) (by omega) ho hcl hdt (reprs_all dx rv hi) (by rw [sizeLine_eq]; omega) fun m u tk hm => ⟨.str m, H1, I1.tok _, ⟨u, rfl⟩, q m (by omega)⟩

/-! ## an own error of three fields -/
structure Xi3 (P : Program) (w : World) (K : PySem.W.Frag) (mg : Str → Option Value) (base : Heap) (C fI : Addr) (fd : FuncData) (f1 f2 f3 : Str) (sp : Sp) : Prop where
  T : OexC K C
  D : ExD K C
  iC : PySem.W.findIn K (.ref C) "__init__" = some (some (.ref fI))
  tI : PySem.W.typeIn K (.ref fI) = some (.type "function")
  n1 : PySem.W.findIn K (.ref C) f1 = some none
  n2 : PySem.W.findIn K (.ref C) f2 = some none
  n3 : PySem.W.findIn K (.ref C) f3 = some none
  b : Binds K fd ["self", f1, f2, f3] []
  G : FnOk P w K mg base CX0 1 fI fd ["self", f1, f2, f3] sp
def spX3 (K : PySem.W.Frag) (C : Addr) (f1 f2 f3 : Str) : Sp := fun vs H Q _ => ∃ (a : Addr) (x y z : V), vs = [.ref a, x, y, z] ∧ OexC K C ∧ H a = some (exo a C none) ∧ ∀ dx, H dx = none → dx ≠ a →
  Q .non (upd (upd (upd (upd H dx (exd dx [(f1, x)])) a (exo a C (some dx))) dx (exd dx [(f2, y), (f1, x)])) dx (exd dx [(f3, z), (f2, y), (f1, x)]))
theorem mk3 {K : PySem.W.Frag} {C : Addr} {f1 f2 f3 : Str} {H : Hp} {x y z : V} {Q : XK} (T : OexC K C) (q : ∀ d H', Same H H' → H d = none → H' d = some (.xd [(f3, z), (f2, y), (f1, x)]) → Q (.ref C) (some d) H') :
    [x, y, z].length ≤ 1000 ∧ ∀ a, H a = none → spX3 K C f1 f2 f3 (.ref a :: ([x, y, z] ++ [])) (upd H a (exo a C none))
      (fun v H2 => v = .non ∧ ∃ (d : Addr) (fs : List (Str × V)), H2 a = some (exo a C (some d)) ∧ H2 d = some (exd d fs) ∧ H d = none ∧ Q (.ref C) (some d) (upd (L2.del H2 a) d (.xd fs))) (fun _ _ _ => False) := by
  refine ⟨by simp, fun a na => ⟨a, x, y, z, rfl, T, upd_same, fun dx ndx ne => ⟨rfl, dx, [(f3, z), (f2, y), (f1, x)], ?_, upd_same, ?_, q dx _ ?_ ?_ upd_same⟩⟩⟩
  · rw [upd_ne (Ne.symm ne), upd_ne (Ne.symm ne), upd_same]
  · rw [upd_ne ne] at ndx
    exact ndx
  · intro b o h
    have h1 : b ≠ a := ne_of_none h na
    have h2 : b ≠ dx := fun z => by
      rw [z] at h
      rw [upd_ne ne, h] at ndx
      cases ndx
    rw [upd_ne h2, del_ne h1, upd_ne h2, upd_ne h2, upd_ne h1, upd_ne h2, upd_ne h1]
    exact h
  · rw [upd_ne ne] at ndx
    exact ndx
def Out3 (E : XK) (H : Hp) (C : Addr) (f1 f2 f3 : Str) (x y z : V) : Prop := ∀ d H', Same H H' → H d = none → H' d = some (.xd [(f3, z), (f2, y), (f1, x)]) → E (.ref C) (some d) H'
theorem Out3.mono {E : XK} {H H' : Hp} {C : Addr} {f1 f2 f3 : Str} {x y z : V} (s : Same H H') (h : Out3 E H C f1 f2 f3 x y z) : Out3 E H' C f1 f2 f3 x y z := fun d H2 s2 n e => h d H2 (s.trans s2) (s.free n) e
/-- an own error of no field, made with a text -/
def Out0 (E : XK) (H : Hp) (C : Addr) : Prop := ∀ H', Same H H' → E (.ref C) none H'
theorem Out0.mono {E : XK} {H H' : Hp} {C : Addr} (s : Same H H') (h : Out0 E H C) : Out0 E H' C := fun H2 s2 => h H2 (s.trans s2)
/-! ## what is no step is refused -/
def IsStp (S : Sto) (d : PyData) : Prop := ∃ t, StpOk S.wishes.length t ∧ d = t.d
theorem isStp_any {S : Sto} {d : PyData} (h : IsStp S d) : ((dsteps (allSteps S.wishes.length)).any fun z => PyData.eqv z d) = true := by
  obtain ⟨t, ht, rfl⟩ := h
  exact any_mem (mem_allSteps ht)
theorem notStp_any {S : Sto} (ok : StoOk S) {d : PyData} (hd : StepD d) (h : ¬ IsStp S d) : ((dsteps (allSteps S.wishes.length)).any fun z => PyData.eqv z d) = false := by
  cases e : ((dsteps (allSteps S.wishes.length)).any fun z => PyData.eqv z d) with
  | false => rfl
  | true =>
    obtain ⟨z, hz, he⟩ := List.any_eq_true.mp e
    obtain ⟨t, ht, rfl⟩ := List.mem_map.mp hz
    have tok := allSteps_ok ht
    have w5 := ok.w5
    have e2 := stepD_eqv (stp_stepD (by omega) tok) hd he
    exact absurd ⟨t, tok, e2.symm⟩ h
theorem dps_items {K : PySem.W.Frag} {H : Hp} {xs : List V} {ds : List PyData} (h : DpAll K H xs ds) {i : Nat} {x : V} (e : xs[i]? = some x) : ∃ d, ds[i]? = some d ∧ Dp K H x d := dps_of_get h e
section
variable {P : Program} {w : World} {K : PySem.W.Frag} {mg : Str → Option Value} {base : Heap}
/-! Barred.__init__: 0 self, 1 rule, 2 number, 3 at -/
abbrev s_Barred___init__ : Stmt := inClass (topS 4) 0
abbrev N_Barred___init__ : List Str := ["self", "rule", "number", "at"]
theorem sc_Barred___init__ : FnScope N_Barred___init__ ["self", "rule", "number", "at"] (defScope s_Barred___init__) := ⟨rfl, rfl, rfl, by decide +kernel, rfl, by decide +kernel, by decide +kernel⟩
theorem ok_Barred_init {f CR : Addr} {fd : FuncData} (F : Fun K "__init__" "Barred.__init__" s_Barred___init__ f fd) (n1 : PySem.W.findIn K (.ref CR) "rule" = some none) (n2 : PySem.W.findIn K (.ref CR) "number" = some none) (n3 : PySem.W.findIn K (.ref CR) "at" = some none) :
    FnOk P w K mg base CX0 1 f fd ["self", "rule", "number", "at"] (spX3 K CR "rule" "number" "at") := by
  refine F.ok sc_Barred___init__ (fun vs H Q E h => ?_) (fun cdv A outer s H vs Q E hr h => ?_)
  · obtain ⟨a, x, y, z, rfl, _⟩ := h
    rfl
  · obtain ⟨a, x, y, z, rfl, T, ea, q⟩ := h
    refine ⟨_, (pss_cons (ps_ost (pv 0) (pv 1) rfl)
      (pss_cons (ps_ost (pv 0) (pv 2) rfl)
      (pss_one (ps_ost (pv 0) (pv 3) rfl)))), ?_⟩
    refine ⟨_, rfl, _, rfl, a, CR, rfl, T, n1, .inl ⟨ea, fun dx ndx ne => ?_⟩⟩
    refine ⟨_, rfl, _, rfl, a, CR, rfl, T, n2, .inr ⟨dx, [("rule", x)], upd_same, by rw [upd_ne ne, upd_same], by simp, ?_⟩⟩
    refine ⟨_, rfl, _, rfl, a, CR, rfl, T, n3, .inr ⟨dx, [("number", y), ("rule", x)], by rw [upd_ne (Ne.symm ne), upd_same], upd_same, by simp, q dx ndx ne⟩⟩
theorem msg_100 : (Str.empty ++ ("no step of this store: " : Str)).length ≤ 100 := by decide +kernel
theorem msg_len : (Str.empty ++ ("no step of this store: " : Str)).length ≤ sizeLine := by
  have := msg_100
  rw [sizeLine_eq]
  omega
abbrev veBm : List Value := [.type "ValueError", .type "Exception", .type "BaseException", .type "object"]
def spRefuseS (K : PySem.W.Frag) (C CS : Addr) : Sp := fun vs H Q E => ∃ (p l : Addr) (xs : List V) (S : Sto) (ds : List PyData), vs = [.ref p, .ref l] ∧ Ob K C H p S ∧ StoOk S ∧ SqL K H l xs ∧ DpAll K H xs ds ∧ (∀ d ∈ ds, StepD d) ∧
  ((∀ d ∈ ds, IsStp S d) → ∀ H', Same H H' → Q .non H') ∧ ((∃ d ∈ ds, ¬ IsStp S d) → Out0 E H CS)
/-! refuse_no_steps: 0 store, 1 plan, 2 known, 3 step -/
abbrev s_refuse_no_steps : Stmt := topS 15
abbrev N_refuse_no_steps : List Str := ["store", "plan", "known", "step"]
theorem sc_refuse_no_steps : FnScope N_refuse_no_steps ["store", "plan"] (defScope s_refuse_no_steps) := ⟨rfl, rfl, rfl, by decide +kernel, rfl, by decide +kernel, by decide +kernel⟩
theorem ok_refuse_no_steps {f f1 C CS : Addr} {fd fd1 : FuncData} (D : Dfs K mg "refuse_no_steps" s_refuse_no_steps ["store", "plan"] f fd) (N_BadStep : Xn K mg "BadStep" CS) (XS_BadStep : PySem.W.excIn K CS veBm "ValueError.__new__" = true) (C__all_steps : Cal P w K mg base 2 "_all_steps" ["store"] (spAllSteps K C) f1 fd1) :
    CalX P w K mg base 3 "refuse_no_steps" ["store", "plan"] (spRefuseS K C CS) f fd := by
  refine D.calX (D.F.okX sc_refuse_no_steps (fun vs H Q E h => ?_) (fun cdv A outer s H vs Q E hr h => ?_))
  · obtain ⟨p, l, xs, S, ds, rfl, _⟩ := h
    rfl
  · obtain ⟨p, l, xs, S, ds, rfl, ob, ok, hl, dl, hds, q, o⟩ := h
    refine ⟨_, (pss_cons (ps_set (i := 2) sc_refuse_no_steps.nd rfl (Or.inl rfl) (pe_call C__all_steps.G (hr.mono (by decide)) (by rfl) C__all_steps.g C__all_steps.kp C__all_steps.b .nil pass0 (pa_cons (pv 0) pa_nil)))
      (pss_one (ps_for (passes_of rfl) rfl (pi_list (pv 1)) (pg_name (i := 3) sc_refuse_no_steps.nd rfl (Or.inl rfl)) (pss_one (ps_if (pt_cmpR (knotInD (K := K) (room65 hr)) (pv 3) (pv 2) (by rfl)) (pss_one (ps_raise rfl (takes_of rfl rfl rfl rfl) (SkE.pmk_own1 PySem.F.excBase_ValueError XS_BadStep N_BadStep.g N_BadStep.kp (raises_own N_BadStep.exC N_BadStep.tyC) (by rfl) (by exact (pe_joined (.cons pe_str (.cons (pe_fmtM (K := K) hr (pv 3)) .nil))))))) pss_nil))))), ?_⟩
    refine ⟨_, rfl, p, S, rfl, ob, ok, fun r zs H1 s1 nr e1 dz => ?_⟩
    have lx := dps_len dl
    refine ⟨_, rfl, l, rfl, ⟨_, Same.l s1 hl⟩, for_list (K := K) (a := l) (xs := xs) (fun i σ H' => H' = H1 ∧ (∀ d ∈ ds.take i, IsStp S d) ∧ ∃ v : Option V, σ = [some (.ref p), some (.ref l), some (.ref r), v]) ⟨rfl, by simp, none, rfl⟩ (fun i σ H' _ h => by rw [h.1]; exact Same.l s1 hl) ?_ ?_⟩
    · rintro i y σ H' hy ⟨rfl, hall, v, rfl⟩
      obtain ⟨d, hd, dy⟩ := dps_of_get dl hy
      have hdm := List.mem_of_getElem? hd
      refine ⟨_, rfl, _, rfl, d, _, dp_mono s1 dy, .lst (SqL.of e1) dz, (hds d hdm).lay.shaped, (steps_lays _).lst.shaped, _, rfl, ?_⟩
      by_cases hs : IsStp S d
      · rw [isStp_any hs]
        refine iteF ⟨rfl, fun e he => ?_, _, rfl⟩
        rw [take_snoc hd] at he
        rcases List.mem_append.mp he with he | he
        · exact hall e he
        · rw [List.mem_singleton] at he
          rw [he]
          exact hs
      · rw [notStp_any ok (hds d hdm) hs]
        refine iteT ⟨_, rfl, msg_len, _, rfl, d, dp_mono s1 dy, hds d hdm, fun m hm => ⟨m, rfl, ?_, o ⟨d, hdm, hs⟩ _ s1⟩⟩
        have h1 := msg_100
        rw [strLen_append, sizeLine_eq]
        omega
    · rintro σ H' ⟨rfl, hall, v, rfl⟩
      rw [lx, List.take_length] at hall
      exact q hall _ s1
def spBarredS (K : PySem.W.Frag) (C CS : Addr) : Sp := fun vs H Q E => ∃ (p : Addr) (v u : V) (S : Sto) (s : Sta) (d : PyData), vs = [.ref p, v, u] ∧ Ob K C H p S ∧ Dp K H v s.d ∧ Dp K H u d ∧ StoOk S ∧ Rising 0 S.wishes.length s.done ∧ StepD d ∧
  (∀ t, StpOk S.wishes.length t → d = t.d → Ret K H Q (dbar (bar S s t))) ∧ (¬ IsStp S d → Out0 E H CS)
/-! barred: 0 store, 1 state, 2 step -/
abbrev s_barred : Stmt := topS 9
abbrev N_barred : List Str := ["store", "state", "step"]
theorem sc_barred : FnScope N_barred ["store", "state", "step"] (defScope s_barred) := ⟨rfl, rfl, rfl, by decide +kernel, rfl, by decide +kernel, by decide +kernel⟩
theorem ok_barred {f f1 f2 C CS : Addr} {fd fd1 fd2 : FuncData} (D : Dfs K mg "barred" s_barred ["store", "state", "step"] f fd) (C_refuse_no_steps : CalX P w K mg base 3 "refuse_no_steps" ["store", "plan"] (spRefuseS K C CS) f1 fd1) (C__bar : Cal P w K mg base 5 "_bar" ["store", "state", "step"] (spBar K C) f2 fd2) :
    CalX P w K mg base 6 "barred" ["store", "state", "step"] (spBarredS K C CS) f fd := by
  refine D.calX (D.F.okX sc_barred (fun vs H Q E h => ?_) (fun cdv A outer s H vs Q E hr h => ?_))
  · obtain ⟨p, v, u, S, s, d, rfl, _⟩ := h
    rfl
  · obtain ⟨p, v, u, S, st, d, rfl, ob, hv, hu, ok, hz, hd, q, o⟩ := h
    refine ⟨_, (pss_cons (ps_expr (pe_call C_refuse_no_steps.G (hr.mono (by decide)) (by rfl) C_refuse_no_steps.g C_refuse_no_steps.kp C_refuse_no_steps.b .nil (passes_call (takes_of rfl rfl rfl rfl) (fun _ _ _ _ h => h)) (pa_cons (pv 0) (pa_cons (pe_lst (pa_cons (pv 2) pa_nil)) pa_nil))))
      (pss_one (ps_ret (pe_call C__bar.G (hr.mono (by decide)) (by rfl) C__bar.g C__bar.kp C__bar.b .nil pass0 (pa_cons (pv 0) (pa_cons (pv 1) (pa_cons (pv 2) pa_nil))))))), ?_⟩
    refine ⟨_, rfl, _, rfl, small (by simp), fun l nl => ?_⟩
    have s1 := same_new (o := .lst [u]) nl
    refine ⟨p, l, [u], S, [d], rfl, ob.mono s1, ok, lst_new, .cons (dp_mono s1 hu) .nil, fun e h' => by rw [List.mem_singleton] at h'; rw [h']; exact hd, fun hall H2 s2 => ?_, fun ⟨e, he, hne⟩ => ?_⟩
    · have s12 := s1.trans s2
      obtain ⟨t, ht, ed⟩ := hall d List.mem_cons_self
      subst ed
      exact ⟨_, rfl, _, rfl, _, rfl, p, v, u, S, st, t, rfl, ob.mono s12, dp_mono s12 hv, dp_mono s12 hu, ok, hz, ht, fun v' H3 s3 h3 => q t ht rfl v' H3 (s12.trans s3) h3⟩
    · rw [List.mem_singleton] at he
      rw [he] at hne
      exact (o hne).mono s1
/-- how many shifts -/
def shiftsOf (ts : List Stp) : Nat := (ts.filter fun t => match t with | .shift _ => true | _ => false).length
def isShift : Stp → Bool
  | .shift _ => true
  | _ => false
def spShiftsS (K : PySem.W.Frag) (C CS : Addr) : Sp := fun vs H Q E => ∃ (p l : Addr) (xs : List V) (S : Sto) (ds : List PyData), vs = [.ref p, .ref l] ∧ Ob K C H p S ∧ StoOk S ∧ SqL K H l xs ∧ DpAll K H xs ds ∧ (∀ d ∈ ds, StepD d) ∧ ds.length ≤ 900 ∧
  (∀ ts, ds = dsteps ts → (∀ t ∈ ts, StpOk S.wishes.length t) → ∀ H', Same H H' → Q (.int ((ts.filter isShift).length : Int)) H') ∧ ((∃ d ∈ ds, ¬ IsStp S d) → Out0 E H CS)
theorem stps_of {S : Sto} : ∀ {ds : List PyData}, (∀ d ∈ ds, IsStp S d) → ∃ ts, ds = dsteps ts ∧ ∀ t ∈ ts, StpOk S.wishes.length t
  | [], _ => ⟨[], rfl, fun t h => absurd h (by simp)⟩
  | d :: ds, h => by
    obtain ⟨t, ht, e⟩ := h d List.mem_cons_self
    obtain ⟨ts, e2, h2⟩ := stps_of (ds := ds) fun x hx => h x (List.mem_cons_of_mem _ hx)
    refine ⟨t :: ts, by rw [e, e2]; rfl, fun u hu => ?_⟩
    rcases List.mem_cons.mp hu with rfl | hu
    · exact ht
    · exact h2 u hu
/-- a step's word -/
def wordOf : Stp → Str
  | .wait => "wait"
  | .shift _ => "shift"
  | .cin _ => "in"
  | .cout _ => "out"
  | .wish _ => "do"
theorem nw_in : ¬ (("in" : Str) = "shift") := by decide +kernel
theorem nw_out : ¬ (("out" : Str) = "shift") := by decide +kernel
theorem nw_do : ¬ (("do" : Str) = "shift") := by decide +kernel
theorem word_shift (t : Stp) : decide (V.str (wordOf t) = V.str "shift") = isShift t := by
  cases t with
  | shift b => exact decide_eq_true rfl
  | wait => exact decide_eq_false (sne (by decide +kernel))
  | cin b => exact decide_eq_false (sne nw_in)
  | cout b => exact decide_eq_false (sne nw_out)
  | wish b => exact decide_eq_false (sne nw_do)
theorem word_at {H : Hp} {v : V} {t : Stp} (h : Dp K H v t.d) : ∃ a r, v = .ref a ∧ SqT K H a (.str (wordOf t) :: r) := by
  cases t with
  | wait =>
    obtain ⟨a, rfl, ha⟩ := dp_one h
    exact ⟨a, _, rfl, ha⟩
  | _ =>
    obtain ⟨a, rfl, ha⟩ := dp_two h
    exact ⟨a, _, rfl, ha⟩
def costOf (t : Stp) : Int := if isShift t = true then 1 else 0
theorem sum_cost (ts : List Stp) : (ts.map costOf).sum = ((ts.filter isShift).length : Int) := by
  induction ts with
  | nil => rfl
  | cons t r ih =>
    rw [List.map_cons, List.sum_cons, ih]
    unfold costOf
    cases h : isShift t with
    | true =>
      rw [if_pos rfl, List.filter_cons_of_pos h, List.length_cons]
      omega
    | false =>
      rw [if_neg Bool.false_ne_true, List.filter_cons_of_neg (by rw [h]; exact Bool.false_ne_true)]
      omega
def spShiftsOf (K : PySem.W.Frag) : Sp := fun vs H Q _ => ∃ (v : V) (t : Stp), vs = [v] ∧ Dp K H v t.d ∧ ∀ H', Same H H' → Q (.int (costOf t)) H'
/-! shifts_of: 0 step -/
abbrev s_shifts_of : Stmt := topS 14
abbrev N_shifts_of : List Str := ["step"]
theorem sc_shifts_of : FnScope N_shifts_of ["step"] (defScope s_shifts_of) := ⟨rfl, rfl, rfl, by decide +kernel, rfl, by decide +kernel, by decide +kernel⟩
theorem ok_shifts_of {f : Addr} {fd : FuncData} (D : Dfs K mg "shifts_of" s_shifts_of ["step"] f fd) : Cal P w K mg base 1 "shifts_of" ["step"] (spShiftsOf K) f fd := by
  refine D.cal (D.F.ok sc_shifts_of (fun vs H Q E h => ?_) (fun cdv A outer s H vs Q E hr h => ?_))
  · obtain ⟨v, t, rfl, _⟩ := h
    rfl
  · obtain ⟨v, t, rfl, hv, q⟩ := h
    obtain ⟨a, r, rfl, ha⟩ := word_at hv
    refine ⟨_, (pss_one (ps_ret (pe_ifExp (pt_cmpR op_eq (pe_ix (kix_tup (K := K)) (pv 0) pe_int (fun _ _ => rfl)) pe_str (nomark _)) pe_int pe_int))), ?_⟩
    refine ⟨_, rfl, a, _, 0, .str (wordOf t), rfl, rfl, ha, at_of (j := 0) rfl rfl, rfl, _, rfl, ?_⟩
    rw [word_shift]
    unfold costOf at q
    cases hb : isShift t with
    | true =>
      rw [hb, if_pos rfl] at q
      exact iteT (q _ (Same.refl H))
    | false =>
      rw [hb, if_neg Bool.false_ne_true] at q
      exact iteF (q _ (Same.refl H))
/-! shifts: 0 store, 1 plan, 2 step -/
abbrev s_shifts : Stmt := topS 11
abbrev N_shifts : List Str := ["store", "plan", "step"]
theorem sc_shifts : FnScope N_shifts ["store", "plan"] (defScope s_shifts) := ⟨rfl, rfl, rfl, by decide +kernel, rfl, by decide +kernel, by decide +kernel⟩
theorem ok_shifts {f f1 f2 C CS : Addr} {fd fd1 fd2 : FuncData} (D : Dfs K mg "shifts" s_shifts ["store", "plan"] f fd) (T : Tx K mg) (C_refuse_no_steps : CalX P w K mg base 3 "refuse_no_steps" ["store", "plan"] (spRefuseS K C CS) f1 fd1) (C_shifts_of : Cal P w K mg base 1 "shifts_of" ["step"] (spShiftsOf K) f2 fd2) :
    CalX P w K mg base 4 "shifts" ["store", "plan"] (spShiftsS K C CS) f fd := by
  refine D.calX (D.F.okX sc_shifts (fun vs H Q E h => ?_) (fun cdv A outer s H vs Q E hr h => ?_))
  · obtain ⟨p, l, xs, S, ds, rfl, _⟩ := h
    rfl
  · obtain ⟨p, l, xs, S, ds, rfl, ob, ok, hl, dl, hds, hlen, q, o⟩ := h
    refine ⟨_, (pss_cons (ps_expr (pe_call C_refuse_no_steps.G (hr.mono (by decide)) (by rfl) C_refuse_no_steps.g C_refuse_no_steps.kp C_refuse_no_steps.b .nil (passes_call (takes_of rfl rfl rfl rfl) (fun _ _ _ _ h => h)) (pa_cons (pv 0) (pa_cons (pv 1) pa_nil))))
      (pss_one (ps_ret (pe_callB (ksum (K := K) rfl) (by rfl) T.n_sum (by decide +kernel) (pa_cons (pe_lc (own := [("step", 2)]) (g := gName 2) rfl sc_shifts.nd (pi_list (pv 1)) (blkOk_by (own := [("step", 2)]) (N := N_shifts) (sc := defScope s_shifts) (by decide +kernel)) (fun _ _ _ _ _ => (pg_name (i := 2) sc_shifts.nd rfl (Or.inl rfl))) (fun _ _ _ _ _ => pts_nil) (fun _ _ _ _ _ => by exact (pe_call C_shifts_of.G (hr.mono (by decide)) (by rfl) C_shifts_of.g C_shifts_of.kp C_shifts_of.b .nil pass0 (pa_cons (pv 2) pa_nil)))) pa_nil))))), ?_⟩
    refine ⟨_, rfl, _, rfl, p, l, xs, S, ds, rfl, ob, ok, hl, dl, hds, fun hall H1 s1 => ?_, o⟩
    obtain ⟨ts, rfl, hts⟩ := stps_of hall
    have lx : xs.length = ts.length := (dps_len dl).trans (List.length_map ..)
    have lt : (dsteps ts).length = ts.length := List.length_map ..
    refine ⟨_, rfl, l, rfl, ⟨_, Same.l s1 hl⟩, fun D nD => ?_⟩
    refine lc_list (K := K) (a := l) (xs := xs) (fun i H' => Same H1 H' ∧ H' D = some (.lst (((ts.take i).map costOf).map V.int))) ⟨same_new nD, by rw [List.take_zero]; exact upd_same⟩ (fun i H' _ h => Same.l (s1.trans h.1) hl) ?_ ?_
    · rintro i y H3 hy ⟨s3, e3⟩
      obtain ⟨d, hd, dy⟩ := dps_of_get dl hy
      obtain ⟨t, ht, rfl⟩ := step_item hd
      refine ⟨rfl, ?_⟩
      refine ⟨_, rfl, y, t, rfl, dp_mono (s1.trans s3) dy, fun H4 s4 => ?_⟩
      have e4 := s4 _ _ e3
      refine ⟨_, e4, ?_, fun b o h => ?_, ?_⟩
      · rw [List.length_map, List.length_map, List.length_take]
        exact small1000 (by omega)
      · rw [upd_ne (ne_of_none h nD)]
        exact (s3.trans s4) b o h
      · rw [upd_same, take_snoc ht, List.map_append, List.map_append]
        rfl
    · rintro H3 ⟨s3, e3⟩
      rw [lx, List.take_length] at e3
      refine ⟨D, ts.map costOf, rfl, SqL.of e3, ?_⟩
      rw [sum_cost]
      exact q ts rfl hts _ (s1.trans s3)
def spIsEnd (K : PySem.W.Frag) (C : Addr) : Sp := fun vs H Q _ => ∃ (p : Addr) (v : V) (S : Sto) (s : Sta), vs = [.ref p, v] ∧ Ob K C H p S ∧ Dp K H v s.d ∧ ∀ H', Same H H' → Q (.bl (decide (s.done.length = S.wishes.length) && decide (s.inside.length = 0))) H'
/-! is_end: 0 store, 1 state, 2 _, 3 done, 4 inside -/
abbrev s_is_end : Stmt := topS 12
abbrev N_is_end : List Str := ["store", "state", "_", "done", "inside"]
theorem sc_is_end : FnScope N_is_end ["store", "state"] (defScope s_is_end) := ⟨rfl, rfl, rfl, by decide +kernel, rfl, by decide +kernel, by decide +kernel⟩
theorem ok_is_end {f C fI fS fW : Addr} {fd fdI fdS fdW : FuncData} (D : Dfs K mg "is_end" s_is_end ["store", "state"] f fd) (T : Tx K mg) (TS : TSx K mg C fI fS fW fdI fdS fdW) (G_wishes : FnOk P w K mg base CX0 1 fW fdW ["self"] (spWishesM K C)) :
    Cal P w K mg base 2 "is_end" ["store", "state"] (spIsEnd K C) f fd := by
  refine D.cal (D.F.ok sc_is_end (fun vs H Q E h => ?_) (fun cdv A outer s H vs Q E hr h => ?_))
  · obtain ⟨p, v, S, s, rfl, _⟩ := h
    rfl
  · obtain ⟨p, v, S, st, rfl, ob, hv, q⟩ := h
    obtain ⟨sa, d, i, rfl, hsa, hd, hi⟩ := sta_at hv
    obtain ⟨dx, l, m, xs, ys, ob1⟩ := id ob
    refine ⟨_, (pss_cons (ps_asg (pv 1) (pg_tup (by rfl) (pgs_cons (pg_name (i := 2) sc_is_end.nd rfl (Or.inl rfl)) (pgs_cons (pg_name (i := 3) sc_is_end.nd rfl (Or.inl rfl)) (pgs_cons (pg_name (i := 4) sc_is_end.nd rfl (Or.inl rfl)) (pgs_cons (pg_name (i := 2) sc_is_end.nd rfl (Or.inl rfl)) pgs_nil))))))
      (pss_one (ps_ret (pe_and (pe_cmpR op_eq (pe_callB (klen (K := K)) (by rfl) T.n_len (by decide +kernel) (pa_cons (pv 3) pa_nil)) (pe_callB (klen (K := K)) (by rfl) T.n_len (by decide +kernel) (pa_cons (pe_meth0 (pv 0) TS.cl TS.m_wishes G_wishes (hr.mono (by decide)) TS.b_wishes .nil pass0) pa_nil)) (nomark _)) (pe_one (pe_cmpR op_eq (pe_callB (klen (K := K)) (by rfl) T.n_len (by decide +kernel) (pa_cons (pv 4) pa_nil)) pe_int (nomark _))))))), ?_⟩
    refine ⟨_, rfl, sa, _, rfl, hsa, rfl, _, _, rfl, _, _, rfl, _, _, rfl, _, _, rfl, rfl, ?_⟩
    refine ⟨_, rfl, d, _, rfl, .inr hd, _, rfl, p, dx, _, rfl, ob1.o, fsS_m2, p, S, rfl, ob, fun r zs nr dzs => ?_⟩
    have s1 := same_new (o := .lst zs) nr
    have lz : zs.length = S.wishes.length := (dps_len dzs).trans (List.length_map ..)
    have hi1 := Same.t s1 hi
    refine ⟨r, zs, rfl, .inl lst_new, rfl, _, rfl, ?_⟩
    by_cases e : st.done.length = S.wishes.length
    · refine itD (by rw [List.length_map, lz, e]) ⟨_, rfl, i, _, rfl, .inr hi1, rfl, ?_⟩
      have e2 : decide (V.int ((st.inside.map V.int).length : Int) = V.int 0) = (decide (st.done.length = S.wishes.length) && decide (st.inside.length = 0)) := by
        rw [decide_eq_true e, Bool.true_and, List.length_map]
        refine decide_eq_decide.mpr ⟨fun h => ?_, fun h => by rw [h]; rfl⟩
        have := V.int.inj h
        omega
      show Q (.bl (decide (V.int ((st.inside.map V.int).length : Int) = V.int 0))) _
      rw [e2]
      exact q _ s1
    · refine itF (fun h => e ?_) ?_
      · have := V.int.inj h
        rw [List.length_map] at this
        omega
      · rw [decide_eq_false e, Bool.false_and] at q
        exact q _ s1
end

section
variable {P : Program} {w : World} {K : PySem.W.Frag} {mg : Str → Option Value} {base : Heap}
def spPlayedS (K : PySem.W.Frag) (C CS CR : Addr) : Sp := fun vs H Q E => ∃ (p l : Addr) (xs : List V) (S : Sto) (ds : List PyData), vs = [.ref p, .ref l] ∧ Ob K C H p S ∧ StoOk S ∧ SqL K H l xs ∧ DpAll K H xs ds ∧ (∀ d ∈ ds, StepD d) ∧ ds.length ≤ 50 ∧
  ((∃ d ∈ ds, ¬ IsStp S d) → Out0 E H CS) ∧ ∀ ts, ds = dsteps ts → (∀ t ∈ ts, StpOk S.wishes.length t) →
    (OpenPlan S (sta0 S) ts → ∀ q zs H', Same H H' → H q = none → H' q = some (.lst zs) → DpAll K H' zs (dstates (playS S (sta0 S) ts)) → Q (.ref q) H') ∧
    (∀ i t r n, ts[i]? = some t → OpenPlan S (sta0 S) (ts.take i) → bar S (runS S (sta0 S) (ts.take i)) t = some (r, n) → Out3 E H CR "rule" "number" "at" (.str r) (.int n) (.int (i : Int)))
/-! played: 0 store, 1 plan, 2 state, 3 states, 4 at, 5 step, 6 bar, 7 rule, 8 number -/
abbrev s_played : Stmt := topS 10
abbrev N_played : List Str := ["store", "plan", "state", "states", "at", "step", "bar", "rule", "number"]
theorem sc_played : FnScope N_played ["store", "plan"] (defScope s_played) := ⟨rfl, rfl, rfl, by decide +kernel, rfl, by decide +kernel, by decide +kernel⟩
theorem ok_played {f f1 f2 f3 f4 fR C CS CR : Addr} {fd fd1 fd2 fd3 fd4 fdR : FuncData} (D : Dfs K mg "played" s_played ["store", "plan"] f fd) (T : Tx K mg) (X_Barred : Xi3 P w K mg base CR fR fdR "rule" "number" "at" (spX3 K CR "rule" "number" "at")) (N_Barred : Xn K mg "Barred" CR)
    (C_refuse_no_steps : CalX P w K mg base 3 "refuse_no_steps" ["store", "plan"] (spRefuseS K C CS) f1 fd1) (C_begin : Cal P w K mg base 1 "begin" ["store"] (spBegin K C) f2 fd2) (C__bar : Cal P w K mg base 5 "_bar" ["store", "state", "step"] (spBar K C) f3 fd3)
    (C_behind : Cal P w K mg base 2 "behind" ["store", "state", "step"] (spBehind K C) f4 fd4) : CalX P w K mg base 6 "played" ["store", "plan"] (spPlayedS K C CS CR) f fd := by
  refine D.calX (D.F.okX sc_played (fun vs H Q E h => ?_) (fun cdv A outer s H vs Q E hr h => ?_))
  · obtain ⟨p, l, xs, S, ds, rfl, _⟩ := h
    rfl
  · obtain ⟨p, l, xs, S, ds, rfl, ob, ok, hl, dl, hds, hlen, o, q⟩ := h
    refine ⟨_, (pss_cons (ps_expr (pe_call C_refuse_no_steps.G (hr.mono (by decide)) (by rfl) C_refuse_no_steps.g C_refuse_no_steps.kp C_refuse_no_steps.b .nil (passes_call (takes_of rfl rfl rfl rfl) (fun _ _ _ _ h => h)) (pa_cons (pv 0) (pa_cons (pv 1) pa_nil))))
      (pss_cons (ps_set (i := 2) sc_played.nd rfl (Or.inl rfl) (pe_call C_begin.G (hr.mono (by decide)) (by rfl) C_begin.g C_begin.kp C_begin.b .nil pass0 (pa_cons (pv 0) pa_nil)))
      (pss_cons (ps_set (i := 3) sc_played.nd rfl (Or.inl rfl) (pe_lst (pa_cons (pv 2) pa_nil)))
      (pss_cons (ps_for (passes_of rfl) rfl (pi_enum (by rfl) T.n_enumerate (pa_cons (pv 1) pa_nil)) (pg_tup (by rfl) (pgs_cons (pg_name (i := 4) sc_played.nd rfl (Or.inl rfl)) (pgs_cons (pg_name (i := 5) sc_played.nd rfl (Or.inl rfl)) pgs_nil))) (pss_cons (ps_set (i := 6) sc_played.nd rfl (Or.inl rfl) (pe_call C__bar.G (hr.mono (by decide)) (by rfl) C__bar.g C__bar.kp C__bar.b .nil pass0 (pa_cons (pv 0) (pa_cons (pv 2) (pa_cons (pv 5) pa_nil)))))
      (pss_cons (ps_if (pt_cmpR op_notN (pv 6) pe_non (nomark _)) (pss_cons (ps_asg (pv 6) (pg_tup (by rfl) (pgs_cons (pg_name (i := 7) sc_played.nd rfl (Or.inl rfl)) (pgs_cons (pg_name (i := 8) sc_played.nd rfl (Or.inl rfl)) pgs_nil))))
      (pss_one (ps_raise rfl (takes_of rfl rfl rfl rfl) (pmk_oex X_Barred.T X_Barred.iC X_Barred.tI X_Barred.G (hr.mono (by decide)) X_Barred.b .nil pass0 (by rfl) N_Barred.g (pa_cons (pv 7) (pa_cons (pv 8) (pa_cons (pv 4) pa_nil))))))) pss_nil)
      (pss_cons (ps_set (i := 2) sc_played.nd rfl (Or.inl rfl) (pe_call C_behind.G (hr.mono (by decide)) (by rfl) C_behind.g C_behind.kp C_behind.b .nil pass0 (pa_cons (pv 0) (pa_cons (pv 2) (pa_cons (pv 5) pa_nil)))))
      (pss_one (ps_expr (pe_bm PySem.F.plainAttrs_list PySem.F.slot_list_append PySem.F.type_list_append mt_append (pv 3) (pa_cons (pv 2) pa_nil))))))))
      (pss_one (ps_ret (pv 3))))))), ?_⟩
    refine ⟨_, rfl, _, rfl, p, l, xs, S, ds, rfl, ob, ok, hl, dl, hds, fun hall H1 s1 => ?_, o⟩
    obtain ⟨ts, rfl, hts⟩ := stps_of hall
    obtain ⟨qa, qb⟩ := q ts rfl hts
    have lt : (dsteps ts).length = ts.length := List.length_map ..
    refine ⟨_, rfl, p, S, rfl, ob.mono s1, fun v H2 s2 d2 => ?_⟩
    have s12 := s1.trans s2
    refine ⟨_, rfl, small (by simp), fun r nr => ?_⟩
    have lx : xs.length = ts.length := (dps_len dl).trans (List.length_map ..)
    have A0 : Acq K H2 H2 (upd H2 r (.lst [v])) r [v] (dstates (playS S (sta0 S) (ts.take 0))) := by
      rw [List.take_zero]
      exact ⟨Same.refl _, same_new nr, nr, upd_same, .cons d2 .nil⟩
    refine ⟨_, rfl, l, xs, rfl, Same.l (s12.trans A0.R) hl, for_enum (K := K) (a := l) (xs := xs) (fun i σ H' => ∃ (B : Hp) (zs : List V) (u : V) (v4 v5 v6 : Option V), σ = [some (.ref p), some (.ref l), some u, some (.ref r), v4, v5, v6, none, none] ∧ Acq K H2 B H' r zs (dstates (playS S (sta0 S) (ts.take i))) ∧ Dp K B u (runS S (sta0 S) (ts.take i)).d ∧ OpenPlan S (sta0 S) (ts.take i))
      ⟨H2, [v], v, none, none, none, rfl, A0, by rw [List.take_zero]; exact d2, by rw [List.take_zero]; trivial⟩ (fun i σ H' _ ⟨B, zs, u, v4, v5, v6, _, A, _⟩ => Same.l (s12.trans (A.s.trans A.R)) hl) ?_ ?_⟩
    · rintro i y σ H3 pt hy ⟨B, zs, u, v4, v5, v6, rfl, A, du, op⟩ npt
      obtain ⟨d, hd, dy⟩ := dps_of_get dl hy
      obtain ⟨t, ht, rfl⟩ := step_item hd
      have tok := hts t (List.mem_of_getElem? ht)
      have A3 := A.grow (o := .tup [.int (i : Nat), y]) npt
      have s3 := s12.trans (A3.s.trans A3.R)
      have du3 := dp_mono (same_new (o := .tup [.int (i : Nat), y]) (A.R.free npt)) du
      refine ⟨pt, _, rfl, tup_new, rfl, _, _, rfl, _, _, rfl, rfl, ?_⟩
      have hz : DoneOk S (runS S (sta0 S) (ts.take i)) := DoneOk.run (show Rising 0 _ [] from trivial) (fun t h => hts t (List.mem_of_mem_take h)) op
      refine ⟨_, rfl, _, rfl, _, rfl, p, u, y, S, runS S (sta0 S) (ts.take i), t, rfl, ob.mono s3, dp_mono A3.R du3, dp_mono s3 dy, ok, hz, tok, fun b H4 s4 d4 => ?_⟩
      cases hb : bar S (runS S (sta0 S) (ts.take i)) t with
      | some rn =>
        obtain ⟨rr, nn⟩ := rn
        rw [hb] at d4
        obtain ⟨ba, rfl, hba⟩ := dp_two d4
        refine ⟨_, rfl, rfl, _, rfl, itnF (fun z => by cases z) ?_⟩
        refine ⟨_, rfl, ba, _, rfl, hba, rfl, _, _, rfl, _, _, rfl, rfl, ?_⟩
        exact ⟨_, rfl, _, rfl, _, rfl, mk3 X_Barred.T ((qb i t rr nn ht op hb).mono (s3.trans s4))⟩
      | none =>
      rw [hb] at d4
      rw [dp_none d4]
      refine ⟨_, rfl, rfl, _, rfl, iteNS rfl ?_⟩
      have A4 := A3.keep s4
      have s34 := s3.trans s4
      obtain ⟨l1, l2⟩ := run_len (S := S) (ts := ts.take i) (s := sta0 S)
      have l3 : (ts.take i).length ≤ 50 := by
        rw [List.length_take]
        omega
      have e1 : (sta0 S).done.length = 0 := rfl
      have e2 : (sta0 S).inside.length = 0 := rfl
      refine ⟨_, rfl, _, rfl, _, rfl, p, u, y, S, runS S (sta0 S) (ts.take i), t, rfl, ob.mono s34, dp_mono (A3.R.trans s4) du3, dp_mono s34 dy, tok, by omega, by omega, fun u2 H5 s5 d5 => ?_⟩
      have A5 := A4.pure s5
      have e5 := A5.el
      have du5 := dp_del e5 d5 (noL_sta _)
      have er : runS S (sta0 S) (ts.take (i + 1)) = behindS S (runS S (sta0 S) (ts.take i)) t := by
        rw [take_snoc ht, runS_snoc]
      have ep : dstates (playS S (sta0 S) (ts.take (i + 1))) = dstates (playS S (sta0 S) (ts.take i)) ++ [(runS S (sta0 S) (ts.take (i + 1))).d] := by
        rw [take_snoc ht, playS_snoc]
        exact List.map_append ..
      rw [← er] at du5
      have A6 := A5.app du5
      refine ⟨_, rfl, .inl ⟨rfl, _, SqL.of e5⟩, _, rfl, r, zs, _, rfl, rfl, e5, ?_, del1 H5 r, zs ++ [u2], u2, _, _, _, rfl, ?_, du5, ?_⟩
      · have e := dps_len A5.dx
        unfold dstates at e
        rw [List.length_map, playS_len] at e
        exact small1000 (by omega)
      · rw [ep]
        exact A6
      · rw [take_snoc ht]
        exact op.snoc hb
    · rintro σ H3 ⟨B, zs, u, v4, v5, v6, rfl, A, du, op⟩
      rw [lx, List.take_length] at A op
      obtain ⟨s3, _, dz⟩ := A.all
      exact ⟨_, rfl, qa op r zs H3 (s12.trans s3) (s12.free nr) A.el dz⟩
end

/-! ## sorted over a tuple of whole numbers -/
section
variable {prog : Program} {w : World} {A : Around} {E : Value → Shared → Prop} {s : Shared}
theorem pour_tuple {t : Addr} {us : List Value} {R : List Value → Shared → Prop} (tt : s.heap.IsTuple t us.toArray) (few : us.length < 64)
    (go : R us { s with heap := (s.heap.push (seqObj "list" #[] 0)).update s.heap.objs.size (Obj.mapSeq (· ++ us.toArray)) }) : wpAny (model prog w) A (collect (.ref t)) R E s := by
  obtain ⟨ob, at0, oc, n, od⟩ := id tt
  have at1 : (s.heap.push (seqObj "list" #[] 0)).get? t = some ob := Heap.get?_push_of_some _ at0
  have at2 : (s.heap.push (seqObj "list" #[] 0)).get? s.heap.objs.size = some (seqObj "list" #[] 0) := Heap.get?_push_size _ rfl
  have few2 : us.length ≤ sizeLine := by rw [sizeLine_eq]; omega
  unfold collect
  refine wpAny_bind (wpAny_runValue (codeAny_builtin entry_proto_collect' (show wpAny _ _ (do again (.builtin "list.__iadd__" ⟨[← newList [], .ref t], []⟩)) _ _ s from wpAny_bind (wpAny_newList (wpAny_pure ⟨Code.quiet_builtin _ (by decide +kernel), codeAny_builtin entry_list_iadd' ?_⟩)))))
  show wpAny _ _ (Builtin.List.listExtendWith (.ref s.heap.objs.size) (.ref t) (.ref s.heap.objs.size)) _ _ { s with heap := s.heap.push (seqObj "list" #[] 0) }
  unfold Builtin.List.listExtendWith
  refine wpAny_bind (wpAny_typeOf (T := "tuple") ⟨ob, at1, oc⟩ ?_)
  have same : (Value.type "tuple" == Value.type "tuple") = true := by rfl
  rw [if_pos (by rw [same]; simp)]
  refine wpAny_bind (listItems_at at1 od (wpAny_bind (listItems_at (xs := #[]) (n := 0) at2 rfl ?_)))
  rw [if_neg (show ¬ _ by simp)]
  refine wpAny_bind (listUpdate_at (xs := #[]) (n := 0) at2 rfl (wpAny_pure ?_) (Nat.zero_le _) (show (#[] ++ us.toArray).size ≤ sizeLine + 1 by rw [Array.size_append, List.size_toArray, sizeLine_eq]; show 0 + us.length ≤ _; omega))
  refine wpAny_bind (wpAny_load (get?_update_seq at2 _) (show wpAny (model prog w) A (pure ((#[] : Array Value) ++ us.toArray).toList) R E _ from ?_))
  have full : ((#[] : Array Value) ++ us.toArray).toList = us := by simp
  rw [full]
  exact wpAny_pure go
theorem rising_of_tuple {t : Addr} {us : List Value} {zs : List Int} {R : Value → Shared → Prop} (tt : s.heap.IsTuple t us.toArray) (zi : IntsAre us zs) (few : us.length < 64)
    (fin : ∀ (o : Array Value) (ys : List Int), IntsAre o.toList ys → ys.Perm zs → ys.Pairwise (· ≤ ·) → R (.ref (s.heap.objs.size + 1)) { s with heap := sortedAll s.heap us o }) : wpAny (model prog w) A (call (.builtin "sorted") [.ref t]) R E s := by
  generalize eh : (s.heap.push (seqObj "list" #[] 0)).update s.heap.objs.size (Obj.mapSeq (· ++ us.toArray)) = g
  have eg : g.objs.size = s.heap.objs.size + 1 := by
    rw [← eh, Heap.size_update, Heap.size_push]
  have at3 : (g.push (seqObj "list" us.toArray 0)).get? (s.heap.objs.size + 1) = some (seqObj "list" us.toArray 0) := by
    rw [← eg]
    exact Heap.get?_push_size _ rfl
  have all : ∀ o, sortedAll s.heap us o = sortedHeap (g.push (seqObj "list" us.toArray 0)) (s.heap.objs.size + 1) us o := fun o => by rw [← eh]; rfl
  refine Calls.call_function_entry kind_sorted plain_sorted entry_sorted (args_sorted1 _) ?_
  unfold Builtin.«sorted»
  refine wpAny_bind (m := checkCount "sorted" 1 1 _) (wpAny_pure (wpAny_bind (pour_tuple tt few (wpAny_bind (wpAny_newList ?_)))))
  show wpAny _ _ _ _ _ { s with heap := Heap.push ((s.heap.push (seqObj "list" #[] 0)).update s.heap.objs.size (Obj.mapSeq (· ++ us.toArray))) (seqObj "list" us.toArray 0) }
  rw [eh, eg]
  refine wpAny_bind (wpAny_holding (wpAny_call_entry slot_list_sort ⟨_, at3, rfl⟩ entry_list_sort (list_sort_tree at3 zi few fun o ys b1 b2 b3 => ⟨_, rfl, wpAny_pure ⟨_, rfl, ?_⟩⟩) (args_list_sort _)))
  have := fin o ys b1 b2 b3
  rw [all o] at this
  exact this
end
def rSortedT (K : PySem.W.Frag) : List V → Hp → VK → Prop := fun us H Q => ∃ (a : Addr) (zs : List Int), us = [V.ref a] ∧ SqT K H a (zs.map V.int) ∧ zs.length < 64 ∧ ∀ p, H p = none → Q (.ref p) (upd H p (.lst ((sortI zs).map V.int)))
theorem ksortedT {X : Cx} {K : PySem.W.Frag} (eK : X.K = K := by rfl) : CallR X (.builtin "sorted") (rSortedT K) := by
  subst eK
  intro pins s σ H us vs Q I r hh
  obtain ⟨a, zs, rfl, ht, few, q⟩ := hh
  obtain ⟨its, rv, it, _⟩ := I.tuple ht
  rw [Vals.ref1 r]
  have zi := rv.ints
  refine rising_of_tuple it zi (by rw [zi.length]; exact few) fun o ys b1 b2 b3 => ?_
  have ey := sortI_of b2 b3
  obtain ⟨e, he⟩ := PyProof.Rows.sortedAll_at s.heap its o
  have fits : (ys.map V.int).length ≤ sizeLine := by rw [List.length_map, b2.length_eq]; exact small64 few
  have new := I.hok.fresh (Nat.le_succ s.heap.objs.size)
  refine ⟨.ref _, upd H (s.heap.objs.size + 1) (.lst (ys.map V.int)), I.laid (t' := s.toks) (fun _ _ => PyProof.Rows.sortedAll_old) (Nat.le_succ _) ⟨fits, o.toList, e, vals_of_ints b1, he⟩, rfl, ?_⟩
  rw [ey]
  exact q _ new

section
variable {P : Program} {w : World} {K : PySem.W.Frag} {mg : Str → Option Value} {base : Heap}
def spLawBehind (K : PySem.W.Frag) : Sp := fun vs H Q _ => ∃ (v u z : V) (S : Sto) (s : Sta) (t : Stp), vs = [v, u, z] ∧ Dp K H v S.d ∧ Dp K H u s.d ∧ Dp K H z t.d ∧ StpOk S.wishes.length t ∧ 0 ≤ s.kept ∧ s.kept ≤ 3 ∧ s.done.length < 60 ∧ s.inside.length < 60 ∧ Ret K H Q (behindS S s t).d
theorem kept_less {k : Int} (h0 : 0 ≤ k) (h3 : k ≤ 3) : atI [V.int 0, V.int 0, V.int 1, V.int 2] k = some (.int (max (k - 1) 0)) := by
  have : k = 0 ∨ k = 1 ∨ k = 2 ∨ k = 3 := by omega
  rcases this with rfl | rfl | rfl | rfl <;> rfl
theorem catA_one {K : PySem.W.Frag} {H : Hp} {i p : Addr} {l : List Int} {b : Int} {Q : VK} (hi : SqT K H i (l.map V.int)) (hp : SqT K H p [V.int b]) (hl : l.length ≤ 900) (q : ∀ a3 H3, Same H H3 → SqT K H3 a3 ((l ++ [b]).map V.int) → Q (.ref a3) H3) : rCatA K (.ref i) (.ref p) H Q := by
  refine ⟨i, p, _, _, rfl, rfl, hi, hp, small (by simp; omega), fun e => ?_, fun _ e => (by cases e), fun _ _ p2 np2 => ?_⟩
  · have e2 : l = [] := List.map_eq_nil_iff.mp e
    rw [e2] at q
    exact q p H (Same.refl _) hp
  · refine q p2 _ (same_new np2) ?_
    rw [List.map_append]
    exact tup_new
/-! _law_behind: 0 _law_store_here, 1 _law_state, 2 _law_step, 3 _law_aisle, 4 _law_done, 5 _law_inside, 6 _law_kept, 7 _law_crew -/
abbrev s__law_behind : Stmt := topS 45
abbrev N__law_behind : List Str := ["_law_store_here", "_law_state", "_law_step", "_law_aisle", "_law_done", "_law_inside", "_law_kept", "_law_crew"]
theorem sc__law_behind : FnScope N__law_behind ["_law_store_here", "_law_state", "_law_step"] (defScope s__law_behind) := ⟨rfl, rfl, rfl, by decide +kernel, rfl, by decide +kernel, by decide +kernel⟩
theorem ok__law_behind {f : Addr} {fd : FuncData} (D : Dfs K mg "_law_behind" s__law_behind ["_law_store_here", "_law_state", "_law_step"] f fd) (T : Tx K mg) : Cal P w K mg base 1 "_law_behind" ["_law_store_here", "_law_state", "_law_step"] (spLawBehind K) f fd := by
  refine D.cal (D.F.ok sc__law_behind (fun vs H Q E h => ?_) (fun cdv A outer s H vs Q E hr h => ?_))
  · obtain ⟨v, u, z, S, s, t, rfl, _⟩ := h
    rfl
  · obtain ⟨v, u, z, S, st, t, rfl, hv, hu, hz, ht, k0, k3, l1, l2, q⟩ := h
    obtain ⟨a, l, m, xs, ys, rfl, so⟩ := sto_at hv
    obtain ⟨sa, d, i, rfl, hsa, hd, hi⟩ := sta_at hu
    refine ⟨_, (pss_cons (ps_asg (pv 1) (pg_tup (by rfl) (pgs_cons (pg_name (i := 3) sc__law_behind.nd rfl (Or.inl rfl)) (pgs_cons (pg_name (i := 4) sc__law_behind.nd rfl (Or.inl rfl)) (pgs_cons (pg_name (i := 5) sc__law_behind.nd rfl (Or.inl rfl)) (pgs_cons (pg_name (i := 6) sc__law_behind.nd rfl (Or.inl rfl)) pgs_nil))))))
      (C8.pss_cut (ps_set (i := 6) sc__law_behind.nd rfl (Or.inl rfl) (pe_ix (kix_list (K := K)) (pe_lst (pa_cons pe_int (pa_cons pe_int (pa_cons pe_int (pa_cons pe_int pa_nil))))) (pv 6) (fun _ _ => rfl)))
      (pss_cons (ps_if (pt_cmpR op_eq (pe_ix (kix_tup (K := K)) (pv 2) pe_int (fun _ _ => rfl)) pe_str (nomark _)) (pss_one (ps_ret (pe_tup (pa_cons (pe_op op_add (pv 3) (pe_ix (kix_tup (K := K)) (pv 2) pe_int (fun _ _ => rfl))) (pa_cons (pv 4) (pa_cons (pv 5) (pa_cons (pv 6) pa_nil))))))) pss_nil)
      (pss_cons (ps_if (pt_cmpR op_eq (pe_ix (kix_tup (K := K)) (pv 2) pe_int (fun _ _ => rfl)) pe_str (nomark _)) (pss_one (ps_ret (pe_tup (pa_cons (pv 3) (pa_cons (pv 4) (pa_cons (pe_callTy (ktuple_of (K := K)) (by rfl) T.n_tuple (by decide +kernel) (pa_cons (pe_callB (ksortedT (K := K)) (by rfl) T.n_sorted (by decide +kernel) (pa_cons (pe_op (kcatA (K := K)) (pv 5) (pe_tup (pa_cons (pe_ix (kix_tup (K := K)) (pv 2) pe_int (fun _ _ => rfl)) pa_nil))) pa_nil)) pa_nil)) (pa_cons (pv 6) pa_nil))))))) pss_nil)
      (pss_cons (ps_if (pt_cmpR op_eq (pe_ix (kix_tup (K := K)) (pv 2) pe_int (fun _ _ => rfl)) pe_str (nomark _)) (pss_one (ps_ret (pe_tup (pa_cons (pv 3) (pa_cons (pv 4) (pa_cons (pe_callTy (ktuple_of (K := K)) (by rfl) T.n_tuple (by decide +kernel) (pa_cons (pe_lc (own := [("_law_crew", 7)]) (g := gName 7) rfl sc__law_behind.nd (pi_tup (pv 5)) (blkOk_by (own := [("_law_crew", 7)]) (N := N__law_behind) (sc := defScope s__law_behind) (by decide +kernel)) (fun _ _ _ _ _ => (pg_name (i := 7) sc__law_behind.nd rfl (Or.inl rfl))) (fun _ _ _ _ _ => (pts_one (pt_cmpR op_ne (pv 7) (pe_ix (kix_tup (K := K)) (pv 2) pe_int (fun _ _ => rfl)) (nomark _)))) (fun _ _ _ _ _ => (pv 7))) pa_nil)) (pa_cons (pv 6) pa_nil))))))) pss_nil)
      (pss_cons (ps_if (pt_cmpR op_eq (pe_ix (kix_tup (K := K)) (pv 2) pe_int (fun _ _ => rfl)) pe_str (nomark _)) (pss_one (ps_ret (pe_tup (pa_cons (pv 3) (pa_cons (pe_callTy (ktuple_of (K := K)) (by rfl) T.n_tuple (by decide +kernel) (pa_cons (pe_callB (ksortedT (K := K)) (by rfl) T.n_sorted (by decide +kernel) (pa_cons (pe_op (kcatA (K := K)) (pv 4) (pe_tup (pa_cons (pe_ix (kix_tup (K := K)) (pv 2) pe_int (fun _ _ => rfl)) pa_nil))) pa_nil)) pa_nil)) (pa_cons (pv 5) (pa_cons (pe_callB (call_max2 rfl) (by rfl) T.n_max (by decide +kernel) (pa_cons (pv 6) (pa_cons (pe_ix (kix_tup (K := K)) (pe_ix (kix_list (K := K)) (pe_ix (kix_tup (K := K)) (pv 0) pe_int (fun _ _ => rfl)) (pe_ix (kix_tup (K := K)) (pv 2) pe_int (fun _ _ => rfl)) (fun _ _ => rfl)) pe_int (fun _ _ => rfl)) pa_nil))) pa_nil))))))) pss_nil)
      (pss_one (ps_ret (pe_tup (pa_cons (pv 3) (pa_cons (pv 4) (pa_cons (pv 5) (pa_cons (pv 6) pa_nil))))))))))))), ?_⟩
    refine ⟨_, rfl, sa, _, rfl, hsa, rfl, _, _, rfl, _, _, rfl, _, _, rfl, _, _, rfl, rfl, ?_⟩
    refine ⟨fun σ H' => Same H H' ∧ σ = [some (.ref a), some (.ref sa), some z, some (.int st.aisle), some (.ref d), some (.ref i), some (.int (max (st.kept - 1) 0)), none], ?_, ?_⟩
    · refine ⟨small (by simp), fun p0 np0 => ⟨_, rfl, p0, _, st.kept, _, rfl, rfl, lst_new, kept_less k0 k3, same_new np0, rfl⟩⟩
    rintro σ H0 ⟨s0, rfl⟩
    generalize hk1 : max (st.kept - 1) 0 = k1
    have hz0 := dp_mono s0 hz
    have hd0 := Same.t s0 hd
    have hi0 := Same.t s0 hi
    have ret : ∀ (d2 i2 : Addr) (st2 : Sta) (H2 : Hp), Same H0 H2 → SqT K H2 d2 (st2.done.map V.int) → SqT K H2 i2 (st2.inside.map V.int) → st2 = behindS S st t → ∀ p2, H2 p2 = none → Q (.ref p2) (upd H2 p2 (.tup [.int st2.aisle, .ref d2, .ref i2, .int st2.kept])) := by
      intro d2 i2 st2 H2 s2 h1 h2 e p2 np2
      have z := same_new (o := .tup [.int st2.aisle, .ref d2, .ref i2, .int st2.kept]) np2
      exact q _ _ ((s0.trans s2).trans z) (by rw [← e]; exact at_sta tup_new (Same.t z h1) (Same.t z h2))
    cases t with
    | wait =>
      obtain ⟨c, rfl, hc⟩ := dp_one hz0
      refine ⟨_, rfl, c, _, 0, .str "wait", rfl, rfl, hc, rfl, rfl, _, rfl, itF (sne (by decide +kernel)) ?_⟩
      refine ⟨_, rfl, c, _, 0, .str "wait", rfl, rfl, hc, rfl, rfl, _, rfl, itF (sne (by decide +kernel)) ?_⟩
      refine ⟨_, rfl, c, _, 0, .str "wait", rfl, rfl, hc, rfl, rfl, _, rfl, itF (sne (by decide +kernel)) ?_⟩
      refine ⟨_, rfl, c, _, 0, .str "wait", rfl, rfl, hc, rfl, rfl, _, rfl, itF (sne (by decide +kernel)) ?_⟩
      exact ⟨_, rfl, _, rfl, _, rfl, _, rfl, small (by simp), ret d i ⟨st.aisle, st.done, st.inside, k1⟩ H0 (Same.refl _) hd0 hi0 (by rw [← hk1]; rfl)⟩
    | shift b =>
      obtain ⟨c, rfl, hc⟩ := dp_two hz0
      refine ⟨_, rfl, c, _, 0, .str "shift", rfl, rfl, hc, rfl, rfl, _, rfl, itD rfl ?_⟩
      refine ⟨_, rfl, _, rfl, c, _, 1, .int b, rfl, rfl, hc, rfl, _, _, rfl, rfl, _, rfl, _, rfl, _, rfl, small (by simp), ret d i ⟨st.aisle + b, st.done, st.inside, k1⟩ H0 (Same.refl _) hd0 hi0 (by rw [← hk1]; rfl)⟩
    | cin b =>
      obtain ⟨c, rfl, hc⟩ := dp_two hz0
      refine ⟨_, rfl, c, _, 0, .str "in", rfl, rfl, hc, rfl, rfl, _, rfl, itF (sne (by decide +kernel)) ?_⟩
      refine ⟨_, rfl, c, _, 0, .str "in", rfl, rfl, hc, rfl, rfl, _, rfl, itD rfl ?_⟩
      refine ⟨_, rfl, _, rfl, _, rfl, _, rfl, c, _, 1, .int b, rfl, rfl, hc, rfl, small (by simp), fun p1 np1 => ?_⟩
      refine catA_one (Same.t (same_new np1) hi0) tup_new (by omega) fun a3 H3 s3 h3 => ?_
      have s13 := (same_new np1).trans s3
      refine ⟨a3, st.inside ++ [b], rfl, h3, by simp; omega, fun p4 np4 => ?_⟩
      have z4 := same_new (o := .lst ((sortI (st.inside ++ [b])).map V.int)) np4
      refine ⟨p4, _, rfl, .inl ⟨lst_new, fun p5 np5 => ?_⟩⟩
      have z5 := same_new (o := .tup ((sortI (st.inside ++ [b])).map V.int)) np5
      have s15 := (s13.trans z4).trans z5
      exact ⟨_, rfl, small (by simp), ret d p5 ⟨st.aisle, st.done, sortI (st.inside ++ [b]), k1⟩ _ s15 (Same.t s15 hd0) tup_new (by rw [← hk1]; rfl)⟩
    | cout b =>
      obtain ⟨c, rfl, hc⟩ := dp_two hz0
      refine ⟨_, rfl, c, _, 0, .str "out", rfl, rfl, hc, rfl, rfl, _, rfl, itF (sne (by decide +kernel)) ?_⟩
      refine ⟨_, rfl, c, _, 0, .str "out", rfl, rfl, hc, rfl, rfl, _, rfl, itF (sne (by decide +kernel)) ?_⟩
      refine ⟨_, rfl, c, _, 0, .str "out", rfl, rfl, hc, rfl, rfl, _, rfl, itD rfl ?_⟩
      refine ⟨_, rfl, _, rfl, _, rfl, i, rfl, ⟨_, hi0⟩, fun D1 nD1 => ?_⟩
      refine lc_tup (K := K) (a := i) (xs := st.inside.map V.int) (fun j H' => Same H0 H' ∧ H' D1 = some (.lst (((st.inside.take j).filter fun z => decide (z ≠ b)).map V.int))) ⟨same_new nD1, ?_⟩ (fun j H' _ h => Same.t h.1 hi0) ?_ ?_
      · rw [List.take_zero, upd_same]
        rfl
      · rintro j y H' hj ⟨s1, eD⟩
        obtain ⟨z, hzj, rfl⟩ := int_item hj
        have ef := filter_snoc (p := fun z => decide (z ≠ b)) hzj
        rw [ef]
        refine ⟨rfl, _, rfl, _, rfl, c, _, 1, .int b, rfl, rfl, Same.t s1 hc, rfl, rfl, _, rfl, ?_⟩
        by_cases e2 : z = b
        · rw [decide_eq_false (fun h => h e2), if_neg Bool.false_ne_true, List.append_nil]
          exact iteNS (by rw [e2]) ⟨s1, eD⟩
        · rw [decide_eq_true e2, if_pos rfl]
          refine itnF (ine e2) ⟨_, rfl, _, eD, ?_, ?_, ?_⟩
          · rw [List.length_map]
            refine small1000 (Nat.le_trans (List.length_filter_le _ _) ?_)
            rw [List.length_take]
            omega
          · intro b' o' h
            rw [upd_ne (ne_of_none h nD1)]
            exact s1 b' o' h
          · rw [upd_same, List.map_append]
            rfl
      · rintro H1 ⟨s1, eD⟩
        rw [List.length_map, List.take_length] at eD
        refine ⟨D1, _, rfl, .inl ⟨SqL.of eD, fun p3 np3 => ?_⟩⟩
        have z3 := s1.trans (same_new (o := .tup ((st.inside.filter fun z => decide (z ≠ b)).map V.int)) np3)
        exact ⟨_, rfl, small (by simp), ret d p3 ⟨st.aisle, st.done, st.inside.filter (fun z => decide (z ≠ b)), k1⟩ _ z3 (Same.t z3 hd0) tup_new (by rw [← hk1]; rfl)⟩
    | wish n =>
      obtain ⟨c, rfl, hc⟩ := dp_two hz0
      obtain ⟨x, hx, _⟩ := wish_at_k ht.1 ht.2
      have ek : keepAt S n = x.keep := by
        unfold keepAt
        rw [hx]
      refine ⟨_, rfl, c, _, 0, .str "do", rfl, rfl, hc, rfl, rfl, _, rfl, itF (sne (by decide +kernel)) ?_⟩
      refine ⟨_, rfl, c, _, 0, .str "do", rfl, rfl, hc, rfl, rfl, _, rfl, itF (sne (by decide +kernel)) ?_⟩
      refine ⟨_, rfl, c, _, 0, .str "do", rfl, rfl, hc, rfl, rfl, _, rfl, itF (sne (by decide +kernel)) ?_⟩
      refine ⟨_, rfl, c, _, 0, .str "do", rfl, rfl, hc, rfl, rfl, _, rfl, itD rfl ?_⟩
      refine ⟨_, rfl, _, rfl, _, rfl, c, _, 1, .int n, rfl, rfl, hc, rfl, small (by simp), fun p1 np1 => ?_⟩
      refine catA_one (Same.t (same_new np1) hd0) tup_new (by omega) fun a3 H3 s3 h3 => ?_
      have s13 := (same_new np1).trans s3
      refine ⟨a3, st.done ++ [n], rfl, h3, by simp; omega, fun p4 np4 => ?_⟩
      have z4 := same_new (o := .lst ((sortI (st.done ++ [n])).map V.int)) np4
      refine ⟨p4, _, rfl, .inl ⟨lst_new, fun p5 np5 => ?_⟩⟩
      have z5 := same_new (o := .tup ((sortI (st.done ++ [n])).map V.int)) np5
      have s15 := (s13.trans z4).trans z5
      have so5 := (so.mono s0).mono s15
      obtain ⟨wa, wt, ha, hT, _⟩ := wish_get so5.dy hx
      refine ⟨_, rfl, _, rfl, _, rfl, a, _, 2, .ref m, rfl, rfl, so5.t, rfl, _, rfl, c, _, 1, .int n, rfl, rfl, Same.t s15 hc, rfl, m, ys, n, .ref wa, rfl, rfl, so5.m, at_of (j := n.toNat) (by have := ht.1; omega) ha, wa, _, 4, .int x.keep, rfl, rfl, hT, rfl, _, _, rfl, small (by simp), ?_⟩
      rw [maxI]
      exact ret p5 i ⟨st.aisle, sortI (st.done ++ [n]), st.inside, max k1 x.keep⟩ _ s15 tup_new (Same.t s15 hi0) (by rw [← hk1, ← ek]; rfl)
end

theorem at_last {ys : List V} {u : V} : atI (ys ++ [u]) (-1) = some u := by
  have e : ixN (ys ++ [u]).length (-1) = some ys.length := by
    unfold ixN
    rw [List.length_append, List.length_singleton, if_neg (by decide), if_pos (by omega)]
    have : (-1 + ((ys.length + 1 : Nat) : Int)).toNat = ys.length := by omega
    rw [this]
  unfold atI
  rw [e]
  show (ys ++ [u])[ys.length]? = some u
  rw [List.getElem?_append_right (Nat.le_refl _), Nat.sub_self]
  rfl
theorem StaOk.run {S : Sto} (ok : StoOk S) : ∀ {ts : List Stp} {s : Sta}, StaOk S s → OpenPlan S s ts → (∀ t ∈ ts, StpOk S.wishes.length t) → StaOk S (runS S s ts)
  | [], s, h, _, _ => h
  | t :: r, s, h, op, ht => StaOk.run ok (ts := r) (h.step ok (ht t List.mem_cons_self) op.1) op.2 fun u hu => ht u (List.mem_cons_of_mem _ hu)
theorem StaOk.lens {S : Sto} {s : Sta} (ok : StoOk S) (h : StaOk S s) : s.done.length < 60 ∧ s.inside.length < 60 := by
  have h1 := h.done.len
  have w5 := ok.w5
  refine ⟨by omega, ?_⟩
  rcases h.inside with e | e | e | e <;> rw [e] <;> decide
def dword : Option (Str × Int × Nat) → PyData
  | none => .none
  | some (r, n, i) => .tuple [.str r, .int n, .int (i : Int)]
/-- how far a plan goes, and what ends it -/
def Goes (S : Sto) (ts : List Stp) (n : Nat) : Option (Str × Int × Nat) → Prop
  | none => n = ts.length ∧ OpenPlan S (sta0 S) ts
  | some (r, k, i) => i = n ∧ OpenPlan S (sta0 S) (ts.take n) ∧ ∃ t, ts[n]? = some t ∧ bar S (runS S (sta0 S) (ts.take n)) t = some (r, k)
theorem Goes.le {S : Sto} {ts : List Stp} {n : Nat} {o : Option (Str × Int × Nat)} (h : Goes S ts n o) : n ≤ ts.length := by
  match o, h with
  | none, ⟨h, _⟩ => exact Nat.le_of_eq h
  | some (r, k, i), ⟨_, _, t, h, _⟩ => exact Nat.le_of_lt (List.getElem?_eq_some_iff.mp h).1
theorem Goes.open_ {S : Sto} {ts : List Stp} {n : Nat} {o : Option (Str × Int × Nat)} (h : Goes S ts n o) : OpenPlan S (sta0 S) (ts.take n) := by
  match o, h with
  | none, ⟨h, op⟩ =>
    rw [h, List.take_length]
    exact op
  | some (r, k, i), ⟨_, op, _⟩ => exact op
theorem Goes.lay {S : Sto} {ts : List Stp} {n : Nat} {o : Option (Str × Int × Nat)} (h : Goes S ts n o) : Lay 1 (dword o) := by
  match o, h with
  | none, _ => exact lay_none
  | some (r, k, i), ⟨_, _, t, _, hb⟩ =>
    have hr := bar_rule S (runS S (sta0 S) (ts.take n)) t
    rw [hb] at hr
    exact (Lays.cons (lay_str hr) (Lays.cons lay_int (Lays.cons lay_int lays_nil))).tup
section
variable {P : Program} {w : World} {K : PySem.W.Frag} {mg : Str → Option Value} {base : Heap}
def spDue (K : PySem.W.Frag) : Sp := fun vs H Q _ => ∃ (v : V) (l : Addr) (xs : List V) (S : Sto) (ts : List Stp), vs = [v, .ref l] ∧ Dp K H v S.d ∧ StoOk S ∧ SqL K H l xs ∧ DpAll K H xs (dsteps ts) ∧ (∀ t ∈ ts, StpOk S.wishes.length t) ∧ ts.length ≤ 50 ∧
  ∀ p q zs u n o H', Same H H' → SqT K H' p [.ref q, u] → H q = none → H' q = some (.lst zs) → DpAll K H' zs (dstates (playS S (sta0 S) (ts.take n))) → Dp K H' u (dword o) → Goes S ts n o → Q (.ref p) H'
/-! _law_due: 0 _law_store_here, 1 _law_plan, 2 _law_states, 3 _law_at, 4 _law_bar_here -/
abbrev s__law_due : Stmt := topS 51
abbrev N__law_due : List Str := ["_law_store_here", "_law_plan", "_law_states", "_law_at", "_law_bar_here"]
theorem sc__law_due : FnScope N__law_due ["_law_store_here", "_law_plan"] (defScope s__law_due) := ⟨rfl, rfl, rfl, by decide +kernel, rfl, by decide +kernel, by decide +kernel⟩
theorem ok__law_due {f f1 f2 f3 : Addr} {fd fd1 fd2 fd3 : FuncData} (D : Dfs K mg "_law_due" s__law_due ["_law_store_here", "_law_plan"] f fd) (T : Tx K mg) (C__law_begin : Cal P w K mg base 1 "_law_begin" ["_law_store_here"] (spLawBegin K) f1 fd1)
    (C__law_bar : Cal P w K mg base 3 "_law_bar" ["_law_store_here", "_law_state", "_law_step"] (spLawBar K) f2 fd2) (C__law_behind : Cal P w K mg base 1 "_law_behind" ["_law_store_here", "_law_state", "_law_step"] (spLawBehind K) f3 fd3) :
    Cal P w K mg base 4 "_law_due" ["_law_store_here", "_law_plan"] (spDue K) f fd := by
  refine D.cal (D.F.ok sc__law_due (fun vs H Q E h => ?_) (fun cdv A outer s H vs Q E hr h => ?_))
  · obtain ⟨v, l, xs, S, ts, rfl, _⟩ := h
    rfl
  · obtain ⟨v, l, xs, S, ts, rfl, hv, ok, hl, dl, hts, hlen, q⟩ := h
    have lx : xs.length = ts.length := (dps_len dl).trans (List.length_map ..)
    refine ⟨_, (pss_cons (ps_set (i := 2) sc__law_due.nd rfl (Or.inl rfl) (pe_lst (pa_cons (pe_call C__law_begin.G (hr.mono (by decide)) (by rfl) C__law_begin.g C__law_begin.kp C__law_begin.b .nil pass0 (pa_cons (pv 0) pa_nil)) pa_nil)))
      (pss_cons (ps_for PassesOwn.never rfl (pi_range1 (by rfl) T.n_range (pa_cons (pe_callB (klen (K := K)) (by rfl) T.n_len (by decide +kernel) (pa_cons (pv 1) pa_nil)) pa_nil)) (pg_name (i := 3) sc__law_due.nd rfl (Or.inl rfl)) (pss_cons (ps_set (i := 4) sc__law_due.nd rfl (Or.inl rfl) (pe_call C__law_bar.G (hr.mono (by decide)) (by rfl) C__law_bar.g C__law_bar.kp C__law_bar.b .nil pass0 (pa_cons (pv 0) (pa_cons (pe_ix (kix_list (K := K)) (pv 2) (pe_un un_neg pe_int) (fun _ _ => rfl)) (pa_cons (pe_ix (kix_list (K := K)) (pv 1) (pv 3) (fun _ _ => rfl)) pa_nil)))))
      (pss_cons (ps_if (pt_cmpR op_notN (pv 4) pe_non (nomark _)) (pss_one (ps_ret (pe_tup (pa_cons (pv 2) (pa_cons (pe_op (kcatA (K := K)) (pv 4) (pe_tup (pa_cons (pv 3) pa_nil))) pa_nil))))) pss_nil)
      (pss_one (ps_expr (pe_bm PySem.F.plainAttrs_list PySem.F.slot_list_append PySem.F.type_list_append mt_append (pv 2) (pa_cons (pe_call C__law_behind.G (hr.mono (by decide)) (by rfl) C__law_behind.g C__law_behind.kp C__law_behind.b .nil pass0 (pa_cons (pv 0) (pa_cons (pe_ix (kix_list (K := K)) (pv 2) (pe_un un_neg pe_int) (fun _ _ => rfl)) (pa_cons (pe_ix (kix_list (K := K)) (pv 1) (pv 3) (fun _ _ => rfl)) pa_nil)))) pa_nil)))))))
      (pss_one (ps_ret (pe_tup (pa_cons (pv 2) (pa_cons pe_non pa_nil))))))), ?_⟩
    refine ⟨_, rfl, v, S, rfl, hv, fun u0 H1 s1 d1 => ⟨small (by simp), fun r nr => ?_⟩⟩
    have A0 : Acq K H1 H1 (upd H1 r (.lst ([] ++ [u0]))) r ([] ++ [u0]) (dstates (playS S (sta0 S) (ts.take 0))) := by
      rw [List.take_zero]
      exact ⟨Same.refl _, same_new nr, nr, upd_same, .cons d1 .nil⟩
    have hl1 := Same.l (s1.trans A0.R) hl
    refine ⟨_, rfl, l, xs, rfl, .inl hl1, _, rfl, by omega, by omega, for_range (lo := 0) (n := (xs.length : Int).toNat) (fun i σ H' => ∃ (B : Hp) (ys : List V) (u : V) (v3 v4 : Option V), σ = [some v, some (.ref l), some (.ref r), v3, v4] ∧ Acq K H1 B H' r (ys ++ [u]) (dstates (playS S (sta0 S) (ts.take i))) ∧ Dp K B u (runS S (sta0 S) (ts.take i)).d ∧ OpenPlan S (sta0 S) (ts.take i))
      ⟨H1, [], u0, none, none, rfl, A0, by rw [List.take_zero]; exact d1, by rw [List.take_zero]; trivial⟩ ?_ ?_⟩
    · rintro i σ H3 hi ⟨B, ys, u, v3, v4, rfl, A, du, op⟩
      have hi' : i < ts.length := by omega
      have ht : ts[i]? = some ts[i] := List.getElem?_eq_getElem hi'
      generalize ts[i] = t at ht
      have tok := hts t (List.mem_of_getElem? ht)
      obtain ⟨y, hy, dy⟩ := dps_get dl (i := i) (d := t.d) (by unfold dsteps; rw [List.getElem?_map, ht]; rfl)
      have s3 := s1.trans (A.s.trans A.R)
      have sk := StaOk.run ok (sta0_ok ok) op fun t h => hts t (List.mem_of_mem_take h)
      have hy0 : atI xs (0 + (i : Int)) = some y := at_of (j := i) (by omega) hy
      refine ⟨_, rfl, _, rfl, 1, rfl, r, _, -1, u, rfl, rfl, SqL.of A.el, at_last, _, rfl, _, rfl, l, xs, _, y, rfl, rfl, Same.l s3 hl, hy0, v, u, y, S, _, t, rfl, dp_mono s3 hv, dp_mono A.R du, dp_mono s3 dy, ok, sk, tok, fun b H4 s4 d4 => ?_⟩
      have A4 := A.keep s4
      have s34 := s3.trans s4
      cases hb : bar S (runS S (sta0 S) (ts.take i)) t with
      | some rn =>
        obtain ⟨rr, nn⟩ := rn
        rw [hb] at d4
        obtain ⟨ba, rfl, hba⟩ := dp_two d4
        refine ⟨_, rfl, rfl, _, rfl, itnF (fun z => by cases z) ?_⟩
        refine ⟨_, rfl, _, rfl, _, rfl, small (by simp), fun p1 np1 => ⟨ba, p1, _, _, rfl, rfl, Same.t (same_new np1) hba, tup_new, small (by simp), fun e => (by cases e), fun _ e => (by cases e), fun _ _ p2 np2 => ⟨small (by simp), fun p3 np3 => ?_⟩⟩⟩
        have z1 := same_new (o := .tup [.int (0 + (i : Int))]) np1
        have z2 := same_new (o := .tup ([.str rr, .int nn] ++ [.int (0 + (i : Int))])) np2
        have z3 := same_new (o := .tup [.ref r, .ref p2]) np3
        have z := (z1.trans z2).trans z3
        refine q p3 r (ys ++ [u]) (.ref p2) i (some (rr, nn, i)) _ (s34.trans z) tup_new (s1.free nr) (z _ _ A4.el) (dps_mono (A4.R.trans z) A.dx) ?_ ⟨rfl, op, t, ht, hb⟩
        have e0 : (0 + (i : Int)) = (i : Int) := by omega
        rw [e0] at z3 ⊢
        exact .tup (Same.t z3 tup_new) (.cons (.str _) (.cons (.int _) (.cons (.int _) .nil)))
      | none =>
        rw [hb] at d4
        rw [dp_none d4]
        refine ⟨_, rfl, rfl, _, rfl, iteNS rfl ?_⟩
        obtain ⟨l1, l2⟩ := sk.lens ok
        refine ⟨_, rfl, .inl ⟨rfl, _, SqL.of A4.el⟩, _, rfl, _, rfl, 1, rfl, r, _, -1, u, rfl, rfl, SqL.of A4.el, at_last, _, rfl, _, rfl, l, xs, _, y, rfl, rfl, Same.l s34 hl, hy0, v, u, y, S, _, t, rfl, dp_mono s34 hv, dp_mono (A.R.trans s4) du, dp_mono s34 dy, tok, sk.k0, sk.k3, l1, l2, fun u2 H5 s5 d5 => ?_⟩
        have A5 := A4.pure s5
        have e5 := A5.el
        have du5 := dp_del e5 d5 (noL_sta _)
        have er : runS S (sta0 S) (ts.take (i + 1)) = behindS S (runS S (sta0 S) (ts.take i)) t := by
          rw [take_snoc ht, runS_snoc]
        have ep : dstates (playS S (sta0 S) (ts.take (i + 1))) = dstates (playS S (sta0 S) (ts.take i)) ++ [(runS S (sta0 S) (ts.take (i + 1))).d] := by
          rw [take_snoc ht, playS_snoc]
          exact List.map_append ..
        rw [← er] at du5
        have A6 := A5.app du5
        refine ⟨r, _, _, rfl, rfl, e5, ?_, del1 H5 r, ys ++ [u], u2, _, _, rfl, ?_, du5, ?_⟩
        · have e := dps_len A5.dx
          unfold dstates at e
          rw [List.length_map, playS_len, List.length_take] at e
          exact small1000 (by omega)
        · rw [ep]
          exact A6
        · rw [take_snoc ht]
          exact op.snoc hb
    · rintro σ H3 ⟨B, ys, u, v3, v4, rfl, A, du, op⟩
      have en : (xs.length : Int).toNat = ts.length := by omega
      rw [en] at A op
      rw [List.take_length] at op
      refine ⟨_, rfl, small (by simp), fun p3 np3 => ?_⟩
      have z := same_new (o := .tup [.ref r, .non]) np3
      obtain ⟨s3, _, dz⟩ := A.all
      exact q p3 r (ys ++ [u]) .non ts.length none _ ((s1.trans s3).trans z) tup_new (s1.free nr) (z _ _ A.el) (dps_mono z dz) .non ⟨rfl, op⟩
end

/-! ## steps that are none -/
def noneD (m far : Int) : List PyData :=
  [.tuple [.str "shift", .int 0], .tuple [.str "shift", .int (2 + far)], .tuple [.str "shift", .int (-2 - far)], .tuple [.str "in", .int (2 + far)], .tuple [.str "in", .int (-1 - far)], .tuple [.str "out", .int 2],
    .tuple [.str "out", .int (-1)], .tuple [.str "do", .int (m + far)], .tuple [.str "do", .int (-1 - far)], .tuple [.str "wait", .int 0], .tuple [.str "go", .int 1], .tuple [.str "shift"],
    .tuple [.str "do"], .tuple [.str "in", .int 0, .int 0], .tuple [.str "shift", .int 1, .int 1], .tuple [.str "stay"]]
theorem stp_one {m : Int} {w : Str} {t : Stp} (_ : StpOk m t) (e : PyData.tuple [.str w] = t.d) : w = "wait" := by
  cases t with
  | wait =>
    have e : PyData.tuple [.str w] = .tuple [.str "wait"] := e
    simpa using e
  | shift b => exact absurd (show PyData.tuple [.str w] = .tuple [.str "shift", .int b] from e) (by simp)
  | cin b => exact absurd (show PyData.tuple [.str w] = .tuple [.str "in", .int b] from e) (by simp)
  | cout b => exact absurd (show PyData.tuple [.str w] = .tuple [.str "out", .int b] from e) (by simp)
  | wish b => exact absurd (show PyData.tuple [.str w] = .tuple [.str "do", .int b] from e) (by simp)
theorem stp_two {m : Int} {w : Str} {n : Int} {t : Stp} (h : StpOk m t) (e : PyData.tuple [.str w, .int n] = t.d) : (w = "shift" ∧ (n = -1 ∨ n = 1)) ∨ (w = "in" ∧ (n = 0 ∨ n = 1)) ∨ (w = "out" ∧ (n = 0 ∨ n = 1)) ∨ (w = "do" ∧ 0 ≤ n ∧ n < m) := by
  cases t with
  | wait => exact absurd (show PyData.tuple [.str w, .int n] = .tuple [.str "wait"] from e) (by simp)
  | shift b =>
    have e : PyData.tuple [.str w, .int n] = .tuple [.str "shift", .int b] := e
    simp at e
    obtain ⟨rfl, rfl⟩ := e
    exact .inl ⟨rfl, h⟩
  | cin b =>
    have e : PyData.tuple [.str w, .int n] = .tuple [.str "in", .int b] := e
    simp at e
    obtain ⟨rfl, rfl⟩ := e
    exact .inr (.inl ⟨rfl, h⟩)
  | cout b =>
    have e : PyData.tuple [.str w, .int n] = .tuple [.str "out", .int b] := e
    simp at e
    obtain ⟨rfl, rfl⟩ := e
    exact .inr (.inr (.inl ⟨rfl, h⟩))
  | wish b =>
    have e : PyData.tuple [.str w, .int n] = .tuple [.str "do", .int b] := e
    simp at e
    obtain ⟨rfl, rfl⟩ := e
    exact .inr (.inr (.inr ⟨rfl, h⟩))
theorem stp_three {m : Int} {w : Str} {a b : PyData} {t : Stp} (_ : StpOk m t) (e : PyData.tuple [.str w, a, b] = t.d) : False := by
  cases t with
  | wait => exact absurd (show PyData.tuple [.str w, a, b] = .tuple [.str "wait"] from e) (by simp)
  | shift c => exact absurd (show PyData.tuple [.str w, a, b] = .tuple [.str "shift", .int c] from e) (by simp)
  | cin c => exact absurd (show PyData.tuple [.str w, a, b] = .tuple [.str "in", .int c] from e) (by simp)
  | cout c => exact absurd (show PyData.tuple [.str w, a, b] = .tuple [.str "out", .int c] from e) (by simp)
  | wish c => exact absurd (show PyData.tuple [.str w, a, b] = .tuple [.str "do", .int c] from e) (by simp)
theorem nb1 : ¬ (("shift" : Str) = "in") := by decide +kernel
theorem nb2 : ¬ (("shift" : Str) = "out") := by decide +kernel
theorem nb3 : ¬ (("shift" : Str) = "do") := by decide +kernel
theorem nb4 : ¬ (("in" : Str) = "shift") := by decide +kernel
theorem nb5 : ¬ (("in" : Str) = "out") := by decide +kernel
theorem nb6 : ¬ (("in" : Str) = "do") := by decide +kernel
theorem nb7 : ¬ (("out" : Str) = "shift") := by decide +kernel
theorem nb8 : ¬ (("out" : Str) = "in") := by decide +kernel
theorem nb9 : ¬ (("out" : Str) = "do") := by decide +kernel
theorem nb10 : ¬ (("do" : Str) = "shift") := by decide +kernel
theorem nb11 : ¬ (("do" : Str) = "in") := by decide +kernel
theorem nb12 : ¬ (("do" : Str) = "out") := by decide +kernel
theorem nb13 : ¬ (("wait" : Str) = "shift") ∧ ¬ (("wait" : Str) = "in") ∧ ¬ (("wait" : Str) = "out") ∧ ¬ (("wait" : Str) = "do") := by decide +kernel
theorem nb14 : ¬ (("go" : Str) = "shift") ∧ ¬ (("go" : Str) = "in") ∧ ¬ (("go" : Str) = "out") ∧ ¬ (("go" : Str) = "do") := by decide +kernel
theorem nb15 : ¬ (("shift" : Str) = "wait") ∧ ¬ (("do" : Str) = "wait") ∧ ¬ (("stay" : Str) = "wait") := by decide +kernel
theorem ok_go : PyData.strOk "go" = true := by decide +kernel
theorem ok_stay : PyData.strOk "stay" = true := by decide +kernel
theorem wlen_go : ("go" : Str).length ≤ 100 := by decide +kernel
theorem wlen_stay : ("stay" : Str).length ≤ 100 := by decide +kernel
theorem stepD1 {w : Str} (h : PyData.strOk w = true) (l : w.length ≤ 100) : StepD (.tuple [.str w]) := ⟨_, rfl, by show 1 ≤ 5; decide, fun e he => by
  rw [List.mem_singleton] at he
  rw [he]
  exact .inl ⟨_, rfl, h, l⟩⟩
theorem stepD2 {w : Str} {n : Int} (h : PyData.strOk w = true) (l : w.length ≤ 100) (h0 : -100000000 ≤ n) (h1 : n ≤ 100000000) : StepD (.tuple [.str w, .int n]) := ⟨_, rfl, by show 2 ≤ 5; decide, fun e he => by
  simp only [List.mem_cons, List.not_mem_nil, or_false] at he
  rcases he with rfl | rfl
  · exact .inl ⟨_, rfl, h, l⟩
  · exact item_int h0 h1⟩
theorem stepD3 {w : Str} {n k : Int} (h : PyData.strOk w = true) (l : w.length ≤ 100) (h0 : -100000000 ≤ n) (h1 : n ≤ 100000000) (h2 : -100000000 ≤ k) (h3 : k ≤ 100000000) : StepD (.tuple [.str w, .int n, .int k]) := ⟨_, rfl, by show 3 ≤ 5; decide, fun e he => by
  simp only [List.mem_cons, List.not_mem_nil, or_false] at he
  rcases he with rfl | rfl | rfl
  · exact .inl ⟨_, rfl, h, l⟩
  · exact item_int h0 h1
  · exact item_int h2 h3⟩
theorem noneD_ok {S : Sto} (ok : StoOk S) {far : Int} (h0 : 0 ≤ far) (h1 : far < 1000000) : ∀ d ∈ noneD S.wishes.length far, StepD d ∧ ¬ IsStp S d := by
  intro d hd
  have w5 := ok.w5
  unfold noneD at hd
  simp only [List.mem_cons, List.not_mem_nil, or_false] at hd
  rcases hd with rfl | rfl | rfl | rfl | rfl | rfl | rfl | rfl | rfl | rfl | rfl | rfl | rfl | rfl | rfl | rfl
  · exact ⟨stepD2 ok_shift wlen_shift (by omega) (by omega), fun ⟨t, ht, e⟩ => by rcases stp_two ht e with ⟨_, z⟩ | ⟨z, _⟩ | ⟨z, _⟩ | ⟨z, _⟩ <;> first | omega | exact nb1 z | exact nb2 z | exact nb3 z⟩
  · exact ⟨stepD2 ok_shift wlen_shift (by omega) (by omega), fun ⟨t, ht, e⟩ => by rcases stp_two ht e with ⟨_, z⟩ | ⟨z, _⟩ | ⟨z, _⟩ | ⟨z, _⟩ <;> first | omega | exact nb1 z | exact nb2 z | exact nb3 z⟩
  · exact ⟨stepD2 ok_shift wlen_shift (by omega) (by omega), fun ⟨t, ht, e⟩ => by rcases stp_two ht e with ⟨_, z⟩ | ⟨z, _⟩ | ⟨z, _⟩ | ⟨z, _⟩ <;> first | omega | exact nb1 z | exact nb2 z | exact nb3 z⟩
  · exact ⟨stepD2 ok_in wlen_in (by omega) (by omega), fun ⟨t, ht, e⟩ => by rcases stp_two ht e with ⟨z, _⟩ | ⟨_, z⟩ | ⟨z, _⟩ | ⟨z, _⟩ <;> first | omega | exact nb4 z | exact nb5 z | exact nb6 z⟩
  · exact ⟨stepD2 ok_in wlen_in (by omega) (by omega), fun ⟨t, ht, e⟩ => by rcases stp_two ht e with ⟨z, _⟩ | ⟨_, z⟩ | ⟨z, _⟩ | ⟨z, _⟩ <;> first | omega | exact nb4 z | exact nb5 z | exact nb6 z⟩
  · exact ⟨stepD2 ok_out wlen_out (by omega) (by omega), fun ⟨t, ht, e⟩ => by rcases stp_two ht e with ⟨z, _⟩ | ⟨z, _⟩ | ⟨_, z⟩ | ⟨z, _⟩ <;> first | omega | exact nb7 z | exact nb8 z | exact nb9 z⟩
  · exact ⟨stepD2 ok_out wlen_out (by omega) (by omega), fun ⟨t, ht, e⟩ => by rcases stp_two ht e with ⟨z, _⟩ | ⟨z, _⟩ | ⟨_, z⟩ | ⟨z, _⟩ <;> first | omega | exact nb7 z | exact nb8 z | exact nb9 z⟩
  · exact ⟨stepD2 ok_do wlen_do (by omega) (by omega), fun ⟨t, ht, e⟩ => by rcases stp_two ht e with ⟨z, _⟩ | ⟨z, _⟩ | ⟨z, _⟩ | ⟨_, z⟩ <;> first | omega | exact nb10 z | exact nb11 z | exact nb12 z⟩
  · exact ⟨stepD2 ok_do wlen_do (by omega) (by omega), fun ⟨t, ht, e⟩ => by rcases stp_two ht e with ⟨z, _⟩ | ⟨z, _⟩ | ⟨z, _⟩ | ⟨_, z⟩ <;> first | omega | exact nb10 z | exact nb11 z | exact nb12 z⟩
  · exact ⟨stepD2 ok_wait wlen_wait (by omega) (by omega), fun ⟨t, ht, e⟩ => by rcases stp_two ht e with ⟨z, _⟩ | ⟨z, _⟩ | ⟨z, _⟩ | ⟨z, _⟩ <;> first | exact nb13.1 z | exact nb13.2.1 z | exact nb13.2.2.1 z | exact nb13.2.2.2 z⟩
  · exact ⟨stepD2 ok_go wlen_go (by omega) (by omega), fun ⟨t, ht, e⟩ => by rcases stp_two ht e with ⟨z, _⟩ | ⟨z, _⟩ | ⟨z, _⟩ | ⟨z, _⟩ <;> first | exact nb14.1 z | exact nb14.2.1 z | exact nb14.2.2.1 z | exact nb14.2.2.2 z⟩
  · exact ⟨stepD1 ok_shift wlen_shift, fun ⟨t, ht, e⟩ => nb15.1 (stp_one ht e)⟩
  · exact ⟨stepD1 ok_do wlen_do, fun ⟨t, ht, e⟩ => nb15.2.1 (stp_one ht e)⟩
  · exact ⟨stepD3 ok_in wlen_in (by omega) (by omega) (by omega) (by omega), fun ⟨t, ht, e⟩ => stp_three ht e⟩
  · exact ⟨stepD3 ok_shift wlen_shift (by omega) (by omega) (by omega) (by omega), fun ⟨t, ht, e⟩ => stp_three ht e⟩
  · exact ⟨stepD1 ok_stay wlen_stay, fun ⟨t, ht, e⟩ => nb15.2.2 (stp_one ht e)⟩
theorem noLs_mem : ∀ {ds : List PyData} {d : PyData}, noLs ds = true → d ∈ ds → noL d = true
  | e :: es, d, h, hd => by
    unfold noLs at h
    obtain ⟨h1, h2⟩ := Bool.and_eq_true_iff.mp h
    rcases List.mem_cons.mp hd with rfl | hd
    · exact h1
    · exact noLs_mem h2 hd
theorem noneD_noL (m far : Int) : noLs (noneD m far) = true := rfl
section
variable {P : Program} {w : World} {K : PySem.W.Frag} {mg : Str → Option Value} {base : Heap}
def spLawNone (K : PySem.W.Frag) : Sp := fun vs H Q _ => ∃ (ρ : RowP) (v : V) (S : Sto) (B : Hp), vs = [.ref ρ.r, v] ∧ RowSt K ρ B H ∧ Dp K B v S.d ∧ StoOk S ∧
  ∀ v' B' H' d, Same B B' → RowSt K ρ B' H' → Dp K B' v' d → StepD d → ¬ IsStp S d → noL d = true → Q v' H'
/-! _law_none: 0 _law_row, 1 _law_store_here, 2 _law_far, 3 _law_some -/
abbrev s__law_none : Stmt := topS 49
abbrev N__law_none : List Str := ["_law_row", "_law_store_here", "_law_far", "_law_some"]
theorem sc__law_none : FnScope N__law_none ["_law_row", "_law_store_here"] (defScope s__law_none) := ⟨rfl, rfl, rfl, by decide +kernel, rfl, by decide +kernel, by decide +kernel⟩
theorem ok__law_none {f f1 : Addr} {fd fd1 : FuncData} (D : Dfs K mg "_law_none" s__law_none ["_law_row", "_law_store_here"] f fd) (T : Tx K mg) (C__law_taken : Cal P w K mg base 1 "_law_taken" ["_law_row", "_law_many"] (spTaken K) f1 fd1) :
    Cal P w K mg base 2 "_law_none" ["_law_row", "_law_store_here"] (spLawNone K) f fd := by
  refine D.cal (D.F.ok sc__law_none (fun vs H Q E h => ?_) (fun cdv A outer s H vs Q E hr h => ?_))
  · obtain ⟨ρ, v, S, B, rfl, _⟩ := h
    rfl
  · obtain ⟨ρ, v, S, B, rfl, R, hv, ok, q⟩ := h
    obtain ⟨a0, l, m, xs, ys, rfl, so⟩ := sto_at hv
    refine ⟨_, (C8.pss_cut (ps_set (i := 2) sc__law_none.nd rfl (Or.inl rfl) (pe_call C__law_taken.G (hr.mono (by decide)) (by rfl) C__law_taken.g C__law_taken.kp C__law_taken.b .nil pass0 (pa_cons (pv 0) (pa_cons (pe_op op_pow pe_int pe_int) pa_nil))))
      (pss_cons (ps_set (i := 3) sc__law_none.nd rfl (Or.inl rfl) (pe_lst (pa_cons (pe_tup (pa_cons pe_str (pa_cons pe_int pa_nil))) (pa_cons (pe_tup (pa_cons pe_str (pa_cons (pe_op op_add pe_int (pv 2)) pa_nil))) (pa_cons (pe_tup (pa_cons pe_str (pa_cons (pe_op op_sub (pe_un un_neg pe_int) (pv 2)) pa_nil))) (pa_cons (pe_tup (pa_cons pe_str (pa_cons (pe_op op_add pe_int (pv 2)) pa_nil))) (pa_cons (pe_tup (pa_cons pe_str (pa_cons (pe_op op_sub (pe_un un_neg pe_int) (pv 2)) pa_nil))) (pa_cons (pe_tup (pa_cons pe_str (pa_cons pe_int pa_nil))) pa_nil))))))))
      (pss_cons (ps_set (i := 3) sc__law_none.nd rfl (Or.inl rfl) (pe_op op_cat (pv 3) (pe_lst (pa_cons (pe_tup (pa_cons pe_str (pa_cons (pe_un un_neg pe_int) pa_nil))) (pa_cons (pe_tup (pa_cons pe_str (pa_cons (pe_op op_add (pe_callB (klen (K := K)) (by rfl) T.n_len (by decide +kernel) (pa_cons (pe_ix (kix_tup (K := K)) (pv 1) pe_int (fun _ _ => rfl)) pa_nil)) (pv 2)) pa_nil))) (pa_cons (pe_tup (pa_cons pe_str (pa_cons (pe_op op_sub (pe_un un_neg pe_int) (pv 2)) pa_nil))) (pa_cons (pe_tup (pa_cons pe_str (pa_cons pe_int pa_nil))) (pa_cons (pe_tup (pa_cons pe_str (pa_cons pe_int pa_nil))) (pa_cons (pe_tup (pa_cons pe_str pa_nil)) pa_nil)))))))))
      (pss_one (ps_ret (pe_ix (kix_list (K := K)) (pe_op op_cat (pv 3) (pe_lst (pa_cons (pe_tup (pa_cons pe_str pa_nil)) (pa_cons (pe_tup (pa_cons pe_str (pa_cons pe_int (pa_cons pe_int pa_nil)))) (pa_cons (pe_tup (pa_cons pe_str (pa_cons pe_int (pa_cons pe_int pa_nil)))) (pa_cons (pe_tup (pa_cons pe_str pa_nil)) pa_nil)))))) (pe_call C__law_taken.G (hr.mono (by decide)) (by rfl) C__law_taken.g C__law_taken.kp C__law_taken.b .nil pass0 (pa_cons (pv 0) (pa_cons pe_int pa_nil))) (fun _ _ => rfl))))))), ?_⟩
    refine ⟨fun σ H' => ∃ far : Int, 0 ≤ far ∧ far < 1000000 ∧ RowSt K ρ B H' ∧ σ = [some (.ref ρ.r), some (.ref a0), some (.int far), none], ?_, ?_⟩
    · exact ⟨_, rfl, _, _, rfl, rfl, ⟨by decide, by decide, by decide⟩, ρ, _, B, rfl, by decide, R, fun far H1 far0 far1 R1 => ⟨far, far0, far1, R1, rfl⟩⟩
    rintro σ H1 ⟨far, far0, far1, R1, rfl⟩
    have so1 := so.mono R1.same
    refine EvL.set (K := K) (H := H1) (ds := (noneD S.wishes.length far).take 6) ?_ (Same.refl _) fun a3 x3 H3 s3 n3 e3 d3 => ?_
    · exact evl_lst (by (repeat (first | exact evs_nil | refine evs_cons ?_ ?_ | exact ev_int | exact ev_str | exact ev_varI rfl | exact ev_varS rfl | refine ev_tup ?_ | refine ev_add ?_ ?_ | refine ev_sub ?_ ?_ | refine ev_neg ?_ | exact ev_var rfl (by assumption)))) (show 6 ≤ 1000 by decide)
    have so3 := so1.mono s3
    refine EvL.set (K := K) (H := H3) (ds := (noneD S.wishes.length far).take 6 ++ ((noneD S.wishes.length far).drop 6).take 6) ?_ (Same.refl _) fun a4 x4 H4 s4 n4 e4 d4 => ?_
    · refine evl_cat (evr_var rfl e3 d3) (EvL.r (evl_lst (evs_cons (ev_tup (by (repeat (first | exact evs_nil | refine evs_cons ?_ ?_ | exact ev_int | exact ev_str | exact ev_varI rfl | exact ev_varS rfl | refine ev_tup ?_ | refine ev_add ?_ ?_ | refine ev_sub ?_ ?_ | refine ev_neg ?_ | exact ev_var rfl (by assumption)))) (show 2 ≤ 1000 by decide)) (evs_cons (ev_tup (evs_cons ev_str (evs_cons (ev_add ?_ (ev_varI rfl)) evs_nil)) (show 2 ≤ 1000 by decide)) (by (repeat (first | exact evs_nil | refine evs_cons ?_ ?_ | exact ev_int | exact ev_str | exact ev_varI rfl | exact ev_varS rfl | refine ev_tup ?_ | refine ev_add ?_ ?_ | refine ev_sub ?_ ?_ | refine ev_neg ?_ | exact ev_var rfl (by assumption)))))) (show 6 ≤ 1000 by decide))) (show 12 ≤ 1000 by decide)
      intro H' Q' s' q'
      refine ⟨_, rfl, a0, _, 2, .ref m, rfl, rfl, (so3.mono s').t, rfl, m, ys, rfl, .inl (so3.mono s').m, ?_⟩
      rw [so3.ly]
      exact q' _ H' (Same.refl _) (.int _)
    have R4 := (R1.pure s3).pure s4
    refine draw_ix (K := K) (H := H4) (ds := (noneD S.wishes.length far).take 12 ++ (noneD S.wishes.length far).drop 12) R4 rfl ?_ ev_int rfl (by decide) rfl fun i d v' H5 hd R5 s5 dv => ?_
    · exact evl_cat (evr_var rfl e4 d4) (EvL.r (evl_lst (by (repeat (first | exact evs_nil | refine evs_cons ?_ ?_ | exact ev_int | exact ev_str | exact ev_varI rfl | exact ev_varS rfl | refine ev_tup ?_ | refine ev_add ?_ ?_ | refine ev_sub ?_ ?_ | refine ev_neg ?_ | exact ev_var rfl (by assumption)))) (show 4 ≤ 1000 by decide))) (show 16 ≤ 1000 by decide)
    rw [List.take_append_drop] at hd
    have hm := List.mem_of_getElem? hd
    obtain ⟨h1, h2⟩ := noneD_ok ok far0 far1 d hm
    exact q v' _ H5 d s5 R5 dv h1 h2 (noLs_mem (noneD_noL _ _) hm)
end

/-! ## a lambda without parameters, kept as a value -/
/-- the object at f is the lambda with F's words and this body -/
def LamO (f : Addr) (F : NdefX.NF) (body : Expr) : HO := .ext fun h => ∃ pm ctv : Value, h.get? f = some (PySem.W.kla_obj F.name F.qual F.params body F.scope F.cl pm F.c ctv)
section
open LamX NdefX
variable {X : Cx} {pins : List (Addr × Obj)} {σ : L2.St} {H : Hp} {s : Shared}
theorem lamO_at {P : Program} {w : World} {h : Heap} {f : Addr} {F : NF} {body : Expr} (k : HOk P w H h) (e : H f = some (LamO f F body)) : ∃ pm ctv : Value, h.get? f = some (PySem.W.kla_obj F.name F.qual F.params body F.scope F.cl pm F.c ctv) := (k f _ e).1
theorem inv_lam {F : NF} {body : Expr} {pm ctv : Value} {t' : Nat} (I : Inv X pins σ H s) :
    Inv X pins σ (upd H s.heap.objs.size (LamO s.heap.objs.size F body)) { s with heap := s.heap.push (PySem.W.kla_obj F.name F.qual F.params body F.scope F.cl pm F.c ctv), toks := t' } := by
  have there : (s.heap.push (PySem.W.kla_obj F.name F.qual F.params body F.scope F.cl pm F.c ctv)).get? s.heap.objs.size = some (PySem.W.kla_obj F.name F.qual F.params body F.scope F.cl pm F.c ctv) := Heap.get?_push_size _ rfl
  exact I.laid (fun b u e => Heap.get?_push_of_some _ e) (Nat.le_refl _) ⟨⟨pm, ctv, there⟩, ⟨_, there⟩, fun h1 h2 ⟨a, b, z⟩ keep => ⟨a, b, keep _ z⟩⟩
/-- it is made: its code object is new, or stands in the maker's table -/
theorem lam_new {c Pt : Addr} {params : Arguments} {body : Expr} {scope : Scope} {pos : Pos} {E : Value → Shared → Prop} {Q : Value → Shared → Prop} (I : Inv X pins σ H s) (TB : TabB X.base X.mg c Pt) (ec : X.env.code = .ref c) (hT : TabS H Pt (X.env.qual ++ "<lambda>"))
    (dn : defaultsOf params X.env = ([], [])) (fr : ∀ y ∈ scope.names, y.2 = .free → ∃ c, X.env.cells.lookup y.1 = some c)
    (go : ∀ (f c' : Addr) (H1 : Hp) (s1 : Shared), Inv X pins σ H1 s1 → ExtN H H1 → TabS H1 Pt (X.env.qual ++ "<lambda>") → H f = none → H1 f = some (LamO f ⟨"<lambda>", X.env.qual ++ "<lambda>", params, [], scope, cloFrom X.env.cells scope.names [], c'⟩ body) →
      H1 c' = some (CodeO c' (X.env.qual ++ "<lambda>")) → Q (.ref f) s1) : wpAny (model X.prog X.w) X.A (eval (.Lambda params body scope pos) X.env) Q E s := by
  obtain ⟨tb, atP, ok3, named⟩ := hT
  have blt : s.heap.BuiltinsAt X.mg Pt := TB.bm.keeps I.bk
  have objP : s.heap.get? Pt = some { cls := .none, data := .fields tb } := I.hok Pt _ atP
  have glo := I.mod.glob.keeps I.bk
  have cod := TB.code.keeps I.bk
  refine PySem.W.kla_eval dn ?_
  cases hit : codeAmong pos tb.toList with
  | some cv =>
    obtain ⟨c', rfl, known⟩ := named pos cv hit
    refine PySem.W.kla_makeFunctionHit (closure_ok fr) I.ok.glob glo ec cod objP ok3 hit blt fun ctv h' tk keep _ => ?_
    have I1 : Inv X pins σ H { s with heap := h', toks := tk } := I.kept keep
    have none_ : H h'.objs.size = none := I1.hok.fresh (Nat.le_refl _)
    have stay : ∀ b o, H b = some o → upd H h'.objs.size (LamO h'.objs.size ⟨"<lambda>", X.env.qual ++ "<lambda>", params, [], scope, cloFrom X.env.cells scope.names [], c'⟩ body) b = some o := fun b o e => (upd_ne (ne_of_none e none_)).trans e
    exact go _ c' _ _ (inv_lam (t' := tk) I1) (fun b o e _ => stay b o e) (TabS.ext ⟨tb, atP, ok3, named⟩ stay) none_ upd_same (stay _ _ known)
  | none =>
    refine PySem.W.kla_makeFunction (closure_ok fr) I.ok.glob glo ec cod objP ok3 hit TB.gP blt fun c' ctv h' tk but ge lt cr tbl => ?_
    obtain ⟨c2, oc, vs, t, e2, hoc, hdt, hnm⟩ := cr
    cases e2
    have freeC : H c' = none := I.hok.fresh ge
    generalize hH1 : upd (upd H Pt (.tbl (tb ++ #[rawInt pos.line, rawInt pos.col, .ref c']))) c' (CodeO c' (X.env.qual ++ "<lambda>")) = H1
    have I1 : Inv X pins σ H1 { s with heap := h', toks := tk } := by
      rw [← hH1]
      exact inv_table (more := #[rawInt pos.line, rawInt pos.col, .ref c']) I atP (fun b o hb e => but b o hb e) tbl ge ⟨oc, vs, t, hoc, hdt, hnm⟩
    have one : ExtN H H1 := fun b o e n => by
      rw [← hH1, upd_ne (ne_of_none e freeC), upd_ne fun z => n tb (by rw [z, atP] at e; exact (Option.some.inj e).symm)]
      exact e
    have two : TabS H1 Pt (X.env.qual ++ "<lambda>") := by
      refine ⟨tb ++ #[rawInt pos.line, rawInt pos.col, .ref c'], by rw [← hH1, upd_ne (ne_of_none atP freeC), upd_same], ?_, fun p2 cv hc => ?_⟩
      · rw [Array.toList_append]
        exact PySem.TriplesOk_snoc _ _ _ _ ok3
      · rw [Array.toList_append] at hc
        rcases among_app _ ok3 hc with z | z
        · obtain ⟨c0, a1, a2⟩ := named p2 cv z
          exact ⟨c0, a1, one _ _ a2 codeO_ne⟩
        · exact ⟨c', z, by rw [← hH1]; exact upd_same⟩
    have none1 : H1 h'.objs.size = none := I1.hok.fresh (Nat.le_refl _)
    have none_ : H h'.objs.size = none := I.hok.fresh (Nat.le_trans ge (Nat.le_of_lt lt))
    have stay : ∀ b o, H1 b = some o → upd H1 h'.objs.size (LamO h'.objs.size ⟨"<lambda>", X.env.qual ++ "<lambda>", params, [], scope, cloFrom X.env.cells scope.names [], c'⟩ body) b = some o := fun b o e => (upd_ne (ne_of_none e none1)).trans e
    exact go _ c' _ _ (inv_lam (t' := tk) I1) (fun b o e n => stay b o (one b o e n)) (two.ext stay) none_ upd_same (stay _ _ (by rw [← hH1]; exact upd_same))
end

section
open LamX NdefX
/-- lambda: ..: a new function that knows the cells of the def that makes it -/
def tLamN (Pt : Addr) (q : Str) (mk : Addr → NdefX.NF) (body : Expr) : TE := fun σ H Q => TabS H Pt q ∧ ∀ (f c' : Addr) (H1 : Hp), ExtN H H1 → TabS H1 Pt q → H f = none → H1 f = some (LamO f (mk c') body) → H1 c' = some (CodeO c' q) → Q (.ref f) H1
abbrev lamF (env : Env) (params : Arguments) (scope : Scope) (c' : Addr) : NdefX.NF := ⟨"<lambda>", env.qual ++ "<lambda>", params, [], scope, cloFrom env.cells scope.names [], c'⟩
theorem pe_lam {X : Cx} {c Pt : Addr} {params : Arguments} {body : Expr} {scope : Scope} {pos : Pos} (TB : TabB X.base X.mg c Pt) (ec : X.env.code = .ref c) (L : LamS X.env.scope scope) (dn : defaultsOf params X.env = ([], [])) :
    PE X (.Lambda params body scope pos) (tLamN Pt (X.env.qual ++ "<lambda>") (lamF X.env params scope) body) := by
  refine ⟨fun pins s σ H Q I h => ?_⟩
  obtain ⟨hT, go⟩ := h
  exact lam_new I TB ec hT dn (L.has I.ok) fun f c' H1 s1 I1 a1 a2 a3 a4 a5 => ⟨.ref f, H1, I1, rfl, go f c' H1 a1 a2 a3 a4 a5⟩
/-- what a call of the lambda at f promises; ws: what its cells hold -/
structure LOk (P : Program) (w : World) (K : PySem.W.Frag) (mg : Str → Option Value) (base : Heap) (k : Nat) (f : Addr) (F : NdefX.NF) (body : Expr) (fr : List Str) (sp : List (Option V) → Hp → VK → XK → Prop) : Prop where
  run : ∀ (A : Around) (outer : List Env) (s : Shared) (H : Hp) (ws : List (Option V)) (Q : VK) (E : XK), Room k A → Env0 P w K mg base A outer s H → H f = some (LamO f F body) → H F.c = some (CodeO F.c F.qual) → CellsAt F.cl fr ws s.heap H → sp ws H Q E →
    codeAny (model P w) A (.call (.ref f) ⟨[], []⟩) (CR (L2.CX P w) outer P w H s Q E) s
theorem LOk.mono {P : Program} {w : World} {K : PySem.W.Frag} {mg : Str → Option Value} {base : Heap} {j k : Nat} {f : Addr} {F : NdefX.NF} {body : Expr} {fr : List Str} {sp : List (Option V) → Hp → VK → XK → Prop} (o : LOk P w K mg base j f F body fr sp) (h : j ≤ k) : LOk P w K mg base k f F body fr sp :=
  ⟨fun A outer s H ws Q E hr => o.run A outer s H ws Q E (hr.mono h)⟩
theorem lok_of {P : Program} {w : World} {K : PySem.W.Frag} {mg : Str → Option Value} {base : Heap} {k : Nat} {f : Addr} {F : NdefX.NF} {body : Expr} {N fr : List Str} {sp : List (Option V) → Hp → VK → XK → Prop} (S : NScope N [] fr F.scope)
    (bnd : ∀ pm ctv : Value, bindArgs (PySem.W.kla_fn F.name F.qual F.params body F.scope F.cl pm (.ref F.c) ctv) ⟨[], []⟩ = pure [])
    (does : ∀ (A : Around) (outer : List Env) (s : Shared) (H : Hp) (ws : List (Option V)) (Q : VK) (E : XK), Room k (A.deeper (envF F f s.heap.objs.size)) → ws.length = fr.length → sp ws H Q E → ∃ t, PE (ncx (L2.CX P w) P w K mg base N F f A outer s H E) body t ∧ t (startF N [] ws) H Q) :
    LOk P w K mg base (k + 1) f F body fr sp := by
  refine ⟨fun A outer s H ws Q E hr e0 hf hc C hsp => ?_⟩
  have lim : s.heap.NoLimit := e0.mod.nolimit.keeps fun b o e => (e0.bs b o e).1
  obtain ⟨pm, ctv, ho⟩ := lamO_at e0.hok hf
  obtain ⟨t, ht, hq⟩ := does A outer s H ws Q E (hr.deeper _) C.len hsp
  refine PySem.W.kla_callFunE hr.depth ho rfl S.co S.gen rfl (codeO_at e0.hok hc) ?_
  rw [bnd pm ctv]
  refine wpAny_pure (wpAny_newFunctionEnv S.nocell (fun y hy => absurd hy (by simp)) (fun h₁ ns old => ⟨lim.fresh _ old, ?_⟩) S.kind)
  have kp : ∀ b o, s.heap.get? b = some o → h₁.get? b = some o := fun b o e => old.extBut b o (Nat.ne_of_lt (Heap.lt_size e)) (Heap.get?_push_of_some _ e)
  have I : Inv (ncx (L2.CX P w) P w K mg base N F f A outer s H E) [] (startF N [] ws) H { s with heap := h₁, toks := s.toks + ([] : List (Str × Value)).length } := inv_startN (us := []) S hr.hd e0 rfl .nil C ns kp
  show codeAny _ _ (.expr body (envF F f s.heap.objs.size)) _ _
  refine PySem.W.kla_codeExpr (wpAny_mono (ht.run [] _ (startF N [] ws) H Q I hq) (fun v s' ⟨u, H', J, rv, q⟩ => ?_) fun e s' z => z)
  exact ⟨u, H', J.os, J.bare, J.base, J.hok, rv, q⟩
/-- cells that stood at the frame's entry hold what they held -/
theorem cells_keep {X : Cx} {pins : List (Addr × Obj)} {σ : L2.St} {H : Hp} {s : Shared} {cl : List (Str × Addr)} {fr : List Str} {ws : List (Option V)} (C : CellsAt cl fr ws X.s_0.heap X.H_0) (hx : ∀ y c, cl.lookup y = some c → c ∉ X.ex) (I : Inv X pins σ H s) : CellsAt cl fr ws s.heap H := by
  have kp : ∀ y c, cl.lookup y = some c → ∀ v, X.s_0.heap.IsCell c v → s.heap.IsCell c v := fun y c e v ⟨o, ho, hd⟩ => by
    obtain ⟨sl, z⟩ := I.base.any ho (C.all y c e).1 (hx y c e)
    exact ⟨_, z, hd⟩
  refine ⟨C.len, fun y c e => ?_, C.inj, fun i y e => ?_⟩
  · obtain ⟨n, v, o, ho, hd⟩ := C.all y c e
    exact ⟨I.base.free c o ho n (hx y c e), v, kp y c e v ⟨o, ho, hd⟩⟩
  · obtain ⟨c, hc, hv⟩ := C.has i y e
    refine ⟨c, hc, fun v ev => ?_⟩
    obtain ⟨u, r, z⟩ := hv v ev
    exact ⟨u, r, kp y c hc _ z⟩
/-- x(), x a name that holds such a lambda -/
theorem pe_act0 {Z : Cx} {i k j : Nat} {a : Str} {f : Addr} {F : NdefX.NF} {body : Expr} {fr : List Str} {ws : List (Option V)} {sp : List (Option V) → Hp → VK → XK → Prop} {E : L2.St → XK} {p1 p2 : Pos} (C : CellsAt F.cl fr ws Z.s_0.heap Z.H_0) (hx : Z.ex = []) (L : LOk Z.prog Z.w Z.K Z.mg Z.base k f F body fr sp)
    (hr : Room j Z.A) (hk : k ≤ j) (hp : ∀ σ, PassesAt (L2.CX Z.prog Z.w) Z σ (E σ)) (hN : Z.N[i]? = some a) (hv : Vis Z.env.scope a) (hd : (a == ("__debug__" : Str)) = false := by decide) (hcd : (a == ("__classdict__" : Str)) = false := by decide) :
    PE Z (.Call (.Name a p1) [] [] p2) (fun σ H Q => σ[i]? = some (some (.ref f)) ∧ H f = some (LamO f F body) ∧ H F.c = some (CodeO F.c F.qual) ∧ sp ws H Q (E σ)) := by
  refine ⟨fun pins s σ H Q I ⟨h1, h2, h3, h4⟩ => ?_⟩
  refine wpAny_Call_Name_kw (thn ((pe_var (pos := p1) (i := i) hN hv hd hcd).run pins s σ H (fun v H1 => v = .ref f ∧ H1 = H) I ⟨.ref f, h1, rfl, rfl⟩) fun u s1 ⟨v, H1, I1, r1, ev, eH⟩ => ?_)
  subst ev
  subst eH
  obtain rfl : u = Value.ref f := r1
  obtain ⟨pm, ctv, ho⟩ := lamO_at I1.hok h2
  refine PySem.W.callWith_F0 ⟨_, _, _, _, ho⟩ (wpAny_call (codeAny_mono (L.run Z.A Z.stack s1 H1 ws Q (E σ) (hr.mono hk) I1.env0 h2 h3 (cells_keep C (fun y c _ => by rw [hx]; simp) I1) h4) fun r s' hq => ?_))
  cases r with
  | error e => exact hp σ pins H1 s1 e s' I1 hq
  | ok fl =>
    cases fl with
    | ret u => exact I1.after hq
    | next => exact hq.elim
    | brk => exact hq.elim
    | cont => exact hq.elim
end

/-- all own errors, by their classes; what isinstance and except say of BadStore's -/
structure Kin (K : PySem.W.Frag) (mg : Str → Option Value) (cA cB cS cT cR : Addr) : Prop where
  A : Xn K mg "AisleError" cA
  B : Xn K mg "BadStore" cB
  S : Xn K mg "BadStep" cS
  T : Xn K mg "BadText" cT
  R : Xn K mg "Barred" cR
theorem boot_VE : bootBuiltins "ValueError" = some (.type "ValueError") := by decide +kernel

/-! ## what a refusal tells -/
structure KinS (K : PySem.W.Frag) (cA cB cS cT cR : Addr) : Prop where
  sA : PySem.W.subIn K (.ref cS) (.ref cA) = some true
  sB : PySem.W.subIn K (.ref cS) (.ref cB) = some false
  sS : PySem.W.subIn K (.ref cS) (.ref cS) = some true
  sT : PySem.W.subIn K (.ref cS) (.ref cT) = some false
  sR : PySem.W.subIn K (.ref cS) (.ref cR) = some false
  sV : PySem.W.subIn K (.ref cS) (.type "ValueError") = some true
structure KinR (K : PySem.W.Frag) (cA cB cS cT cR : Addr) : Prop where
  sA : PySem.W.subIn K (.ref cR) (.ref cA) = some true
  sB : PySem.W.subIn K (.ref cR) (.ref cB) = some false
  sS : PySem.W.subIn K (.ref cR) (.ref cS) = some false
  sT : PySem.W.subIn K (.ref cR) (.ref cT) = some false
  sR : PySem.W.subIn K (.ref cR) (.ref cR) = some true
  sV : PySem.W.subIn K (.ref cR) (.type "ValueError") = some true
/-- what is made of an error: BadStep, or Barred with its three -/
def wordE (K : PySem.W.Frag) (cS cR : Addr) (Q : VK) : XK := fun cls d H => (cls = .ref cS ∧ d = none ∧ ∀ H', Same H H' → Q (.str "step") H') ∨
  (cls = .ref cR ∧ ∃ (dd : Addr) (x y z : V), d = some dd ∧ H dd = some (.xd [("at", z), ("number", y), ("rule", x)]) ∧ ∀ p H', Same H H' → SqT K H' p [x, y, z] → Q (.ref p) H')
def wordT (K : PySem.W.Frag) (cS cR : Addr) (tl : Hp → VK → XK → Prop) (H : Hp) (Q : VK) : Prop := tl H (fun _ H' => Q .non H') (wordE K cS cR Q)
def tsWord (K : PySem.W.Frag) (cB cS cT cR : Addr) (a : Addr) (cls : Value) (d : Option Addr) : TS :=
  tSeq (tIfS (tOr (tB (tCB (rIsXT K a cls d) (tCons (tVar 1) (tCons (tTup (tCons (tC (.ref cB)) (tCons (tC (.ref cT)) tNil))) tNil)))) (tNot (tB (tCB (rIsX K a cls d) (tCons (tVar 1) (tCons (tC (.ty "ValueError")) tNil)))))) (tRet (tC (.str "other"))) tNext)
    (tSeq (tIfS (tB (tCB (rIsX K a cls d) (tCons (tVar 1) (tCons (tC (.ref cR)) tNil)))) (tRet (tIf (tB (tCB (rIsX K a cls d) (tCons (tVar 1) (tCons (tC (.ref cS)) tNil)))) (tC (.str "other"))
        (tTup (tCons (tXf a cls d cR "rule" (tVar 1)) (tCons (tXf a cls d cR "number" (tVar 1)) (tCons (tXf a cls d cR "at" (tVar 1)) tNil)))))) tNext)
      (tRet (tC (.str "step"))))
theorem lookX1 {x y z : V} : [(("at" : Str), z), ("number", y), ("rule", x)].lookup ("rule" : Str) = some x := by
  rw [lookup_put, if_neg (by decide +kernel), lookup_put, if_neg (by decide +kernel), lookup_put, if_pos rfl]
theorem lookX2 {x y z : V} : [(("at" : Str), z), ("number", y), ("rule", x)].lookup ("number" : Str) = some y := by
  rw [lookup_put, if_neg (by decide +kernel), lookup_put, if_pos rfl]
theorem lookX3 {x y z : V} : [(("at" : Str), z), ("number", y), ("rule", x)].lookup ("at" : Str) = some z := by
  rw [lookup_put, if_pos rfl]
section
open LamX NdefX
theorem only_at {σ : L2.St} {E : XK} : (fun cls d H' => σ = σ ∧ E cls d H') = E := funext fun _ => funext fun _ => funext fun _ => propext ⟨fun h => h.2, fun h => ⟨rfl, h⟩⟩
/-! _law_word: 0 _law_work, 1 e -/
abbrev s__law_word : Stmt := topS 50
abbrev N__law_word : List Str := ["_law_work", "e"]
theorem sc__law_word : FnScope N__law_word ["_law_work"] (defScope s__law_word) := ⟨rfl, rfl, rfl, by decide +kernel, rfl, by decide +kernel, by decide +kernel⟩
/-- _law_word(x), x a lambda -/
theorem pe_word {X : Cx} {K : PySem.W.Frag} {arg : Expr} {ta : TE} {p pos : Pos} {k kL : Nat} {fw fR cA cB cS cT cR : Addr} {fdw fdR : FuncData} (eK : X.K = K) (D : Dfs X.K X.mg "_law_word" s__law_word ["_law_work"] fw fdw) (T : Tx X.K X.mg) (Kn : Kin X.K X.mg cA cB cS cT cR) (KS : KinS X.K cA cB cS cT cR) (KR : KinR X.K cA cB cS cT cR)
    (DS : ExD X.K cS) (X_Barred : Xi3 X.prog X.w X.K X.mg X.base cR fR fdR "rule" "number" "at" (spX3 X.K cR "rule" "number" "at")) (hr : Room (k + 2) X.A) (hk : kL ≤ k) (hg : Gl X "_law_word") (ha : PE X arg ta)
    (he : starEach [arg] X.env = (false, eval arg X.env) :: starEach [] X.env := by rfl) :
    PE X (.Call (.Name "_law_word" p) [arg] [] pos) (fun σ H Q => tCons ta tNil σ H fun vs H1 => ∃ (f : Addr) (F : NdefX.NF) (body : Expr) (fr : List Str) (ws : List (Option V)) (sp : List (Option V) → Hp → VK → XK → Prop), vs = [.ref f] ∧ H1 f = some (LamO f F body) ∧ H1 F.c = some (CodeO F.c F.qual) ∧
      (∀ pins s, Inv X pins σ H1 s → CellsAt F.cl fr ws s.heap H1) ∧ LOk X.prog X.w X.K X.mg X.base kL f F body fr sp ∧ wordT K cS cR (sp ws) H1 Q) := by
  subst eK
  refine ⟨fun pins s σ H Q I h => wpAny_Call_Name_kw (ld_glob I hg D.g ?_)⟩
  refine PySem.W.callWith_K (h₀ := X.base) I.ok.mod.kin D.F.kp (thn ((pa_cons ha pa_nil he).run pos pins s σ H _ I h) fun us s1 hh => ?_) he (by rfl)
  obtain ⟨vs, H1, I1, rv, f, F, body, fr, ws, sp, rfl, hf, hc, cells, L, q⟩ := hh
  have C := cells pins s1 I1
  refine ⟨I1.kIn, ?_⟩
  obtain ⟨oc, od, kV, doc, pm, an, cdv, ct, osl, efd, lk, hcd⟩ := D.F.ex
  have bnd := D.b s1 us I1.kIn
  subst efd
  show wpAny _ _ (call (.ref fw) us) _ _ _
  have ran : codeAny (model X.prog X.w) X.A (.call (.ref fw) ⟨us, []⟩) (CR CX0 X.stack X.prog X.w H1 s1 Q E0) s1 := by
    refine run_ofS (N := N__law_word) (ps := ["_law_work"]) (vs := [.ref f]) lk hcd sc__law_word hr I1.env0 ?_ rv rfl fun hr' => ?_
    · have z := bnd (by rw [List.append_nil, ← rv.length]; rfl)
      rw [List.append_nil] at z
      exact z
    have hl : ∀ Z : Cx, Z.A = X.A.deeper (envOfC ("_law_word" : Str) (defScope s__law_word) s1.heap.objs.size fw cdv) → Room k Z.A := fun Z e => by
      rw [e]
      exact hr'.mono (by omega)
    have XR := X_Barred.D
    have XF := XR.xf
    refine ⟨_, PSs.nox (pss_cons (ps_try_as (i := 1) (tb := fun W D σ H => ∃ Ech : XK, (∀ cls d H', Ech cls d H' → W cls d σ H') ∧ σ[0]? = some (some (.ref f)) ∧ H f = some (LamO f F body) ∧ H F.c = some (CodeO F.c F.qual) ∧ sp ws H (fun _ H' => D.nx σ H') Ech) (ts := tsWord X.K cB cS cT cR) (Wout := fun _ _ _ _ => False) rfl rfl sc__law_word.nd rfl rfl ⟨rfl, by decide, Or.inl Kn.A.g⟩ L2.takes0
        (fun W pn xe tk _ => ⟨fun pins' s' σ' H' D' I' ⟨Ech, hW, h1, h2, h3, h4⟩ => (pss_one (ps_expr (pe_act0 (Z := (cxOf CX0 X.prog X.w X.K X.mg X.base N__law_word "_law_word" (defScope s__law_word) fw cdv X.A X.stack s1 H1 E0).nox.tr pn xe) (i := 0) (E := fun τ cls d H' => τ = σ' ∧ Ech cls d H') C rfl L (hl _ rfl) hk (fun τ pins2 H2 s2 e s3 I2 c => tk e s3 (XE.of_call I2 (fun cls d H' h => by rw [h.1]; exact hW cls d H' h.2) c)) rfl (Or.inl rfl)))).run pins' s' σ' H' D' I' ⟨h1, h2, h3, by rw [only_at]; exact h4⟩⟩)
        (fun a oe cls d pn hz hf => pss_cons (ps_if (by exact (PW.pt (pw_or (pt_val (pe_callB (call_isXT hz hf) (by rfl) T.n_isinstance (by decide +kernel) (pa_cons (pv 1) (pa_cons (pe_tup (pa_cons (pe_glob (v := .ref cB) (by rfl) Kn.B.g rfl) (pa_cons (pe_glob (v := .ref cT) (by rfl) Kn.T.g rfl) pa_nil))) pa_nil))))
            (pw_or1 (pt_not (pt_val (pe_callB (call_isX hz hf) (by rfl) T.n_isinstance (by decide +kernel) (pa_cons (pv 1) (pa_cons (pe_bltn (v := .ty "ValueError") (by rfl) T.n_ValueError boot_VE rfl) pa_nil)))))))))
              (pss_one (ps_ret (by exact pe_str))) pss_nil)
          (pss_cons (ps_if (by exact (pt_val (pe_callB (call_isX hz hf) (by rfl) T.n_isinstance (by decide +kernel) (pa_cons (pv 1) (pa_cons (pe_glob (v := .ref cR) (by rfl) Kn.R.g rfl) pa_nil)))))
              (pss_one (ps_ret (by exact (pe_ifExp (pt_val (pe_callB (call_isX hz hf) (by rfl) T.n_isinstance (by decide +kernel) (pa_cons (pv 1) (pa_cons (pe_glob (v := .ref cS) (by rfl) Kn.S.g rfl) pa_nil)))) pe_str
                (pe_tup (pa_cons (pe_xf XF X_Barred.n1 hz hf (pv 1)) (pa_cons (pe_xf XF X_Barred.n2 hz hf (pv 1)) (pa_cons (pe_xf XF X_Barred.n3 hz hf (pv 1)) pa_nil)))))))) pss_nil)
          (pss_one (ps_ret (by exact pe_str))))))
      (pss_one (ps_ret pe_non))), ?_⟩
    refine ⟨wordE X.K cS cR Q, fun cls d H2 h => ?_, rfl, hf, hc, q⟩
    rcases h with ⟨rfl, rfl, q⟩ | ⟨rfl, dd, x, y, z, rfl, ed, q⟩
    · refine ⟨true, exm_own Kn.A.exC Kn.A.isC Kn.A.tyC KS.sA, fun _ e ne => ?_, fun z => by cases z⟩
      refine ⟨_, rfl, small (by simp), fun tp ntp => ?_⟩
      have kB := kit_own Kn.B.isC Kn.B.tyC KS.sB KS.sS
      have kT := kit_own Kn.T.isC Kn.T.tyC KS.sT KS.sS
      have kA : PySem.W.kitAny X.K (.ref cS) [.ref cB, .ref cT] = some false := by
        unfold PySem.W.kitAny
        rw [kB]
        unfold PySem.W.kitAny
        rw [kT]
        rfl
      have s3 := same_new (o := .tup [.ref cB, .ref cT]) ntp
      refine ⟨tp, _, _, cS, false, rfl, upd_same, .cons (.own _) (.cons (.own _) .nil), rfl, DS, .inl rfl, kA, _, rfl, iteF ?_⟩
      refine ⟨_, rfl, _, _, cS, true, rfl, .ty _, rfl, DS, .inl rfl, kit_typ KS.sV, _, rfl, iteF ?_⟩
      refine ⟨_, rfl, _, _, cS, false, rfl, .own _, rfl, DS, .inl rfl, kit_own Kn.R.isC Kn.R.tyC KS.sR KS.sS, _, rfl, iteF ?_⟩
      exact q _ s3
    · refine ⟨true, exm_own Kn.A.exC Kn.A.isC Kn.A.tyC KR.sA, fun _ e ne => ?_, fun z => by cases z⟩
      refine ⟨_, rfl, small (by simp), fun tp ntp => ?_⟩
      have kB := kit_own Kn.B.isC Kn.B.tyC KR.sB KR.sR
      have kT := kit_own Kn.T.isC Kn.T.tyC KR.sT KR.sR
      have kA : PySem.W.kitAny X.K (.ref cR) [.ref cB, .ref cT] = some false := by
        unfold PySem.W.kitAny
        rw [kB]
        unfold PySem.W.kitAny
        rw [kT]
        rfl
      have s3 := same_new (o := .tup [.ref cB, .ref cT]) ntp
      have ed3 := s3 _ _ ed
      refine ⟨tp, _, _, cR, false, rfl, upd_same, .cons (.own _) (.cons (.own _) .nil), rfl, XR, .inr ⟨dd, _, rfl, ed3⟩, kA, _, rfl, iteF ?_⟩
      refine ⟨_, rfl, _, _, cR, true, rfl, .ty _, rfl, XR, .inr ⟨dd, _, rfl, ed3⟩, kit_typ KR.sV, _, rfl, iteF ?_⟩
      refine ⟨_, rfl, _, _, cR, true, rfl, .own _, rfl, XR, .inr ⟨dd, _, rfl, ed3⟩, kit_own Kn.R.isC Kn.R.tyC KR.sR KR.sR, _, rfl, iteT ?_⟩
      refine ⟨_, rfl, _, _, cR, false, rfl, .own _, rfl, XR, .inr ⟨dd, _, rfl, ed3⟩, kit_own Kn.S.isC Kn.S.tyC KR.sS KR.sR, _, rfl, iteF ?_⟩
      refine ⟨_, rfl, rfl, rfl, dd, _, x, rfl, ed3, lookX1, _, rfl, rfl, rfl, dd, _, y, rfl, ed3, lookX2, _, rfl, rfl, rfl, dd, _, z, rfl, ed3, lookX3, small (by simp), fun p np => ?_⟩
      exact q p _ (s3.trans (same_new np)) tup_new
  refine wpAny_call (codeAny_mono ran fun r s' z => ?_)
  cases r with
  | error e => exact (show False from z).elim
  | ok fl =>
    cases fl with
    | ret u => exact I1.after z
    | next => exact z.elim
    | brk => exact z.elim
    | cont => exact z.elim
end

/-! ## a comprehension that leaves all out, its test looked at where it starts -/
/-- the reading; Start: what is asked of the state at the block's start, tt: the test from there on -/
def tLcN (wi : TI) (g : TG) (Start : L2.St → Hp → Prop) (tt : L2.St → Hp → TT) (vs : List Nat) : TE := fun σ H Q => wi σ H fun J H1 => ∀ D, H1 D = none → Start σ (upd H1 D (.lst [])) ∧ ∃ W : Nat → Nat → Hp → Prop, (∃ m, W 0 m (upd H1 D (.lst []))) ∧ ∀ i m H2, W i m H2 →
  (J.stop i H2 ∧ Q (.ref D) H2) ∨ (J.go i H2 ∧ ∃ Nx : Hp → Prop, (∀ H', Nx H' → ∃ m', m' < m ∧ W (i + 1) m' H') ∧ ∀ x H', J.yld i H2 x H' → g x (wipe σ vs) H' fun σ2 H3 => wipe σ2 vs = wipe σ vs ∧ tt σ (upd H1 D (.lst [])) σ2 H3 fun b H4 => if b = true then False else Nx H4)
theorem pe_lcN {X : Cx} {elt tg iter : Expr} {ifs : List Expr} {scope : Scope} {own : List (Str × Nat)} {pos : Pos} {wi : TI} {g : TG} {Start : L2.St → Hp → Prop} {tt : L2.St → Hp → TT} (calm : X.calm = true) (nd : X.N.Nodup) (over : PI X tg iter wi) (ok : BlkOk X.N X.env.scope scope own)
    (put : ∀ (s : Shared) (H : Hp) (C : Addr) (cl : List (Str × Addr)) (fp : List Addr), PG (X.blk s H scope (compEnvC scope cl C X.env) fp) tg g)
    (ask : ∀ (pins : List (Addr × Obj)) (s : Shared) (σ : L2.St) (H : Hp) (fp : List Addr), Inv X pins σ H s → (∀ b ∈ fp, FpOk X pins H b) → Start σ H → ∀ (C : Addr) (cl : List (Str × Addr)), PTs (X.blk s H scope (compEnvC scope cl C X.env) fp) ifs (tt σ H))
    (whole : ∀ x, foldedSetIterable iter X.env x = pure x := by intro _; rfl) : PE X (.ListComp elt [⟨tg, iter, ifs, 0⟩] scope pos) (tLcN wi g Start tt (own.map (·.2))) := by
  refine ⟨fun pins s σ H Q I rd => ?_⟩
  have caught : ∀ y ∈ scope.names, y.2 = .free → ∃ c, X.env.cells.lookup y.1 = some c := fun y hy e => (ok.free y hy e).elim (fun z => I.ok.has _ (.inl z)) fun z => I.ok.has _ (.inr z)
  rw [eval_ListComp]
  refine wpAny_comprehension_free (use := none) rfl whole (closure_ok caught) ok.kind (fun y hy e => (ok.uniq y hy).trans (by rw [e])) (thn (over.run pins s σ H _ I rd) fun _ _ hx => thn hx fun _ s2 ⟨it, fp, tn, J, H2, ei, I2, TR, t0, ffp, q⟩ => ?_)
  subst ei
  refine wpAny_newObj_type (newEnv_comp ?_) (show 0 ≤ sizeLine by decide)
  -- the new list, at D
  obtain ⟨st0, W, ⟨m0, w0⟩, step⟩ := q s2.heap.objs.size (I2.hok.fresh (Nat.le_refl _))
  have I3 : Inv X pins σ (upd H2 s2.heap.objs.size (.lst [])) { s2 with heap := s2.heap.push { cls := .type "list", data := .seq ([] : List Value).toArray } } :=
    I2.laid (t' := s2.toks) (fun b o e => Heap.get?_push_of_some _ e) (Nat.le_refl _) ⟨Nat.zero_le _, [], 0, .nil, Heap.get?_push_size _ rfl⟩
  have low : ∀ b ∈ fp, b < s2.heap.objs.size := fun b hb => by
    obtain ⟨o, e, _⟩ := TR.obj _ _ t0 b hb
    exact Heap.lt_size e
  have t3 : tn 0 (s2.heap.push { cls := .type "list", data := .seq ([] : List Value).toArray }) := TR.keep _ _ _ t0 fun b _ o e => Heap.get?_push_of_some _ e
  have lt3 : ∀ b ∈ fp, b < (s2.heap.push { cls := .type "list", data := .seq ([] : List Value).toArray }).objs.size := fun b hb => by
    rw [Heap.size_push]
    exact Nat.lt_succ_of_lt (low b hb)
  have f3 : ∀ b ∈ fp, FpOk X pins (upd H2 s2.heap.objs.size (.lst [])) b := fun b hb => ⟨by rw [upd_ne (Nat.ne_of_lt (low b hb))]; exact (ffp b hb).1, (ffp b hb).2⟩
  generalize eD : s2.heap.objs.size = D at I3 f3 st0 w0 step
  generalize eH : upd H2 D (.lst []) = H3 at I3 f3 st0 w0 step
  generalize eS : ({ s2 with heap := s2.heap.push { cls := .type "list", data := .seq ([] : List Value).toArray } } : Shared) = s3 at I3
  have e3 : s3.heap = s2.heap.push { cls := .type "list", data := .seq ([] : List Value).toArray } := by rw [← eS]
  rw [← e3] at t3 lt3
  have J0 := block_start I3 ok nd fun b hb => ⟨f3 b hb, lt3 b hb⟩
  have pG := put s3 H3 s3.heap.objs.size (cellsFrom (s3.heap.objs.size + 1) scope.names (cloFrom X.env.cells scope.names [])) fp
  have pT := ask pins s3 σ H3 fp I3 f3 st0 s3.heap.objs.size (cellsFrom (s3.heap.objs.size + 1) scope.names (cloFrom X.env.cells scope.names []))
  generalize eC : compEnvC scope (cellsFrom (s3.heap.objs.size + 1) scope.names (cloFrom X.env.cells scope.names [])) s3.heap.objs.size X.env = ce at J0 pG pT
  show codeAny _ _ (.compStart (.ListComp elt [⟨tg, iter, ifs, 0⟩] scope pos) 0 (.ref it) (.ref D) (compEnvC scope (cellsFrom (s3.heap.objs.size + 1) scope.names (cloFrom X.env.cells scope.names [])) s3.heap.objs.size X.env)) (compPost (model X.prog X.w) X.A X.xe none _ (.ref D) s3.heap.objs.size) { s3 with heap := pushCells (s3.heap.push { cls := .type "dict", data := .dict #[] }) scope.names }
  rw [eC]
  have loc : ce.locals = s3.heap.objs.size := by rw [← eC]; rfl
  have t4 : tn 0 (pushCells (s3.heap.push { cls := .type "dict", data := .dict #[] }) scope.names) := TR.keep _ _ _ t3 fun b _ o e => pushCells_keeps _ _ _ _ (Heap.get?_push_of_some _ e)
  generalize eS4 : ({ s3 with heap := pushCells (s3.heap.push { cls := .type "dict", data := .dict #[] }) scope.names } : Shared) = s4 at J0
  have t5 : tn 0 s4.heap := by rw [← eS4]; exact t4
  -- the iterator's objects, seen from within
  have its : ∀ {τ : L2.St} {G : Hp} {z : Shared}, Inv (X.blk s3 H3 scope ce fp) [] τ G z → (∀ b ∈ fp, G b = none) → ∀ b ∈ fp, FpOk (X.blk s3 H3 scope ce fp) [] G b := fun {τ G z} J n b hb =>
    ⟨n b hb, (J.ok.exf b hb).1, J.ok.exfs b hb, .inl hb, fun y c e => (J.ok.exf b hb).2 y c e, fun p hp => absurd (show p ∈ ([] : List (Addr × Obj)) ++ [] from hp) (by simp)⟩
  refine codeAny_compStart_list ?_ (TR.self X.A 0 _ _ _ t5 ?_) <;>
  · refine compLoop_any (fun n z => ∃ i G, W i n G ∧ tn i z.heap ∧ (∀ b ∈ fp, G b = none) ∧ Inv (X.blk s3 H3 scope ce fp) [] (wipe σ (own.map (·.2))) G z) (fun n z ⟨i, G, wi, ti, ni, Ji⟩ => ?_) m0 ⟨0, H3, w0, t5, fun b hb => (f3 b hb).1, J0⟩
    rcases step i n G wi with ⟨halt, fin⟩ | ⟨more, Nx, less, turn⟩
    · refine thnF (TR.done (X.blk s3 H3 scope ce fp) rfl rfl rfl calm i [] z _ G (fun _ _ => False) Ji (its Ji ni) ti halt) fun r z1 ⟨er, Jd⟩ => ?_
      subst er
      have back : Inv X pins σ G z1 := I3.call' (ch := fp) Jd.os Jd.base Jd.hok Jd.bare fun b hb => ⟨(f3 b hb).2.2.2.1, (f3 b hb).2.1, (f3 b hb).2.2.2.2.1, (f3 b hb).2.2.2.2.2⟩
      obtain ⟨m, ns, _⟩ := Jd.loc
      have ns' : z1.heap.Ns s3.heap.objs.size m := by rw [← loc]; exact ns
      have fr : G s3.heap.objs.size = none := by rw [← loc]; exact Jd.free
      obtain ⟨a0, a1, a2, a3, a4, a5⟩ := I3.fpOk (Nat.le_refl _) fr
      exact ⟨m, ns', fun h2 but => ⟨.ref D, G, back.turned (t' := z1.toks) (fun b o hb e => (but.2 b hb).trans e) a0 a1 a3 a4 a5, rfl, fin⟩⟩
    · refine thnF (TR.item (X.blk s3 H3 scope ce fp) rfl rfl rfl calm i [] z _ G (fun _ _ => False) Ji (its Ji ni) ti more) fun r z1 ⟨u, er, nxt⟩ => ?_
      subst er
      refine thnF nxt fun _ z2 ⟨x, G2, J2, rx, yx, t2, n2⟩ => ?_
      have J2p := J2.pinned (its J2 n2) (TR.obj _ _ t2)
      refine thnF (pG.run _ z2 _ G2 x u _ J2p rx (turn x G2 yx)) fun _ z3 ⟨τ, G3, J3, wp, q3⟩ => ?_
      refine thnF (pT.run _ z3 τ G3 _ J3 q3) fun b z4 ⟨G4, J4, q4⟩ => ?_
      cases b with
      | true => exact False.elim q4
      | false =>
        have q4 : Nx G4 := q4
        obtain ⟨m', hm, w'⟩ := less G4 q4
        have held : ∀ b ∈ fp, ∀ o, z2.heap.get? b = some o → z4.heap.get? b = some o ∧ G4 b = none := fun b hb o e =>
          let ⟨k1, k2, _⟩ := J4.pin (b, o) (List.mem_append_right _ (List.mem_append_right _ (mem_pinsAt hb e)))
          ⟨k1, k2⟩
        have J5 : Inv (X.blk s3 H3 scope ce fp) [] (wipe σ (own.map (·.2))) G4 z4 := (J4.unpinned (pins := [])).weak (by rw [← wp, wipe_length]) fun j v e => by
          rw [← wp] at e
          exact (wipe_some e).1
        refine ⟨m', hm, i + 1, G4, w', TR.keep _ _ _ t2 fun b hb o e => (held b hb o e).1, fun b hb => ?_, J5⟩
        obtain ⟨o, e, _⟩ := TR.obj _ _ t2 b hb
        exact (held b hb o e).2

/-! ## the plan that is drawn -/
structure PSt (K : PySem.W.Frag) (ρ : RowP) (l : Addr) (B H : Hp) (xs : List V) : Prop where
  R : RowSt K ρ B H
  bl : B l = none
  el : H l = some (.lst xs)
  nr : ρ.r ≠ l
section
variable {K : PySem.W.Frag} {ρ : RowP} {l : Addr} {B H H' : Hp} {xs : List V}
theorem PSt.pure (h : PSt K ρ l B H xs) (s : Same H H') : PSt K ρ l B H' xs := ⟨h.R.pure s, h.bl, s _ _ h.el, h.nr⟩
theorem PSt.app (h : PSt K ρ l B H xs) (v : V) : PSt K ρ l B (upd H l (.lst (xs ++ [v]))) (xs ++ [v]) := ⟨h.R.put h.nr h.bl, h.bl, upd_same, h.nr⟩
theorem same_del1 {X : Hp} {z : Addr} : Same (del1 X z) X := fun b o h => by
  by_cases e : b = z
  · rw [e, del1_same] at h
    cases h
  · rw [del1_ne e] at h
    exact h
/-- all that stands, but the row and the plan -/
abbrev but2 (ρ : RowP) (l : Addr) (H : Hp) : Hp := del1 (del1 H ρ.r) l
theorem PSt.know (h : PSt K ρ l B H xs) (s : Same H H') : PSt K ρ l (but2 ρ l H') H' xs ∧ Same B (but2 ρ l H') := by
  obtain ⟨R1, s1⟩ := row_all h.R s
  have s2 := same_del s1 h.bl
  exact ⟨⟨R1.less same_del1 (Same.l s2 h.R.scr), del1_same, s _ _ h.el, h.nr⟩, s2⟩
theorem PSt.drawn (h : PSt K ρ l B H xs) (R : RowSt K ρ (del1 H ρ.r) H') : PSt K ρ l (but2 ρ l H) H' xs := by
  obtain ⟨_, s2⟩ := h.know (Same.refl _)
  refine ⟨R.less same_del1 (Same.l s2 h.R.scr), del1_same, R.same _ _ ?_, h.nr⟩
  rw [del1_ne (Ne.symm h.nr)]
  exact h.el
/-- what is found in but2 -/
theorem but2_at {b : Addr} {o : HO} (e : H b = some o) (n1 : b ≠ ρ.r) (n2 : b ≠ l) : but2 ρ l H b = some o := by
  show del1 (del1 H ρ.r) l b = some o
  rw [del1_ne n2, del1_ne n1]
  exact e
theorem PSt.dp (h : PSt K ρ l B H xs) {v : V} {d : PyData} (hd : Dp K H v d) (n : noL d = true) : Dp K (but2 ρ l H) v d := by
  obtain ⟨_, _, e, _⟩ := h.R.row
  exact dp_del (zs := xs) (by rw [del1_ne (Ne.symm h.nr)]; exact h.el) (dp_del e hd n) n
theorem PSt.dps (h : PSt K ρ l B H xs) {vs : List V} {ds : List PyData} (hd : DpAll K H vs ds) (n : noLs ds = true) : DpAll K (but2 ρ l H) vs ds := by
  obtain ⟨_, _, e, _⟩ := h.R.row
  exact dps_del (zs := xs) (by rw [del1_ne (Ne.symm h.nr)]; exact h.el) (dps_del e hd n) n
theorem PSt.new (h : PSt K ρ l B H xs) {q : Addr} (n : H q = none) : q ≠ ρ.r ∧ q ≠ l := by
  refine ⟨fun z => ?_, fun z => ?_⟩
  · obtain ⟨_, _, e, _⟩ := h.R.row
    rw [z, e] at n
    cases n
  · rw [z, h.el] at n
    cases n
end
theorem noL_stp (t : Stp) : noL t.d = true := by cases t <;> rfl
theorem noLs_steps (l : List Stp) : noLs (dsteps l) = true := by
  induction l with
  | nil => rfl
  | cons i l ih =>
    show (noL i.d && noLs (dsteps l)) = true
    rw [ih, noL_stp]
    rfl
theorem noLs_states (l : List Sta) : noLs (dstates l) = true := by
  induction l with
  | nil => rfl
  | cons i l ih =>
    show (noL i.d && noLs (dstates l)) = true
    rw [ih, noL_sta]
    rfl
def spLaw (K : PySem.W.Frag) : Sp := fun vs H Q _ => ∃ (a : Addr) (ns : List Int), vs = [.ref a] ∧ SqL K H a (ns.map V.int) ∧ ns.length ≤ 63 ∧ ∀ H', Q (.bl true) H'

section
open LamX NdefX
variable {P : Program} {w : World} {K : PySem.W.Frag} {mg : Str → Option Value} {base : Heap}
/-- lambda: x(..) -/
theorem lok_call {k : Nat} {x : Str} {ps : List Str} {sp : Sp} {f g : Addr} {fd : FuncData} {F : NdefX.NF} {body e : Expr} {es : List Expr} {N fr : List Str} {t : TA} {p0 p3 : Pos} (Cl : CalX P w K mg base k x ps sp g fd) (eb : body = .Call (.Name x p0) (e :: es) [] p3) (S : NScope N [] fr F.scope)
    (gl : F.scope.names.lookup x = some .globalImplicit) (bnd : ∀ pm ctv : Value, bindArgs (PySem.W.kla_fn F.name F.qual F.params body F.scope F.cl pm (.ref F.c) ctv) ⟨[], []⟩ = pure [])
    (ha : ∀ (A : Around) (outer : List Env) (s : Shared) (H : Hp) (E : XK), Room k (A.deeper (envF F f s.heap.objs.size)) → PA (ncx (L2.CX P w) P w K mg base N F f A outer s H E) (e :: es) t)
    (he : ∀ env : Env, starEach (e :: es) env = (false, eval e env) :: starEach es env := by intro _; rfl) (hpl : ∀ env : Env, (backTo p3 (starEach es env)).any (·.1) = false := by intro _; rfl) (d0 : (x == ("__debug__" : Str)) = false := by decide) :
    LOk P w K mg base (k + 1) f F body fr (fun ws H Q E => tCall sp [] E t (startF N [] ws) H Q) := by
  subst eb
  exact lok_of S bnd fun A outer s H ws Q E hr hl h => ⟨_, pe_call Cl.G hr gl Cl.g Cl.kp Cl.b .nil (passes_call (takes_of rfl rfl rfl rfl) (fun _ _ _ _ h => h)) (ha A outer s H E hr) (hdb := d0) (he := he _) (hpl := hpl _), h⟩
/-- the test of [.. if _law_word(x) != 'step'], its reading -/
def ttW (X : Cx) (cS cR : Addr) (kL i : Nat) (σ0 : L2.St) : TT := fun σ' H' Q => ∃ (f : Addr) (F : NdefX.NF) (body : Expr) (fr : List Str) (js : List Nat) (sp : List (Option V) → Hp → VK → XK → Prop), σ'[i]? = some (some (.ref f)) ∧ H' f = some (LamO f F body) ∧ H' F.c = some (CodeO F.c F.qual) ∧ (X.Ok → Caps X F.cl fr js) ∧
  LOk X.prog X.w X.K X.mg X.base kL f F body fr sp ∧ wordT X.K cS cR (sp (js.map (slotAt σ0))) H' (fun x H1 => rNe x (.str "step") H1 fun z H2 => ∃ b, z = .bl b ∧ Q b H2)
theorem pts_word {X : Cx} {c : Expr} {scope : Scope} {y : Str} {p1 p2 p3 p4 p5 : Pos} {j0 i k kL : Nat} {fw fR cA cB cS cT cR : Addr} {fdw fdR : FuncData} {pins : List (Addr × Obj)} {s : Shared} {σ0 : L2.St} {H0 : Hp} {fp : List Addr} (ec : c = .Compare (.Call (.Name "_law_word" p1) [.Name y p2] [] p3) [.NotEq] [.Constant (.str "step") j0 p4] p5)
    (D : Dfs X.K X.mg "_law_word" s__law_word ["_law_work"] fw fdw) (T : Tx X.K X.mg) (Kn : Kin X.K X.mg cA cB cS cT cR) (KS : KinS X.K cA cB cS cT cR) (KR : KinR X.K cA cB cS cT cR) (DS : ExD X.K cS)
    (X_Barred : Xi3 X.prog X.w X.K X.mg X.base cR fR fdR "rule" "number" "at" (spX3 X.K cR "rule" "number" "at")) (hr : Room (k + 2) X.A) (hk : kL ≤ k) (I : Inv X pins σ0 H0 s) (ok : ∀ b ∈ fp, FpOk X pins H0 b) (C : Addr) (cl : List (Str × Addr))
    (hg : Gl (X.blk s H0 scope (compEnvC scope cl C X.env) fp) "_law_word") (hN : X.N[i]? = some y) (hv : Vis (compEnvC scope cl C X.env).scope y) (hd : (y == ("__debug__" : Str)) = false := by decide) (hcd : (y == ("__classdict__" : Str)) = false := by decide) :
    PTs (X.blk s H0 scope (compEnvC scope cl C X.env) fp) [c] (ttW X cS cR kL i σ0) := by
  subst ec
  have arg : PE (X.blk s H0 scope (compEnvC scope cl C X.env) fp) (.Name y p2) (tVar i) := pe_var (i := i) hN hv hd hcd
  have call := pe_word (X := X.blk s H0 scope (compEnvC scope cl C X.env) fp) (K := X.K) (p := p1) (pos := p3) rfl D T Kn KS KR DS X_Barred hr hk hg arg rfl
  refine ⟨fun pins2 s2 σ2 H2 Q I2 ⟨f, F, body, fr, js, sp, h1, h2, h3, h4, h5, h6⟩ => (pts_one (pt_cmpR op_ne call pe_str (nomark _))).run pins2 s2 σ2 H2 Q I2 ?_⟩
  refine ⟨_, h1, f, F, body, fr, js.map (slotAt σ0), sp, rfl, h2, h3, fun pins3 s3 I3 => ?_, h5, ?_⟩
  · exact cells_keep (X := X.blk s H0 scope (compEnvC scope cl C X.env) fp) (cells_of I (h4 I.ok)) (fun y c e hb => (ok c hb).2.2.2.2.1 y c ((h4 I.ok).sub y c e) rfl) I3
  · exact h6
end

/-! ## what stands when the tables of code objects are left out -/
def noT (H : Hp) : Hp := fun b => match H b with
  | some (.tbl _) => none
  | x => x
theorem noT_at {H : Hp} {b : Addr} {o : HO} (e : H b = some o) (n : ∀ ps, o ≠ .tbl ps) : noT H b = some o := by
  unfold noT
  rw [e]
  cases o <;> first
    | rfl
    | exact absurd rfl (n _)
theorem noT_not {H : Hp} {b : Addr} {ps : Array Value} : noT H b ≠ some (.tbl ps) := by
  unfold noT
  split
  · intro z
    cases z
  · rename_i h
    intro z
    exact h ps z
theorem noT_of {H : Hp} {b : Addr} {o : HO} (e : noT H b = some o) : H b = some o := by
  unfold noT at e
  split at e
  · cases e
  · exact e
theorem noT_none {H : Hp} {b : Addr} (e : H b = none) : noT H b = none := by
  unfold noT
  rw [e]
theorem same_ext {H H1 : Hp} (e : LamX.ExtN H H1) : Same (noT H) H1 := fun b o h => e b o (noT_of h) fun ps z => noT_not (by rw [z] at h; exact h)
section
variable {K : PySem.W.Frag} {H : Hp}
theorem sqt_noT {a : Addr} {xs : List V} (h : SqT K H a xs) : SqT K (noT H) a xs := by
  rcases h with (h | ⟨o, h⟩) | h
  · exact .inl (.inl (noT_at h fun ps z => by cases z))
  · exact .inl (.inr ⟨o, noT_at h fun ps z => by cases z⟩)
  · exact .inr h
theorem sql_noT {a : Addr} {xs : List V} (h : SqL K H a xs) : SqL K (noT H) a xs := by
  rcases h with (h | ⟨o, h⟩) | h
  · exact .inl (.inl (noT_at h fun ps z => by cases z))
  · exact .inl (.inr ⟨o, noT_at h fun ps z => by cases z⟩)
  · exact .inr h
mutual
theorem dp_noT : ∀ {v : V} {d : PyData}, Dp K H v d → Dp K (noT H) v d
  | _, _, .non => .non
  | _, _, .bl b => .bl b
  | _, _, .int i => .int i
  | _, _, .str x => .str x
  | _, _, .lst h g => .lst (sql_noT h) (dps_noT g)
  | _, _, .tup h g => .tup (sqt_noT h) (dps_noT g)
theorem dps_noT : ∀ {vs : List V} {ds : List PyData}, DpAll K H vs ds → DpAll K (noT H) vs ds
  | _, _, .nil => .nil
  | _, _, .cons h g => .cons (dp_noT h) (dps_noT g)
end
theorem ob_noT {C p : Addr} {S : Sto} (h : Ob K C H p S) : Ob K C (noT H) p S := by
  obtain ⟨dx, l, m, xs, ys, o⟩ := h
  exact ⟨dx, l, m, xs, ys, noT_at o.o (fun ps z => by cases z), sql_noT o.l, dps_noT o.dx, sql_noT o.m, dps_noT o.dy⟩
theorem tabs_but {H' : Hp} {r Pt : Addr} {q : Str} {zs : List V} (e : H r = some (.lst zs)) (s : Same (del1 H r) H') (t : LamX.TabS H Pt q) : LamX.TabS H' Pt q := by
  obtain ⟨ps, h1, h2, h3⟩ := t
  have ne : ∀ b o, H b = some o → (∀ ys, o ≠ .lst ys) → H' b = some o := fun b o hb n => s b o (by
    rw [del1_ne (fun z => by rw [z, e] at hb; exact n zs (Option.some.inj hb).symm)]
    exact hb)
  refine ⟨ps, ne _ _ h1 (fun ys z => by cases z), h2, fun pos cv hc => ?_⟩
  obtain ⟨c, e1, e2⟩ := h3 pos cv hc
  exact ⟨c, e1, ne _ _ e2 (fun ys z => by unfold LamX.CodeO at z; cases z)⟩
/-- what is known once lambdas are made -/
structure MSt (K : PySem.W.Frag) (ρ : RowP) (l Pt : Addr) (q : Str) (B H : Hp) (xs : List V) : Prop where
  P : PSt K ρ l B H xs
  tabs : LamX.TabS H Pt q
  noTab : ∀ b ps, B b ≠ some (.tbl ps)
variable {ρ : RowP} {l Pt : Addr} {q : Str} {B H' : Hp} {xs : List V}
theorem MSt.BH (h : MSt K ρ l Pt q B H xs) : Same B H := h.P.R.same
theorem MSt.pure (h : MSt K ρ l Pt q B H xs) (s : Same H H') : MSt K ρ l Pt q B H' xs := ⟨h.P.pure s, h.tabs.ext s, h.noTab⟩
theorem MSt.ext (h : MSt K ρ l Pt q B H xs) (e : LamX.ExtN H H') (t : LamX.TabS H' Pt q) : MSt K ρ l Pt q B H' xs := by
  obtain ⟨n1, n2, er, g⟩ := h.P.R.row
  exact ⟨⟨⟨fun b o hb => e b o (h.BH b o hb) fun ps z => h.noTab b ps (by rw [← z]; exact hb), h.P.R.free, h.P.R.scr, n1, n2, e _ _ er (fun ps z => by cases z), g⟩, h.P.bl, e _ _ h.P.el (fun ps z => by cases z), h.P.nr⟩, t, h.noTab⟩
theorem MSt.drawn {B' : Hp} (h : MSt K ρ l Pt q B H xs) (R : RowSt K ρ B' H') (s : Same (del1 H ρ.r) B') : MSt K ρ l Pt q B H' xs := by
  obtain ⟨n1, n2, er, g⟩ := h.P.R.row
  have sb : Same B (del1 H ρ.r) := same_del h.BH h.P.R.free
  exact ⟨⟨R.less (sb.trans s) h.P.R.scr, h.P.bl, (s.trans R.same) _ _ (by rw [del1_ne (Ne.symm h.P.nr)]; exact h.P.el), h.P.nr⟩, tabs_but er (s.trans R.same) h.tabs, h.noTab⟩
theorem same_put {f : Addr} {zs : List V} {o : HO} (e : H f = some (.lst zs)) : Same (del1 H f) (upd H f o) := fun b u hb => by
  have n : b ≠ f := fun z => by rw [z, del1_same] at hb; cases hb
  rw [del1_ne n] at hb
  rw [upd_ne n]
  exact hb
theorem MSt.put {f : Addr} {zs ys : List V} (h : MSt K ρ l Pt q B H xs) (e : H f = some (.lst zs)) (b : B f = none) (n1 : ρ.r ≠ f) (n2 : l ≠ f) : MSt K ρ l Pt q B (upd H f (.lst ys)) xs :=
  ⟨⟨h.P.R.put n1 b, h.P.bl, by rw [upd_ne n2]; exact h.P.el, h.P.nr⟩, tabs_but e (same_put e) h.tabs, h.noTab⟩
end
theorem same_noT {H : Hp} : Same (noT H) H := fun _ _ h => noT_of h
theorem word_inj {t u : Stp} (h : t.d = u.d) : wordOf t = wordOf u := by
  have e : ∀ z : Stp, ∃ r, z.d = .tuple (.str (wordOf z) :: r) := fun z => by cases z <;> exact ⟨_, rfl⟩
  obtain ⟨r1, e1⟩ := e t
  obtain ⟨r2, e2⟩ := e u
  rw [e1, e2] at h
  have := PyData.tuple.inj h
  have := (List.cons.inj this).1
  exact PyData.str.inj this
theorem stp_inj {t u : Stp} (h : t.d = u.d) : t = u := by
  have w := word_inj h
  cases t <;> cases u <;> first
    | rfl
    | exact absurd w nb1 | exact absurd w nb2 | exact absurd w nb3 | exact absurd w nb4 | exact absurd w nb5 | exact absurd w nb6
    | exact absurd w nb7 | exact absurd w nb8 | exact absurd w nb9 | exact absurd w nb10 | exact absurd w nb11 | exact absurd w nb12
    | exact absurd w nb13.1 | exact absurd w nb13.2.1 | exact absurd w nb13.2.2.1 | exact absurd w nb13.2.2.2
    | exact absurd w.symm nb13.1 | exact absurd w.symm nb13.2.1 | exact absurd w.symm nb13.2.2.1 | exact absurd w.symm nb13.2.2.2
    | (have e := (List.cons.inj (List.cons.inj (PyData.tuple.inj h)).2).1
       rw [PyData.int.inj e])
theorem dsteps_inj : ∀ {ts us : List Stp}, dsteps ts = dsteps us → ts = us
  | [], [], _ => rfl
  | [], _ :: _, h => by cases h
  | _ :: _, [], h => by cases h
  | t :: ts, u :: us, h => by
    have h : t.d :: dsteps ts = u.d :: dsteps us := h
    obtain ⟨h1, h2⟩ := List.cons.inj h
    rw [stp_inj h1, dsteps_inj h2]
theorem OpenPlan.le {S : Sto} : ∀ {ts : List Stp} {s : Sta} (n : Nat), OpenPlan S s ts → OpenPlan S s (ts.take n)
  | [], s, n, _ => by rw [List.take_nil]; trivial
  | t :: r, s, 0, _ => trivial
  | t :: r, s, n + 1, h => ⟨h.1, OpenPlan.le n h.2⟩
theorem open_at {S : Sto} {ts : List Stp} {n i : Nat} {t : Stp} (op : OpenPlan S (sta0 S) (ts.take n)) (h : i < n) (e : ts[i]? = some t) : bar S (runS S (sta0 S) (ts.take i)) t = none := by
  have e2 : (ts.take n)[i]? = some t := by rw [List.getElem?_take_of_lt h]; exact e
  have z := op.at e2
  rw [List.take_take, Nat.min_eq_left (Nat.le_of_lt h)] at z
  exact z
theorem Goes.only {S : Sto} {ts : List Stp} {n i : Nat} {o : Option (Str × Int × Nat)} {t : Stp} {r : Str} {k : Int} (h : Goes S ts n o) (e : ts[i]? = some t) (op : OpenPlan S (sta0 S) (ts.take i)) (b : bar S (runS S (sta0 S) (ts.take i)) t = some (r, k)) : o = some (r, k, i) := by
  match o, h with
  | none, ⟨_, op2⟩ =>
    have z := op2.at e
    rw [b] at z
    cases z
  | some (r2, k2, i2), ⟨en, op2, t2, e2, b2⟩ =>
    subst en
    rcases Nat.lt_trichotomy i i2 with lt | rfl | lt
    · have z := open_at op2 lt e
      rw [b] at z
      cases z
    · rw [e] at e2
      cases e2
      rw [b] at b2
      cases b2
      rfl
    · have z := open_at op lt e2
      rw [b2] at z
      cases z
theorem Goes.all {S : Sto} {ts : List Stp} {n : Nat} {o : Option (Str × Int × Nat)} (h : Goes S ts n o) (op : OpenPlan S (sta0 S) ts) : o = none := by
  match o, h with
  | none, _ => rfl
  | some (r2, k2, i2), ⟨_, _, t2, e2, b2⟩ =>
    have z := op.at e2
    rw [b2] at z
    cases z

theorem cut_f (xs : List V) (i : Nat) : cutV xs (some (i : Int)) none = xs.drop i := by
  have e := cut_ft xs i xs.length
  have e2 : (xs.drop i).take (xs.length - i) = xs.drop i := by
    rw [List.take_of_length_le]
    rw [List.length_drop]
    exact Nat.le_refl _
  rw [e2] at e
  rw [← e]
  unfold cutV
  rw [HT.sIx_none, HT.sIx_nat, HT.sIx_nat]
  simp
/-- l[i:] -/
theorem evl_from {K : PySem.W.Frag} {σ : L2.St} {H : Hp} {k : Nat} {a : Addr} {xs : List V} {ds : List PyData} {i : Nat} {ti : TE} (h : σ[k]? = some (some (.ref a))) (hl : SqL K H a xs) (hd : DpAll K H xs ds) (hi : EvD K σ H ti (.int (i : Int))) : EvL K σ H (tSl (rSlL K) (tVar k) (tPart ti) tNoPart) (ds.drop i) := fun H' Q s q =>
  ⟨_, h, hi H' _ s fun v H2 s2 d2 => ⟨(i : Int), dp_int d2, a, xs, rfl, Same.l (s.trans s2) hl, fun p np => by
    rw [cut_f]
    exact q p _ _ (s2.trans (same_new np)) (s2.free np) upd_same (dps_mono ((s.trans s2).trans (same_new np)) (dps_drop hd i))⟩⟩
/-- a lambda that asks what is none -/
def WK (X : Cx) (cS cR : Addr) (B : Hp) (p l : Addr) (u vb : V) (k : Nat) (xs : List V) (d : PyData) (H : Hp) (f : Addr) : Prop := ∃ (F : NdefX.NF) (body : Expr) (fr : List Str) (js : List Nat) (sp : List (Option V) → Hp → VK → XK → Prop), H f = some (LamO f F body) ∧ H F.c = some (LamX.CodeO F.c F.qual) ∧
  (X.Ok → NdefX.Caps X F.cl fr js) ∧ LOk X.prog X.w X.K X.mg X.base 7 f F body fr sp ∧ ∀ (τ : L2.St) (G : Hp) (R : VK), τ[3]? = some (some (.ref p)) → τ[4]? = some (some (.ref l)) → τ[5]? = some (some u) → τ[14]? = some (some vb) → τ[15]? = some (some (.int (k : Int))) →
    Same B G → G l = some (.lst xs) → Dp X.K G vb d → (∀ G', Same G G' → R (.str "step") G') → wordT X.K cS cR (sp (js.map (NdefX.slotAt τ))) G R
theorem WK.stay {X : Cx} {cS cR : Addr} {B H H' : Hp} {p l f : Addr} {u vb : V} {k : Nat} {xs : List V} {d : PyData} (h : WK X cS cR B p l u vb k xs d H f) (e : ∀ b o, H b = some o → (∀ ys, o ≠ .lst ys) → (∀ ps, o ≠ .tbl ps) → H' b = some o) : WK X cS cR B p l u vb k xs d H' f := by
  obtain ⟨F, body, fr, js, sp, h1, h2, h3⟩ := h
  exact ⟨F, body, fr, js, sp, e _ _ h1 (fun ys z => by unfold LamO at z; cases z) (fun ys z => by unfold LamO at z; cases z), e _ _ h2 (fun ys z => by unfold LamX.CodeO at z; cases z) (fun ys z => by unfold LamX.CodeO at z; cases z), h3⟩
theorem stay_new {H H' : Hp} (s : Same H H') : ∀ b o, H b = some o → (∀ ys, o ≠ HO.lst ys) → (∀ ps, o ≠ HO.tbl ps) → H' b = some o := fun b o e _ _ => s b o e
theorem stay_ext {H H' : Hp} (s : LamX.ExtN H H') : ∀ b o, H b = some o → (∀ ys, o ≠ HO.lst ys) → (∀ ps, o ≠ HO.tbl ps) → H' b = some o := fun b o e _ n => s b o e n
theorem stay_put {H : Hp} {w : Addr} {zs ys : List V} (e : H w = some (.lst zs)) : ∀ b o, H b = some o → (∀ ys, o ≠ HO.lst ys) → (∀ ps, o ≠ HO.tbl ps) → (upd H w (.lst ys)) b = some o := fun b o hb n _ => by
  rw [upd_ne (fun z => by rw [z, e] at hb; exact n zs (Option.some.inj hb).symm)]
  exact hb

/-- what is known while the plan is drawn and after -/
structure KSt (K : PySem.W.Frag) (C : Addr) (ρ : RowP) (l Pt p : Addr) (v : V) (S : Sto) (B H : Hp) (xs : List V) (ts : List Stp) : Prop where
  P : PSt K ρ l B H xs
  dv : Dp K B v S.d
  ob : Ob K C B p S
  dx : DpAll K B xs (dsteps ts)
  tab : B Pt = some (.tbl #[])
  hts : ∀ t ∈ ts, StpOk S.wishes.length t
section
variable {K : PySem.W.Frag} {C : Addr} {ρ : RowP} {l Pt p : Addr} {v : V} {S : Sto} {B B' H H' : Hp} {xs : List V} {ts : List Stp}
theorem KSt.to (h : KSt K C ρ l Pt p v S B H xs ts) (P : PSt K ρ l B' H' xs) (s : Same B B') : KSt K C ρ l Pt p v S B' H' xs ts := ⟨P, dp_mono s h.dv, h.ob.mono s, dps_mono s h.dx, s _ _ h.tab, h.hts⟩
theorem KSt.pure (h : KSt K C ρ l Pt p v S B H xs ts) (s : Same H H') : KSt K C ρ l Pt p v S B H' xs ts := h.to (h.P.pure s) (Same.refl _)
theorem KSt.know (h : KSt K C ρ l Pt p v S B H xs ts) (s : Same H H') : KSt K C ρ l Pt p v S (but2 ρ l H') H' xs ts ∧ Same B (but2 ρ l H') := ⟨h.to (h.P.know s).1 (h.P.know s).2, (h.P.know s).2⟩
theorem KSt.row (h : KSt K C ρ l Pt p v S B H xs ts) : RowSt K ρ (del1 H ρ.r) H := (row_all h.P.R (Same.refl _)).1
theorem KSt.drawn (h : KSt K C ρ l Pt p v S B H xs ts) (R : RowSt K ρ (del1 H ρ.r) H') : KSt K C ρ l Pt p v S (but2 ρ l H) H' xs ts ∧ Same B (but2 ρ l H) := ⟨h.to (h.P.drawn R) (h.P.know (Same.refl _)).2, (h.P.know (Same.refl _)).2⟩
theorem KSt.BH (h : KSt K C ρ l Pt p v S B H xs ts) : Same B H := h.P.R.same
theorem KSt.app (h : KSt K C ρ l Pt p v S B H xs ts) {y : V} {t : Stp} (hy : Dp K B y t.d) (ht : StpOk S.wishes.length t) : KSt K C ρ l Pt p v S B (upd H l (.lst (xs ++ [y]))) (xs ++ [y]) (ts ++ [t]) := by
  refine ⟨h.P.app y, h.dv, h.ob, ?_, h.tab, fun u hu => ?_⟩
  · have e : dsteps (ts ++ [t]) = dsteps ts ++ [t.d] := List.map_append ..
    rw [e]
    exact dps_app h.dx (.cons hy .nil)
  · rcases List.mem_append.mp hu with hu | hu
    · exact h.hts u hu
    · rw [List.mem_singleton] at hu
      rw [hu]
      exact ht
end
theorem open_ne (S : Sto) (s : Sta) : openSteps S s ≠ [] := fun z => by
  have h : Stp.wait ∈ openSteps S s := List.mem_filter.mpr ⟨mem_allSteps (show StpOk (S.wishes.length : Int) .wait from trivial), rfl⟩
  rw [z] at h
  cases h
theorem all_ne (m : Nat) : allSteps m ≠ [] := fun z => by
  have e := allSteps_len m
  rw [z] at e
  cases e
def spLaw7 (K : PySem.W.Frag) (Pt : Addr) : Sp := fun vs H Q _ => ∃ (a : Addr) (ns : List Int), vs = [.ref a] ∧ SqL K H a (ns.map V.int) ∧ H Pt = some (.tbl #[]) ∧ ∀ H', Q (.bl true) H'
def endB (S : Sto) (s : Sta) : Bool := decide (s.done.length = S.wishes.length) && decide (s.inside.length = 0)
theorem lay_bool {n : Nat} {b : Bool} : Lay n (.bool b) := ⟨by unfold PyData.canLay0; rfl, by unfold PyData.depth; exact Nat.zero_le _⟩
theorem bools_lay (l : List Bool) : Lay 1 (.list (l.map PyData.bool)) := (Lays.all fun d hd => by
  obtain ⟨b, _, rfl⟩ := List.mem_map.mp hd
  exact lay_bool).lst
theorem dps_bools {K : PySem.W.Frag} {H : Hp} : ∀ l : List Bool, DpAll K H (l.map V.bl) (l.map PyData.bool)
  | [] => .nil
  | b :: l => .cons (.bl b) (dps_bools l)
theorem state_item {ts : List Sta} {i : Nat} {d : PyData} (h : (dstates ts)[i]? = some d) : ∃ t, ts[i]? = some t ∧ d = t.d := by
  unfold dstates at h
  rw [List.getElem?_map] at h
  cases e : ts[i]? with
  | none =>
    rw [e] at h
    cases h
  | some z =>
    rw [e] at h
    exact ⟨z, rfl, (Option.some.inj h).symm⟩
abbrev lsc1 : Scope := { kind := .function, names := [("_law_handed", .free), ("_law_told", .free), ("played", .globalImplicit)], isGenerator := false, isCoroutine := false, more := [] }
abbrev lsc2 (x : Str) : Scope := { kind := .function, names := [("_law_at", .free), ("_law_bad", .free), ("_law_plan", .free), ("_law_told", .free), (x, .globalImplicit)], isGenerator := false, isCoroutine := false, more := [] }
abbrev lsc3 : Scope := { kind := .function, names := [("_law_bad", .free), ("_law_state", .free), ("_law_told", .free), ("barred", .globalImplicit)], isGenerator := false, isCoroutine := false, more := [] }
section
variable {P : Program} {w : World} {K : PySem.W.Frag} {mg : Str → Option Value} {base : Heap}
/-! law: 0 _law_script, 1 _law_row, 2 _law_store_here, 3 _law_told, 4 _law_plan, 5 _law_state, 6 _law_k, 7 _law_some, 8 _law_states, 9 _law_word_here, 10 _law_handed, 11 _law_good, 12 _law_found, 13 _law_ends, 14 _law_bad, 15 _law_at, 16 _law_works, 17 _law_one, 18 _law_work, 19 _law_step -/
abbrev s_law : Stmt := topS 52
abbrev N_law : List Str := ["_law_script", "_law_row", "_law_store_here", "_law_told", "_law_plan", "_law_state", "_law_k", "_law_some", "_law_states", "_law_word_here", "_law_handed", "_law_good", "_law_found", "_law_ends", "_law_bad", "_law_at", "_law_works", "_law_one", "_law_work", "_law_step"]
theorem sc_law : FnScope N_law ["_law_script"] (defScope s_law) := ⟨rfl, rfl, rfl, by decide +kernel, rfl, by decide +kernel, by decide +kernel⟩
theorem ok_law {f f1 f2 f3 f4 f5 f6 f7 f8 f9 f10 f11 f12 f13 f14 fw fR C cL Pt cA cB cS cT cR : Addr} {oc kV doc pm ct : Value} {od an : Option Addr} {osl : Array (Option Value)} {fd1 fd2 fd3 fd4 fd5 fd6 fd7 fd8 fd9 fd10 fd11 fd12 fd13 fd14 fdw fdR : FuncData}
    (lk : K.lookup f = some ⟨oc, od, .func (PySem.W.fnOf "law" "law" (defArgs s_law) (defBody s_law) (defScope s_law) .none kV doc pm an (.ref cL) ct), osl⟩) (hcd : PySem.W.codeIn K (.ref cL) "law" = true) (TB : LamX.TabB base mg cL Pt) (T : Tx K mg)
    (Kn : Kin K mg cA cB cS cT cR) (KS : KinS K cA cB cS cT cR) (KR : KinR K cA cB cS cT cR) (DS : ExD K cS) (X_Barred : Xi3 P w K mg base cR fR fdR "rule" "number" "at" (spX3 K cR "rule" "number" "at"))
    (D__law_word : Dfs K mg "_law_word" s__law_word ["_law_work"] fw fdw)
    (C__law_taken : Cal P w K mg base 1 "_law_taken" ["_law_row", "_law_many"] (spTaken K) f1 fd1) (C__law_store : Cal P w K mg base 3 "_law_store" ["_law_row"] (spStore K) f2 fd2) (C__law_made : Cal P w K mg base 6 "_law_made" ["_law_store_here"] (spMade K C) f3 fd3)
    (C__law_begin : Cal P w K mg base 1 "_law_begin" ["_law_store_here"] (spLawBegin K) f4 fd4) (C__law_every : Cal P w K mg base 1 "_law_every" ["_law_store_here"] (spEvery K) f5 fd5)
    (C__law_bar : Cal P w K mg base 3 "_law_bar" ["_law_store_here", "_law_state", "_law_step"] (spLawBar K) f6 fd6) (C__law_steps : Cal P w K mg base 4 "_law_steps" ["_law_store_here", "_law_state"] (spLawSteps K) f7 fd7)
    (C__law_behind : Cal P w K mg base 1 "_law_behind" ["_law_store_here", "_law_state", "_law_step"] (spLawBehind K) f8 fd8) (C__law_none : Cal P w K mg base 2 "_law_none" ["_law_row", "_law_store_here"] (spLawNone K) f9 fd9)
    (C__law_due : Cal P w K mg base 4 "_law_due" ["_law_store_here", "_law_plan"] (spDue K) f10 fd10) (C_is_end : Cal P w K mg base 2 "is_end" ["store", "state"] (spIsEnd K C) f11 fd11)
    (C_played : CalX P w K mg base 6 "played" ["store", "plan"] (spPlayedS K C cS cR) f12 fd12) (C_shifts : CalX P w K mg base 4 "shifts" ["store", "plan"] (spShiftsS K C cS) f13 fd13) (C_barred : CalX P w K mg base 6 "barred" ["store", "state", "step"] (spBarredS K C cS) f14 fd14) :
    FnOk P w K mg base CX0 10 f (PySem.W.fnOf "law" "law" (defArgs s_law) (defBody s_law) (defScope s_law) .none kV doc pm an (.ref cL) ct) ["_law_script"] (spLaw7 K Pt) := by
  refine ⟨fun vs H Q E h => ?_, fun A outer s H args us vs Q E hr0 e0 hb rv h => LamX.run_ofS (k := 9) lk hcd sc_law hr0 e0 hb rv ?_ fun hr => ?_⟩
  · obtain ⟨a, ns, rfl, _⟩ := h
    rfl
  · obtain ⟨a, ns, rfl, _⟩ := h
    rfl
  · obtain ⟨a, ns, rfl, hS, hP, q⟩ := h
    refine ⟨_, PSs.nox (pss_cons (ps_set (i := 1) sc_law.nd rfl (Or.inl rfl) (pe_lst (pa_cons (pv 0) (pa_cons pe_int (pa_cons pe_int pa_nil)))))
      (pss_cons (ps_set (i := 2) sc_law.nd rfl (Or.inr rfl) (pe_call C__law_store.G (hr.mono (by decide)) (by rfl) C__law_store.g C__law_store.kp C__law_store.b .nil pass0 (pa_cons (pv 1) pa_nil)))
      (pss_cons (ps_set (i := 3) sc_law.nd rfl (Or.inr rfl) (pe_call C__law_made.G (hr.mono (by decide)) (by rfl) C__law_made.g C__law_made.kp C__law_made.b .nil pass0 (pa_cons (pv 2) pa_nil)))
      (pss_cons (ps_set (i := 4) sc_law.nd rfl (Or.inr rfl) (pe_lst pa_nil))
      (C8.pss_cut (ps_set (i := 5) sc_law.nd rfl (Or.inr rfl) (pe_call C__law_begin.G (hr.mono (by decide)) (by rfl) C__law_begin.g C__law_begin.kp C__law_begin.b .nil pass0 (pa_cons (pv 2) pa_nil)))
      (pss_cons (ps_for PassesOwn.never rfl (pi_range1 (by rfl) T.n_range (pa_cons (pe_call C__law_taken.G (hr.mono (by decide)) (by rfl) C__law_taken.g C__law_taken.kp C__law_taken.b .nil pass0 (pa_cons (pv 1) (pa_cons pe_int pa_nil))) pa_nil)) (pg_name (i := 6) sc_law.nd rfl (Or.inl rfl)) (C8.pss_cut (ps_set (i := 7) sc_law.nd rfl (Or.inl rfl) (pe_ix (kix_list (K := K)) (pe_lst (pa_cons (pe_call C__law_steps.G (hr.mono (by decide)) (by rfl) C__law_steps.g C__law_steps.kp C__law_steps.b .nil pass0 (pa_cons (pv 2) (pa_cons (pv 5) pa_nil))) (pa_cons (pe_call C__law_every.G (hr.mono (by decide)) (by rfl) C__law_every.g C__law_every.kp C__law_every.b .nil pass0 (pa_cons (pv 2) pa_nil)) pa_nil))) (pe_callTy call_int1 (by rfl) T.n_int (by decide +kernel) (pa_cons (pe_cmpR op_eq (pe_call C__law_taken.G (hr.mono (by decide)) (by rfl) C__law_taken.g C__law_taken.kp C__law_taken.b .nil pass0 (pa_cons (pv 1) (pa_cons pe_int pa_nil))) pe_int (nomark _)) pa_nil)) (fun _ _ => rfl)))
      (C8.pss_cut (ps_expr (pe_bm PySem.F.plainAttrs_list PySem.F.slot_list_append PySem.F.type_list_append mt_append (pv 4) (pa_cons (pe_ix (kix_list (K := K)) (pv 7) (pe_call C__law_taken.G (hr.mono (by decide)) (by rfl) C__law_taken.g C__law_taken.kp C__law_taken.b .nil pass0 (pa_cons (pv 1) (pa_cons (pe_callB (klen (K := K)) (by rfl) T.n_len (by decide +kernel) (pa_cons (pv 7) pa_nil)) pa_nil))) (fun _ _ => rfl)) pa_nil)))
      (pss_one (ps_if (pt_cmpR op_isN (pe_call C__law_bar.G (hr.mono (by decide)) (by rfl) C__law_bar.g C__law_bar.kp C__law_bar.b .nil pass0 (pa_cons (pv 2) (pa_cons (pv 5) (pa_cons (pe_ix (kix_list (K := K)) (pv 4) (pe_un un_neg pe_int) (fun _ _ => rfl)) pa_nil)))) pe_non (nomark _)) (pss_one (ps_set (i := 5) sc_law.nd rfl (Or.inr rfl) (pe_call C__law_behind.G (hr.mono (by decide)) (by rfl) C__law_behind.g C__law_behind.kp C__law_behind.b .nil pass0 (pa_cons (pv 2) (pa_cons (pv 5) (pa_cons (pe_ix (kix_list (K := K)) (pv 4) (pe_un un_neg pe_int) (fun _ _ => rfl)) pa_nil)))))) pss_nil)))))
      (C8.pss_cut (ps_asg (pe_call C__law_due.G (hr.mono (by decide)) (by rfl) C__law_due.g C__law_due.kp C__law_due.b .nil pass0 (pa_cons (pv 2) (pa_cons (pv 4) pa_nil))) (pg_tup (by rfl) (pgs_cons (pg_name (i := 8) sc_law.nd rfl (Or.inl rfl)) (pgs_cons (pg_name (i := 9) sc_law.nd rfl (Or.inl rfl)) pgs_nil))))
      (C8.pss_cut (ps_set (i := 10) sc_law.nd rfl (Or.inr rfl) (pe_callTy (klist_of (K := K)) (by rfl) T.n_list (by decide +kernel) (pa_cons (pv 4) pa_nil)))
      (C8.pss_cut (ps_if (PW.pt (pw_or (pt_cmpR (kneD (K := K) hr.units) (pe_word (K := K) rfl D__law_word T Kn KS KR DS X_Barred (k := 7) (kL := 7) (hr.mono (by decide)) (by decide) (by rfl) (pe_lam TB rfl (LamX.lamS_by (sc := defScope s_law) (by decide +kernel)) rfl)) (pv 9) (nomark _)) (pw_or1 (pt_cmpR (kneD (K := K) hr.units) (pv 10) (pv 4) (nomark _))))) (pss_one (ps_ret pe_bl)) pss_nil)
      (C8.pss_cut (ps_set (i := 11) sc_law.nd rfl (Or.inl rfl) (pe_slice (ksl_list (K := K)) (pv 4) po_none (po_some (pe_op op_sub (pe_callB (klen (K := K)) (by rfl) T.n_len (by decide +kernel) (pa_cons (pv 8) pa_nil)) pe_int))))
      (C8.pss_cut (ps_set (i := 12) sc_law.nd rfl (Or.inl rfl) (pe_call C_played.G (hr.mono (by decide)) (by rfl) C_played.g C_played.kp C_played.b .nil passL (pa_cons (pv 3) (pa_cons (pv 11) pa_nil))))
      (C8.pss_cut (ps_if (PW.pt (pw_or (pt_cmpR (kneD (K := K) hr.units) (pv 12) (pv 8) (nomark _)) (pw_or1 (pt_cmpR op_ne (pe_call C_shifts.G (hr.mono (by decide)) (by rfl) C_shifts.g C_shifts.kp C_shifts.b .nil passL (pa_cons (pv 3) (pa_cons (pv 4) pa_nil))) (pe_callB (klen (K := K)) (by rfl) T.n_len (by decide +kernel) (pa_cons (pe_lc (own := [("_law_step", 19)]) (g := gName 19) rfl sc_law.nd (pi_list (pv 4)) (blkOk_by (own := [("_law_step", 19)]) (N := N_law) (sc := defScope s_law) (by decide +kernel)) (fun _ _ _ _ _ => (pg_name (i := 19) sc_law.nd rfl (Or.inl rfl))) (fun _ _ _ _ _ => (pts_one (pt_cmpR op_eq (pe_ix (kix_tup (K := K)) (pv 19) pe_int (fun _ _ => rfl)) pe_str (nomark _)))) (fun _ _ _ _ _ => (pv 19))) pa_nil)) (nomark _))))) (pss_one (ps_ret pe_bl)) pss_nil)
      (C8.pss_cut (ps_setLc (i := 13) (own := [("_law_one", 17)]) (g := gName 17) rfl sc_law.nd rfl rfl (sw_true rfl rfl rfl (by decide +kernel)) (pi_list (pv 8)) (blkOk_by (own := [("_law_one", 17)]) (N := N_law) (sc := defScope s_law) (by decide +kernel)) (fun _ _ _ _ _ => (pg_name (i := 17) sc_law.nd rfl (Or.inl rfl))) (fun _ _ _ _ _ => pts_nil) (fun _ _ _ _ _ => by exact (pe_call C_is_end.G (hr.mono (by decide)) (by rfl) C_is_end.g C_is_end.kp C_is_end.b .nil pass0 (pa_cons (pv 3) (pa_cons (pv 17) pa_nil)))))
      (C8.pss_cut (ps_if (pt_cmpR (kneD (K := K) hr.units) (pv 13) (pe_lc (own := [("_law_one", 17)]) (g := gName 17) rfl sc_law.nd (pi_list (pv 8)) (blkOk_by (own := [("_law_one", 17)]) (N := N_law) (sc := defScope s_law) (by decide +kernel)) (fun _ _ _ _ _ => (pg_name (i := 17) sc_law.nd rfl (Or.inl rfl))) (fun _ _ _ _ _ => pts_nil) (fun _ _ _ _ _ => by exact (pe_and (pe_cmpR op_eq (pe_callB (klen (K := K)) (by rfl) T.n_len (by decide +kernel) (pa_cons (pe_ix (kix_tup (K := K)) (pv 17) pe_int (fun _ _ => rfl)) pa_nil)) (pe_callB (klen (K := K)) (by rfl) T.n_len (by decide +kernel) (pa_cons (pe_ix (kix_tup (K := K)) (pv 2) pe_int (fun _ _ => rfl)) pa_nil)) (nomark _)) (pe_one (pe_cmpR (keqD (K := K) hr.units) (pe_ix (kix_tup (K := K)) (pv 17) pe_int (fun _ _ => rfl)) (pe_tup pa_nil) (nomark _)))))) (nomark _)) (pss_one (ps_ret pe_bl)) pss_nil)
      (C8.pss_cut (ps_expr (pe_bm PySem.F.plainAttrs_list PySem.F.slot_list_append PySem.F.type_list_append mt_append (pv 12) (pa_cons pe_int pa_nil)))
      (C8.pss_cut (ps_set (i := 14) sc_law.nd rfl (Or.inr rfl) (pe_call C__law_none.G (hr.mono (by decide)) (by rfl) C__law_none.g C__law_none.kp C__law_none.b .nil pass0 (pa_cons (pv 1) (pa_cons (pv 2) pa_nil))))
      (C8.pss_cut (ps_set (i := 15) sc_law.nd rfl (Or.inr rfl) (pe_call C__law_taken.G (hr.mono (by decide)) (by rfl) C__law_taken.g C__law_taken.kp C__law_taken.b .nil pass0 (pa_cons (pv 1) (pa_cons (pe_op op_add (pe_callB (klen (K := K)) (by rfl) T.n_len (by decide +kernel) (pa_cons (pv 4) pa_nil)) pe_int) pa_nil))))
      (C8.pss_cut (ps_set (i := 16) sc_law.nd rfl (Or.inl rfl) (pe_lst (pa_cons (pe_lam TB rfl (LamX.lamS_by (sc := defScope s_law) (by decide +kernel)) rfl) pa_nil)))
      (C8.pss_cut (ps_expr (pe_bm PySem.F.plainAttrs_list PySem.F.slot_list_append PySem.F.type_list_append mt_append (pv 16) (pa_cons (pe_lam TB rfl (LamX.lamS_by (sc := defScope s_law) (by decide +kernel)) rfl) pa_nil)))
      (C8.pss_cut (ps_expr (pe_bm PySem.F.plainAttrs_list PySem.F.slot_list_append PySem.F.type_list_append mt_append (pv 16) (pa_cons (pe_lam TB rfl (LamX.lamS_by (sc := defScope s_law) (by decide +kernel)) rfl) pa_nil)))
      (pss_one (ps_ret (pe_and (pe_cmpR (keqD (K := K) hr.units) (pe_lcN (own := [("_law_work", 18)]) (g := gName 18) (Start := fun _ _ => True) (tt := fun σ0 _ => ttW _ cS cR 7 18 σ0) rfl sc_law.nd (pi_list (pv 16)) (blkOk_by (own := [("_law_work", 18)]) (N := N_law) (sc := defScope s_law) (by decide +kernel)) (fun _ _ _ _ _ => (pg_name (i := 18) sc_law.nd rfl (Or.inl rfl))) (fun pins s σ H fp I ok _ C cl => pts_word (k := 7) rfl D__law_word T Kn KS KR DS X_Barred (hr.mono (by decide)) (by decide) I ok C cl rfl rfl (Or.inl rfl))) (pe_lst pa_nil) (nomark _)) (pe_one (pe_cmpR (keqD (K := K) hr.units) (pe_call C_played.G (hr.mono (by decide)) (by rfl) C_played.g C_played.kp C_played.b .nil passL (pa_cons (pv 3) (pa_cons (pv 11) pa_nil))) (pv 8) (nomark _)))))))))))))))))))))))))), ?_⟩
    -- row, store, told, plan, state
    refine ⟨_, rfl, small (by simp), fun r nr => ?_⟩
    have R0 : RowSt K ⟨r, a, ns⟩ H (upd H r (.lst [.ref a, .int 0, .int 0])) := ⟨same_new nr, nr, hS, 0, 0, upd_same, by decide⟩
    generalize hρ : (⟨r, a, ns⟩ : RowP) = ρ at R0
    have er : r = ρ.r := by rw [← hρ]
    refine ⟨_, rfl, ρ, H, by rw [← er]; rfl, R0, fun v B2 H2 S s2 R2 dv ok => ?_⟩
    have w5 := ok.w5
    refine ⟨_, rfl, v, S, rfl, dp_mono R2.same dv, ok, fun p H3 s3 np ob => ⟨small (by simp), fun l nl => ?_⟩⟩
    have z3 := same_new (o := .lst []) nl
    refine ⟨fun σ H' => ∃ (u : V) (B : Hp), σ = [some (.ref a), some (.ref ρ.r), some v, some (.ref p), some (.ref l), some u, none, none, none, none, none, none, none, none, none, none, none, none, none, none] ∧ KSt K C ρ l Pt p v S B H' [] [] ∧ Dp K B u (sta0 S).d, ?_, ?_⟩
    · refine ⟨_, rfl, v, S, rfl, dp_mono ((R2.same.trans s3).trans z3) dv, fun u H5 s5 d5 => ?_⟩
      have R3 := R2.pure s3
      have P3 : PSt K ρ l B2 (upd H3 l (.lst [])) [] := ⟨R3.new nl, R3.same.free nl, upd_same, R3.nr nl⟩
      obtain ⟨P5, s25⟩ := P3.know s5
      obtain ⟨P4, s24⟩ := P3.know (Same.refl _)
      obtain ⟨n1, n2, e3, _⟩ := R3.row
      have ob3 : Ob K C (del1 H3 ρ.r) p S := ob_del e3 ob
      have obs : Same (del1 H3 ρ.r) (but2 ρ l H5) := fun b o e => by
        have hb : b ≠ ρ.r := fun z => by rw [z, del1_same] at e; cases e
        rw [del1_ne hb] at e
        have hl : b ≠ l := ne_of_none e nl
        exact but2_at (s5 _ _ (z3 _ _ e)) hb hl
      exact ⟨u, but2 ρ l H5, by rw [← er]; rfl, ⟨P5, dp_mono s25 dv, ob3.mono obs, .nil, s25 _ _ (s2 _ _ hP), fun t h => absurd h (by simp)⟩, P5.dp d5 (noL_sta _)⟩
    rintro σ H4 ⟨u, B4, rfl, ks4, du4⟩
    -- for k in range(taken(row, 25))
    refine ⟨_, rfl, ρ, 25, _, rfl, by decide, ks4.row, fun z H5 z0 z1 R5 => ?_⟩
    obtain ⟨ks5, s45⟩ := ks4.drawn R5
    refine ⟨z, rfl, by omega, by omega, for_range (lo := 0) (n := z.toNat) (fun i σ H' => ∃ (B : Hp) (u : V) (st : Sta) (xs : List V) (ts : List Stp) (v6 v7 : Option V), σ = [some (.ref a), some (.ref ρ.r), some v, some (.ref p), some (.ref l), some u, v6, v7, none, none, none, none, none, none, none, none, none, none, none, none] ∧ KSt K C ρ l Pt p v S B H' xs ts ∧ Dp K B u st.d ∧ StaOk S st ∧ ts.length = i)
      ⟨_, u, sta0 S, [], [], none, none, rfl, ks5, dp_mono s45 du4, sta0_ok ok, rfl⟩ ?_ ?_⟩
    · rintro i σ H6 hi ⟨B6, u, st, xs, ts, v6, v7, rfl, ks, du, sk, lts⟩
      have hi25 : i < 25 := by omega
      have du6 := dp_mono ks.BH du
      have dv6 := dp_mono ks.BH ks.dv
      -- some
      refine ⟨fun σ H' => ∃ (B : Hp) (q : Addr) (zs : List V) (ms : List Stp), σ = [some (.ref a), some (.ref ρ.r), some v, some (.ref p), some (.ref l), some u, some (.int (0 + (i : Int))), some (.ref q), none, none, none, none, none, none, none, none, none, none, none, none] ∧ KSt K C ρ l Pt p v S B H' xs ts ∧ Dp K B u st.d ∧ B q = some (.lst zs) ∧ DpAll K B zs (dsteps ms) ∧ ms ≠ [] ∧ ms.length ≤ 12 ∧ ∀ t ∈ ms, StpOk S.wishes.length t, ?_, ?_⟩
      · refine ⟨_, rfl, _, rfl, v, u, S, st, rfl, dv6, du6, ok, sk, fun q1 zs1 H7 s7 n7 e7 d7 => ?_⟩
        refine ⟨_, rfl, v, S, rfl, dp_mono s7 dv6, ok, fun q2 zs2 H8 s8 n8 e8 d8 => ⟨small (by simp), fun q3 n9 => ?_⟩⟩
        have z9 := same_new (o := .lst [.ref q1, .ref q2]) n9
        have s69 := (s7.trans s8).trans z9
        obtain ⟨k9, s6k⟩ := ks.know s69
        refine ⟨_, rfl, ρ, 9, _, rfl, by decide, (row_all ks.P.R s69).1, fun y H10 y0 y1 R10 => ?_⟩
        obtain ⟨k10, s10⟩ := (ks.pure s69).drawn R10
        have m1 := ks.P.new n7
        have m2 := ks.P.new (s7.free n8)
        have m3 := ks.P.new ((s7.trans s8).free n9)
        have e1 := but2_at ((s8.trans z9) _ _ e7) m1.1 m1.2
        have e2 := but2_at (z9 _ _ e8) m2.1 m2.2
        have e3 := but2_at (ρ := ρ) (l := l) (upd_same (H := H8) (a := q3) (o := .lst [.ref q1, .ref q2])) m3.1 m3.2
        have d1 := (ks.P.pure s69).dps (dps_mono (s8.trans z9) d7) (noLs_steps _)
        have d2 := (ks.P.pure s69).dps (dps_mono z9 d8) (noLs_steps _)
        refine ⟨rfl, .inr ⟨_, rfl, ?_⟩⟩
        cases hb : decide (V.int y = V.int 8) with
        | true =>
          refine ⟨q3, _, 1, .ref q2, rfl, rfl, SqL.of (k10.BH _ _ e3), rfl, _, q2, zs2, _, rfl, k10, dp_mono s10 du, e2, d2, all_ne _, by rw [allSteps_len]; omega, fun t h => allSteps_ok h⟩
        | false =>
          refine ⟨q3, _, 0, .ref q1, rfl, rfl, SqL.of (k10.BH _ _ e3), rfl, _, q1, zs1, _, rfl, k10, dp_mono s10 du, e1, d1, open_ne _ _, ?_, fun t h => allSteps_ok (List.mem_filter.mp h).1⟩
          refine Nat.le_trans (List.length_filter_le _ _) ?_
          rw [allSteps_len]
          omega
      rintro σ H7 ⟨B7, q1, zs, ms, rfl, k7, du7, eq, dq, nms, lms, oms⟩
      -- plan.append(..)
      refine ⟨fun σ H' => ∃ (B : Hp) (y : V) (t : Stp) (v7 : Option V), σ = [some (.ref a), some (.ref ρ.r), some v, some (.ref p), some (.ref l), some u, some (.int (0 + (i : Int))), v7, none, none, none, none, none, none, none, none, none, none, none, none] ∧ KSt K C ρ l Pt p v S B H' (xs ++ [y]) (ts ++ [t]) ∧ Dp K B u st.d ∧ Dp K B y t.d ∧ StpOk S.wishes.length t, ?_, ?_⟩
      · have lz : zs.length = ms.length := (dps_len dq).trans (List.length_map ..)
        have mp : 0 < ms.length := List.length_pos_iff.mpr nms
        have eq7 := k7.BH _ _ eq
        refine ⟨_, rfl, .inl ⟨rfl, _, SqL.of k7.P.el⟩, _, rfl, _, rfl, _, rfl, q1, zs, rfl, .inl (SqL.of eq7), ρ, _, _, rfl, by omega, k7.row, fun z8 H8 y0 y1 R8 => ?_⟩
        obtain ⟨k8, s8⟩ := k7.drawn R8
        obtain ⟨y, hat, hy, _⟩ := atI_mem y0 y1
        obtain ⟨d, hd, dy⟩ := dps_of_get dq hy
        obtain ⟨t, ht, rfl⟩ := step_item hd
        have tok := oms t (List.mem_of_getElem? ht)
        refine ⟨q1, zs, z8, y, rfl, rfl, SqL.of (k8.BH _ _ (s8 _ _ eq)), hat, l, xs, y, rfl, rfl, k8.P.el, ?_, _, y, t, _, rfl, k8.app (dp_mono s8 dy) tok, dp_mono s8 du7, dp_mono s8 dy, tok⟩
        have e := dps_len k8.dx
        have e2 : (dsteps ts).length = ts.length := List.length_map ..
        exact small1000 (by omega)
      rintro σ H8 ⟨B8, y, t, v7', rfl, k8, du8, dy8, tok⟩
      -- if bar(..) is None
      have hts8 : (ts ++ [t]).length = i + 1 := by rw [List.length_append, lts]; rfl
      refine ⟨_, rfl, _, rfl, _, rfl, 1, rfl, l, _, -1, y, rfl, rfl, SqL.of k8.P.el, at_last, v, u, y, S, st, t, rfl, dp_mono k8.BH k8.dv, dp_mono k8.BH du8, dp_mono k8.BH dy8, ok, sk, tok, fun b H9 s9 d9 => ?_⟩
      have k9 := k8.pure s9
      refine ⟨rfl, _, rfl, ?_⟩
      rw [dbar_none d9]
      cases hb : bar S st t with
      | some rn => exact iteF ⟨_, u, st, _, _, _, _, rfl, k9, du8, sk, hts8⟩
      | none =>
        obtain ⟨l1, l2⟩ := sk.lens ok
        refine iteT ⟨_, rfl, _, rfl, _, rfl, 1, rfl, l, _, -1, y, rfl, rfl, SqL.of k9.P.el, at_last, v, u, y, S, st, t, rfl, dp_mono k9.BH k9.dv, dp_mono k9.BH du8, dp_mono k9.BH dy8, tok, sk.k0, sk.k3, l1, l2, fun u2 H10 s10 d10 => ?_⟩
        obtain ⟨k10, _⟩ := k9.know s10
        exact ⟨_, u2, _, _, _, _, _, rfl, k10, (k9.P.pure s10).dp d10 (noL_sta _), sk.step ok tok hb, hts8⟩
    rintro σ H6 ⟨B6, u, st, xs, ts, v6, v7, rfl, ks6, du6, sk6, lts⟩
    have l24 : ts.length ≤ 24 := by omega
    have lx : xs.length = ts.length := (dps_len ks6.dx).trans (List.length_map ..)
    have lds : (dsteps ts).length = ts.length := List.length_map ..
    have sd : ∀ d ∈ dsteps ts, StepD d := fun d hd => by
      obtain ⟨t, ht, rfl⟩ := List.mem_map.mp hd
      exact stp_stepD (by omega) (ks6.hts t ht)
    have gd : ∀ d ∈ dsteps ts, IsStp S d := fun d hd => by
      obtain ⟨t, ht, rfl⟩ := List.mem_map.mp hd
      exact ⟨t, ks6.hts t ht, rfl⟩
    -- states, word = due
    refine ⟨fun σ H' => ∃ (B : Hp) (q8 : Addr) (zs8 : List V) (wv : V) (n : Nat) (o : Option (Str × Int × Nat)), σ = [some (.ref a), some (.ref ρ.r), some v, some (.ref p), some (.ref l), some u, v6, v7, some (.ref q8), some wv, none, none, none, none, none, none, none, none, none, none] ∧ KSt K C ρ l Pt p v S B H' xs ts ∧ Dp K B u st.d ∧ B q8 = some (.lst zs8) ∧ DpAll K B zs8 (dstates (playS S (sta0 S) (ts.take n))) ∧ Dp K B wv (dword o) ∧ Goes S ts n o, ?_, ?_⟩
    · refine ⟨_, rfl, _, rfl, v, l, xs, S, ts, rfl, dp_mono ks6.BH ks6.dv, ok, SqL.of ks6.P.el, dps_mono ks6.BH ks6.dx, ks6.hts, by omega, fun p6 q8 zs8 wv n o H7 s7 hsq n7 e8 d8 dw go => ?_⟩
      obtain ⟨k7, s67⟩ := ks6.know s7
      have m := ks6.P.new n7
      have nw : noL (dword o) = true := by
        cases o with
        | none => rfl
        | some x => rfl
      exact ⟨p6, _, rfl, hsq, rfl, _, _, rfl, _, _, rfl, rfl, _, q8, zs8, wv, n, o, rfl, k7, dp_mono s67 du6, but2_at e8 m.1 m.2, (ks6.P.pure s7).dps d8 (noLs_states _), (ks6.P.pure s7).dp dw nw, go⟩
    rintro σ H7 ⟨B7, q8, zs8, wv, n, o, rfl, ks7, du7, e8, d8, dw, go⟩
    -- handed = list(plan)
    refine ⟨fun σ H' => ∃ (B : Hp) (h0 : Addr), σ = [some (.ref a), some (.ref ρ.r), some v, some (.ref p), some (.ref l), some u, v6, v7, some (.ref q8), some wv, some (.ref h0), none, none, none, none, none, none, none, none, none] ∧ KSt K C ρ l Pt p v S B H' xs ts ∧ Same B7 B ∧ B h0 = some (.lst xs), ?_, ?_⟩
    · refine ⟨_, rfl, l, xs, rfl, .inl (SqL.of ks7.P.el), fun h0 nh => ?_⟩
      obtain ⟨k8, s8⟩ := ks7.know (same_new (o := .lst xs) nh)
      have m := ks7.P.new nh
      exact ⟨_, h0, rfl, k8, s8, but2_at upd_same m.1 m.2⟩
    rintro σ H8 ⟨B8', h0, rfl, ks8, s78, eh8⟩
    -- what is known from here on
    have tab8 : LamX.TabS H8 Pt ("law" ++ ".<locals>." ++ "<lambda>") := LamX.TabS.nil (ks8.BH _ _ ks8.tab)
    obtain ⟨B9, eB⟩ : ∃ B9, B9 = noT B8' := ⟨_, rfl⟩
    have M8 : MSt K ρ l Pt ("law" ++ ".<locals>." ++ "<lambda>") B9 H8 xs := by
      rw [eB]
      exact ⟨⟨ks8.P.R.less same_noT (sql_noT ks8.P.R.scr), noT_none ks8.P.bl, ks8.P.el, ks8.P.nr⟩, tab8, fun b ps => noT_not⟩
    have dv : Dp K B9 v S.d := by rw [eB]; exact dp_noT ks8.dv
    have ob : Ob K C B9 p S := by rw [eB]; exact ob_noT ks8.ob
    have dx : DpAll K B9 xs (dsteps ts) := by rw [eB]; exact dps_noT ks8.dx
    have du : Dp K B9 u st.d := by rw [eB]; exact dp_noT (dp_mono s78 du7)
    have e8 : B9 q8 = some (.lst zs8) := by rw [eB]; exact noT_at (s78 _ _ e8) (fun ps z => by cases z)
    have d8 : DpAll K B9 zs8 (dstates (playS S (sta0 S) (ts.take n))) := by rw [eB]; exact dps_noT (dps_mono s78 d8)
    have dw : Dp K B9 wv (dword o) := by rw [eB]; exact dp_noT (dp_mono s78 dw)
    have eh : B9 h0 = some (.lst xs) := by rw [eB]; exact noT_at eh8 (fun ps z => by cases z)
    have hts := ks8.hts
    have nle := go.le
    have lz8 : zs8.length = n + 1 := by
      rw [dps_len d8]
      unfold dstates
      rw [List.length_map, playS_len, List.length_take]
      omega
    clear eB ks8 eh8 s78 ks7 ks6 ks4 du7 du6 du4 tab8
    -- if word(lambda: played(told, handed)) != word_here or handed != plan
    refine ⟨fun σ H' => σ = [some (.ref a), some (.ref ρ.r), some v, some (.ref p), some (.ref l), some u, v6, v7, some (.ref q8), some wv, some (.ref h0), none, none, none, none, none, none, none, none, none] ∧ MSt K ρ l Pt ("law" ++ ".<locals>." ++ "<lambda>") B9 H' xs, ?_, ?_⟩
    · refine ⟨M8.tabs, fun f9 c9 H9 x9 t9 n9 hf9 hc9 => ?_⟩
      have M9 := M8.ext x9 t9
      refine ⟨f9, _, _, ["_law_told", "_law_handed"], _, _, rfl, hf9, hc9, fun pins z I => NdefX.cells_of I (NdefX.Caps.made (fr := ["_law_told", "_law_handed"]) (js := [3, 10]) I.ok (NdefX.ndef_free (sc := defScope s_law) (fr := ["_law_told", "_law_handed"]) (by decide +kernel)) (NdefX.ndef_fr (sc := defScope s_law) (by decide +kernel)) rfl), lok_call (N := ["_law_told", "_law_handed"]) C_played rfl (NdefX.nscope_by (sc := lsc1) (by decide +kernel)) rfl (fun _ _ => rfl) (fun A outer s H E hr => pa_cons (pe_var (i := 0) rfl (.inr (.inr rfl))) (pa_cons (pe_var (i := 1) rfl (.inr (.inr rfl))) pa_nil)), ?_⟩
      have BH9 := M9.BH
      have slay := (steps_lays ts).lst
      refine ⟨_, rfl, _, rfl, p, h0, xs, S, dsteps ts, rfl, ob.mono BH9, ok, SqL.of (BH9 _ _ eh), dps_mono BH9 dx, sd, by omega, fun ⟨d, hd, hn⟩ => absurd (gd d hd) hn, fun ts' e _ => ?_⟩
      obtain rfl := dsteps_inj e
      refine ⟨fun op q9 zs9 H10 s10 _ _ _ => ?_, fun i t rr kk ht op hb d H10 s10 nd ed => .inr ⟨rfl, d, .str rr, .int kk, .int (i : Int), rfl, ed, fun p10 H11 s11 hsq => ?_⟩⟩
      · have eo := go.all op
        subst eo
        refine ⟨_, rfl, dword none, dword none, .non, dp_mono (BH9.trans s10) dw, go.lay.shaped, go.lay.shaped, _, rfl, itnB go.lay.refl ?_⟩
        exact ⟨_, rfl, _, rfl, _, _, .lst (SqL.of ((BH9.trans s10) _ _ eh)) (dps_mono (BH9.trans s10) dx), .lst (SqL.of (s10 _ _ M9.P.el)) (dps_mono (BH9.trans s10) dx), slay.shaped, slay.shaped, _, rfl, itnB slay.refl ⟨rfl, M9.pure s10⟩⟩
      · have eo := go.only ht op hb
        subst eo
        have s9 := s10.trans s11
        refine ⟨_, rfl, dword (some (rr, kk, i)), dword (some (rr, kk, i)), .tup hsq (.cons (.str _) (.cons (.int _) (.cons (.int _) .nil))), dp_mono (BH9.trans s9) dw, go.lay.shaped, go.lay.shaped, _, rfl, itnB go.lay.refl ?_⟩
        exact ⟨_, rfl, _, rfl, _, _, .lst (SqL.of ((BH9.trans s9) _ _ eh)) (dps_mono (BH9.trans s9) dx), .lst (SqL.of (s9 _ _ M9.P.el)) (dps_mono (BH9.trans s9) dx), slay.shaped, slay.shaped, _, rfl, itnB slay.refl ⟨rfl, M9.pure s9⟩⟩
    rintro σ H9 ⟨rfl, M9⟩
    -- good = plan[:len(states) - 1]
    refine ⟨fun σ H' => ∃ g : Addr, σ = [some (.ref a), some (.ref ρ.r), some v, some (.ref p), some (.ref l), some u, v6, v7, some (.ref q8), some wv, some (.ref h0), some (.ref g), none, none, none, none, none, none, none, none] ∧ MSt K ρ l Pt ("law" ++ ".<locals>." ++ "<lambda>") B9 H' xs ∧ H' g = some (.lst (xs.take n)) ∧ B9 g = none ∧ g ≠ ρ.r ∧ g ≠ l, ?_, ?_⟩
    · refine ⟨_, rfl, _, rfl, q8, zs8, rfl, .inl (SqL.of (M9.BH _ _ e8)), _, _, rfl, rfl, (zs8.length : Int) - 1, rfl, l, xs, rfl, SqL.of M9.P.el, fun g ng => ?_⟩
      have ec : cutV xs none (some ((zs8.length : Int) - 1)) = xs.take n := by
        rw [show ((zs8.length : Int) - 1) = ((n : Nat) : Int) by omega]
        exact cut_t xs n
      rw [ec]
      have m := M9.P.new ng
      exact ⟨g, rfl, M9.pure (same_new ng), upd_same, M9.BH.free ng, m.1, m.2⟩
    rintro σ H10 ⟨g, rfl, M10, eg, bg, gr, gl⟩
    have dxn : ∀ G, Same B9 G → DpAll K G (xs.take n) (dsteps (ts.take n)) := fun G s => by
      have e : dsteps (ts.take n) = (dsteps ts).take n := List.map_take ..
      rw [e]
      exact dps_mono s (dps_take dx n)
    have hsn : ∀ t ∈ ts.take n, StpOk S.wishes.length t := fun t h => hts t (List.mem_of_mem_take h)
    have ltn : (ts.take n).length ≤ 50 := by rw [List.length_take]; omega
    have ldn : (dsteps (ts.take n)).length ≤ 50 := by unfold dsteps; rw [List.length_map]; exact ltn
    have sdn : ∀ d ∈ dsteps (ts.take n), StepD d := fun d hd => by
      obtain ⟨t, ht, rfl⟩ := List.mem_map.mp hd
      exact stp_stepD (by omega) (hsn t ht)
    have gdn : ¬ ∃ d ∈ dsteps (ts.take n), ¬ IsStp S d := fun ⟨d, hd, hn⟩ => by
      obtain ⟨t, ht, rfl⟩ := List.mem_map.mp hd
      exact hn ⟨t, hsn t ht, rfl⟩
    have opn := go.open_
    -- found = played(told, good)
    refine ⟨fun σ H' => ∃ (f0 : Addr) (zf : List V), σ = [some (.ref a), some (.ref ρ.r), some v, some (.ref p), some (.ref l), some u, v6, v7, some (.ref q8), some wv, some (.ref h0), some (.ref g), some (.ref f0), none, none, none, none, none, none, none] ∧ MSt K ρ l Pt ("law" ++ ".<locals>." ++ "<lambda>") B9 H' xs ∧ H' g = some (.lst (xs.take n)) ∧ H' f0 = some (.lst zf) ∧ DpAll K H' zf (dstates (playS S (sta0 S) (ts.take n))) ∧ B9 f0 = none ∧ f0 ≠ ρ.r ∧ f0 ≠ l ∧ f0 ≠ g, ?_, ?_⟩
    · refine ⟨_, rfl, _, rfl, p, g, xs.take n, S, dsteps (ts.take n), rfl, ob.mono M10.BH, ok, SqL.of eg, dxn _ M10.BH, sdn, ldn, fun z => absurd z gdn, fun ts' e _ => ?_⟩
      obtain rfl := dsteps_inj e
      refine ⟨fun _ f0 zf H11 s11 n11 e11 d11 => ?_, fun i t rr kk ht _ hb => ?_⟩
      · have m := M10.P.new n11
        exact ⟨f0, zf, rfl, M10.pure s11, s11 _ _ eg, e11, d11, M10.BH.free n11, m.1, m.2, fun z => by rw [z, eg] at n11; cases n11⟩
      · have z := opn.at ht
        rw [hb] at z
        cases z
    rintro σ H11 ⟨f0, zf, rfl, M11, eg, ef, df, bf, fr, fl, fg⟩
    have lls := (states_lays (playS S (sta0 S) (ts.take n))).lst
    -- if found != states or shifts(told, plan) != ..
    refine ⟨fun σ H' => σ = [some (.ref a), some (.ref ρ.r), some v, some (.ref p), some (.ref l), some u, v6, v7, some (.ref q8), some wv, some (.ref h0), some (.ref g), some (.ref f0), none, none, none, none, none, none, none] ∧ Same H11 H', ?_, ?_⟩
    · refine ⟨_, rfl, _, rfl, _, _, .lst (SqL.of ef) df, .lst (SqL.of (M11.BH _ _ e8)) (dps_mono M11.BH d8), lls.shaped, lls.shaped, _, rfl, itnB lls.refl ?_⟩
      refine ⟨_, rfl, _, rfl, p, l, xs, S, dsteps ts, rfl, ob.mono M11.BH, ok, SqL.of M11.P.el, dps_mono M11.BH dx, sd, by omega, fun ts' e _ H12 s12 => ?_, fun ⟨d, hd, hn⟩ => absurd (gd d hd) hn⟩
      obtain rfl := dsteps_inj e
      have B12 := M11.BH.trans s12
      have el12 := s12 _ _ M11.P.el
      refine ⟨_, rfl, l, rfl, ⟨_, SqL.of el12⟩, fun D nD => ?_⟩
      refine lc_list (K := K) (a := l) (xs := xs) (fun i H' => ∃ B us, Acq K H12 B H' D us (dsteps ((ts.take i).filter isShift))) ⟨H12, [], ?_⟩ (fun i H' _ ⟨B, us, A⟩ => SqL.of ((A.s.trans A.R) _ _ el12)) ?_ ?_
      · rw [List.take_zero]
        exact Acq.start (Same.refl _) (Same.refl _) nD
      · rintro i y H3 hy ⟨B, us, A⟩
        obtain ⟨d, hd, dy⟩ := dps_of_get dx hy
        obtain ⟨t, ht, rfl⟩ := step_item hd
        have s3 := A.s.trans A.R
        obtain ⟨a1, r1, rfl, ha⟩ := word_at (dp_mono (B12.trans s3) dy)
        refine ⟨rfl, _, rfl, a1, _, 0, .str (wordOf t), rfl, rfl, ha, at_of (j := 0) rfl rfl, rfl, _, rfl, ?_⟩
        rw [word_shift]
        have ef := filter_snoc (p := isShift) ht
        cases hb : isShift t with
        | true =>
          rw [hb, if_pos rfl] at ef
          refine iteT ⟨_, rfl, us, A.el, ?_, ?_⟩
          · have e := dps_len A.dx
            have e2 : (dsteps ((ts.take i).filter isShift)).length ≤ ts.length := by
              unfold dsteps
              rw [List.length_map]
              refine Nat.le_trans (List.length_filter_le _ _) ?_
              rw [List.length_take]
              omega
            exact small1000 (by omega)
          · refine ⟨del1 H3 D, us ++ [.ref a1], ?_⟩
            have hs : Same H12 (del1 H3 D) := same_del s3 nD
            have A5 := (A.pure (Same.refl _)).app (d := t.d) (dp_mono (B12.trans hs) dy)
            rw [ef]
            have e : dsteps ((ts.take i).filter isShift ++ [t]) = dsteps ((ts.take i).filter isShift) ++ [t.d] := List.map_append ..
            rw [e]
            exact A5
        | false =>
          rw [hb, if_neg Bool.false_ne_true, List.append_nil] at ef
          refine iteF ⟨B, us, ?_⟩
          rw [ef]
          exact A
      · rintro H3 ⟨B, us, A⟩
        obtain ⟨s3, _, dus⟩ := A.all
        rw [lx, List.take_length] at dus
        have e : (us.length : Int) = ((ts.filter isShift).length : Int) := by
          rw [dps_len dus]
          unfold dsteps
          rw [List.length_map]
        refine ⟨D, us, rfl, .inl (SqL.of A.el), rfl, _, rfl, iteNS (by rw [e]) ⟨rfl, s12.trans s3⟩⟩
    rintro σ H12 ⟨rfl, s12⟩
    have M12 := M11.pure s12
    have eg := s12 _ _ eg
    have ef := s12 _ _ ef
    generalize hsts : playS S (sta0 S) (ts.take n) = sts at d8 df lls
    have lst8 : zs8.length = sts.length := (dps_len d8).trans (List.length_map ..)
    -- ends
    refine ⟨fun σ H' => ∃ d0 : Addr, σ = [some (.ref a), some (.ref ρ.r), some v, some (.ref p), some (.ref l), some u, v6, v7, some (.ref q8), some wv, some (.ref h0), some (.ref g), some (.ref f0), some (.ref d0), none, none, none, none, none, none] ∧ Same H12 H' ∧ H' d0 = some (.lst ((sts.map (endB S)).map V.bl)), ?_, ?_⟩
    · refine ⟨_, rfl, q8, rfl, ⟨_, SqL.of (M12.BH _ _ e8)⟩, fun D nD => ?_⟩
      refine lc_list (K := K) (a := q8) (xs := zs8) (fun j H' => Same H12 H' ∧ H' D = some (.lst (((sts.take j).map (endB S)).map V.bl))) ⟨same_new nD, ?_⟩ (fun j H' _ h => SqL.of (h.1 _ _ (M12.BH _ _ e8))) ?_ ?_
      · rw [List.take_zero]
        exact upd_same
      · rintro j y H' hj ⟨s1, eD⟩
        obtain ⟨d, hd, dy⟩ := dps_of_get d8 hj
        obtain ⟨s, hs, rfl⟩ := state_item hd
        have B' := M12.BH.trans s1
        refine ⟨rfl, _, rfl, _, rfl, p, y, S, s, rfl, ob.mono B', dp_mono B' dy, fun H4 s4 => ⟨_, s4 _ _ eD, ?_, ?_, ?_⟩⟩
        · rw [List.length_map, List.length_map, List.length_take]
          exact small1000 (by omega)
        · intro b o h
          rw [upd_ne (ne_of_none h nD)]
          exact s4 _ _ (s1 _ _ h)
        · rw [upd_same, take_snoc hs, List.map_append, List.map_append]
          rfl
      · rintro H' ⟨s1, eD⟩
        rw [lst8, List.take_length] at eD
        exact ⟨D, rfl, s1, eD⟩
    rintro σ H13 ⟨d0, rfl, s13, ed⟩
    have M13 := M12.pure s13
    have bl8 := bools_lay (sts.map (endB S))
    obtain ⟨a0, l0, m0, xs0, ys0, ev, so⟩ := sto_at dv
    -- if ends != ..
    refine ⟨fun σ H' => σ = [some (.ref a), some (.ref ρ.r), some v, some (.ref p), some (.ref l), some u, v6, v7, some (.ref q8), some wv, some (.ref h0), some (.ref g), some (.ref f0), some (.ref d0), none, none, none, none, none, none] ∧ Same H13 H', ?_, ?_⟩
    · refine ⟨_, rfl, _, rfl, q8, rfl, ⟨_, SqL.of (M13.BH _ _ e8)⟩, fun D nD => ?_⟩
      refine lc_list (K := K) (a := q8) (xs := zs8) (fun j H' => Same H13 H' ∧ H' D = some (.lst (((sts.take j).map (endB S)).map V.bl))) ⟨same_new nD, ?_⟩ (fun j H' _ h => SqL.of (h.1 _ _ (M13.BH _ _ e8))) ?_ ?_
      · rw [List.take_zero]
        exact upd_same
      · rintro j y H' hj ⟨s1, eD⟩
        obtain ⟨d, hd, dy⟩ := dps_of_get d8 hj
        obtain ⟨s, hs, rfl⟩ := state_item hd
        have B' := M13.BH.trans s1
        have app : ∀ H4, Same H' H4 → ∃ acc, H4 D = some (.lst acc) ∧ acc.length < sizeLine ∧ Same H13 (upd H4 D (.lst (acc ++ [.bl (endB S s)]))) ∧ upd H4 D (.lst (acc ++ [.bl (endB S s)])) D = some (.lst (((sts.take (j + 1)).map (endB S)).map V.bl)) := fun H4 s4 => by
          refine ⟨_, s4 _ _ eD, ?_, ?_, ?_⟩
          · rw [List.length_map, List.length_map, List.length_take]
            exact small1000 (by omega)
          · intro b o h
            rw [upd_ne (ne_of_none h nD)]
            exact s4 _ _ (s1 _ _ h)
          · rw [upd_same, take_snoc hs, List.map_append, List.map_append]
            rfl
        obtain ⟨sa, d1, i1, rfl, hsa, hd1, hi1⟩ := sta_at (dp_mono B' dy)
        have so' := so.mono B'
        refine ⟨rfl, _, rfl, sa, _, 1, .ref d1, rfl, rfl, hsa, rfl, d1, _, rfl, .inr hd1, _, rfl, a0, _, 2, .ref m0, ev, rfl, so'.t, rfl, m0, ys0, rfl, .inl so'.m, rfl, _, rfl, ?_⟩
        by_cases e : s.done.length = S.wishes.length
        · refine itD (by rw [List.length_map, e, so.ly]) ⟨_, rfl, sa, _, 2, .ref i1, rfl, rfl, hsa, rfl, small (by simp), fun p0 np => ⟨.tuple (dints s.inside), .tuple [], .tup (Same.t (same_new np) hi1) (ints_dps _), .tup tup_new .nil, ((lays_ints (n := 1) _).tup).shaped, lay_nilT.shaped, ?_⟩⟩
          have e2 : PyData.eqv (.tuple (dints s.inside)) (.tuple []) = endB S s := by
            rw [eqv_nilT]
            unfold endB
            rw [decide_eq_true e, Bool.true_and]
            cases s.inside <;> rfl
          have z := app _ (same_new (o := .tup []) np)
          rw [← e2] at z
          exact z
        · refine itF (ine (by rw [List.length_map, so.ly]; omega)) ?_
          have z := app _ (Same.refl _)
          have e2 : endB S s = false := by
            unfold endB
            rw [decide_eq_false e, Bool.false_and]
          rw [e2] at z
          exact z
      · rintro H' ⟨s1, eD⟩
        rw [lst8, List.take_length] at eD
        exact ⟨_, _, .lst (SqL.of (s1 _ _ ed)) (dps_bools _), .lst (SqL.of eD) (dps_bools _), bl8.shaped, bl8.shaped, _, rfl, itnB bl8.refl ⟨rfl, s1⟩⟩
    rintro σ H14 ⟨rfl, s14⟩
    have M14 := M13.pure s14
    have eg := s14 _ _ (s13 _ _ eg)
    have ef := s14 _ _ (s13 _ _ ef)
    -- found.append(0)
    refine ⟨fun σ H' => σ = [some (.ref a), some (.ref ρ.r), some v, some (.ref p), some (.ref l), some u, v6, v7, some (.ref q8), some wv, some (.ref h0), some (.ref g), some (.ref f0), some (.ref d0), none, none, none, none, none, none] ∧ MSt K ρ l Pt ("law" ++ ".<locals>." ++ "<lambda>") B9 H' xs ∧ H' g = some (.lst (xs.take n)), ?_, ?_⟩
    · refine ⟨_, rfl, .inl ⟨rfl, _, SqL.of ef⟩, f0, zf, _, rfl, rfl, ef, ?_, rfl, M14.put ef bf (Ne.symm fr) (Ne.symm fl), ?_⟩
      · rw [dps_len df]
        unfold dstates
        rw [List.length_map]
        exact small1000 (by omega)
      · rw [upd_ne (Ne.symm fg)]
        exact eg
    rintro σ H15 ⟨rfl, M15, eg⟩
    -- bad
    refine ⟨fun σ H' => ∃ (vb : V) (d : PyData), σ = [some (.ref a), some (.ref ρ.r), some v, some (.ref p), some (.ref l), some u, v6, v7, some (.ref q8), some wv, some (.ref h0), some (.ref g), some (.ref f0), some (.ref d0), some vb, none, none, none, none, none] ∧ MSt K ρ l Pt ("law" ++ ".<locals>." ++ "<lambda>") B9 H' xs ∧ H' g = some (.lst (xs.take n)) ∧ Dp K H' vb d ∧ StepD d ∧ ¬ IsStp S d ∧ noL d = true, ?_, ?_⟩
    · obtain ⟨R1, s1⟩ := row_all M15.P.R (Same.refl _)
      refine ⟨_, rfl, _, rfl, ρ, v, S, _, rfl, R1, dp_mono s1 dv, ok, fun vb B16 H16 d s16 R16 dvb hd hn hl => ⟨vb, d, rfl, M15.drawn R16 s16, ?_, dp_mono R16.same dvb, hd, hn, hl⟩⟩
      exact (s16.trans R16.same) _ _ (by rw [del1_ne gr]; exact eg)
    rintro σ H16 ⟨vb, d, rfl, M16, eg, dvb, hd, hn, hnl⟩
    -- at
    refine ⟨fun σ H' => ∃ k : Nat, k ≤ ts.length ∧ σ = [some (.ref a), some (.ref ρ.r), some v, some (.ref p), some (.ref l), some u, v6, v7, some (.ref q8), some wv, some (.ref h0), some (.ref g), some (.ref f0), some (.ref d0), some vb, some (.int (k : Int)), none, none, none, none] ∧ MSt K ρ l Pt ("law" ++ ".<locals>." ++ "<lambda>") B9 H' xs ∧ H' g = some (.lst (xs.take n)) ∧ Dp K H' vb d, ?_, ?_⟩
    · obtain ⟨R1, s1⟩ := row_all M16.P.R (Same.refl _)
      obtain ⟨_, _, erow, _⟩ := M16.P.R.row
      refine ⟨_, rfl, _, rfl, l, xs, rfl, .inl (SqL.of M16.P.el), _, _, rfl, rfl, ρ, _, _, rfl, by omega, R1, fun y H17 y0 y1 R17 => ⟨y.toNat, by omega, ?_, M16.drawn R17 (Same.refl _), R17.same _ _ (by rw [del1_ne gr]; exact eg), dp_mono R17.same (dp_del erow dvb hnl)⟩⟩
      rw [Int.toNat_of_nonneg y0]
      rfl
    rintro σ H17 ⟨k, hk, rfl, M17, eg, dvb⟩
    have sdk : ∀ e ∈ dsteps (ts.take k) ++ [d] ++ dsteps (ts.drop k), StepD e := fun e he => by
      rcases List.mem_append.mp he with he | he
      · rcases List.mem_append.mp he with he | he
        · obtain ⟨t, ht, rfl⟩ := List.mem_map.mp he
          exact stp_stepD (by omega) (hts t (List.mem_of_mem_take ht))
        · rw [List.mem_singleton] at he
          rw [he]
          exact hd
      · obtain ⟨t, ht, rfl⟩ := List.mem_map.mp he
        exact stp_stepD (by omega) (hts t (List.mem_of_mem_drop ht))
    have dmem : d ∈ dsteps (ts.take k) ++ [d] ++ dsteps (ts.drop k) := List.mem_append_left _ (List.mem_append_right _ List.mem_cons_self)
    have nod : ∀ ts', dsteps (ts.take k) ++ [d] ++ dsteps (ts.drop k) = dsteps ts' → ¬ ∀ t ∈ ts', StpOk S.wishes.length t := fun ts' e h => by
      rw [e] at dmem
      obtain ⟨t, ht, e2⟩ := List.mem_map.mp dmem
      exact hn ⟨t, h t ht, e2.symm⟩
    have lk1 : (dsteps (ts.take k) ++ [d] ++ dsteps (ts.drop k)).length ≤ 50 := by
      unfold dsteps
      simp only [List.length_append, List.length_map, List.length_take, List.length_drop, List.length_cons, List.length_nil]
      omega
    have tk : dsteps (ts.take k) = (dsteps ts).take k := List.map_take ..
    have dk : dsteps (ts.drop k) = (dsteps ts).drop k := List.map_drop ..
    have lds2 : (dsteps ts).length ≤ 24 := by omega
    -- the plan with it, as played and shifts are handed it
    have spliced : ∀ (G : Hp) (Q0 : List V → Hp → Prop), Same B9 G → G l = some (.lst xs) → Dp K G vb d → (∀ l5 x5 G5, Same G G5 → G5 l5 = some (.lst x5) → DpAll K G5 x5 (dsteps (ts.take k) ++ [d] ++ dsteps (ts.drop k)) → Q0 [.ref p, .ref l5] G5) →
        tCons (tVar 0) (tCons (tOp rCat (tOp rCat (tSl (rSlL K) (tVar 1) tNoPart (tPart (tVar 2))) (tLst (tCons (tVar 3) tNil))) (tSl (rSlL K) (tVar 1) (tPart (tVar 2)) tNoPart)) tNil) [some (.ref p), some (.ref l), some (.int (k : Int)), some vb] G Q0 := by
      intro G Q0 sG el dG fin
      refine ⟨_, rfl, EvL.cons (K := K) (H := G) (ds := dsteps (ts.take k) ++ [d] ++ dsteps (ts.drop k)) ?_ (Same.refl _) fun l5 x5 G5 s5 _ e5 d5 => fin l5 x5 G5 s5 e5 d5⟩
      rw [tk, dk]
      refine evl_cat (EvL.r (evl_cat (EvL.r (evl_to (j := k) rfl (SqL.of el) (dps_mono sG dx) (ev_varI rfl))) (EvL.r (evl_lst (evs_cons (ev_var rfl dG) evs_nil) (show 1 ≤ 1000 by decide))) ?_)) (EvL.r (evl_from (i := k) rfl (SqL.of el) (dps_mono sG dx) (ev_varI rfl))) ?_
      · rw [List.length_take]
        simp only [List.length_cons, List.length_nil]
        omega
      · simp only [List.length_append, List.length_take, List.length_drop, List.length_cons, List.length_nil]
        omega
    -- works = [lambda: played(..)]
    refine ⟨fun σ H' => ∃ w1 f1 : Addr, σ = [some (.ref a), some (.ref ρ.r), some v, some (.ref p), some (.ref l), some u, v6, v7, some (.ref q8), some wv, some (.ref h0), some (.ref g), some (.ref f0), some (.ref d0), some vb, some (.int (k : Int)), some (.ref w1), none, none, none] ∧ MSt K ρ l Pt ("law" ++ ".<locals>." ++ "<lambda>") B9 H' xs ∧ H' g = some (.lst (xs.take n)) ∧ Dp K H' vb d ∧ H' w1 = some (.lst [.ref f1]) ∧ B9 w1 = none ∧ w1 ≠ ρ.r ∧ w1 ≠ l ∧ w1 ≠ g ∧
        WK (cxOf CX0 P w K mg base N_law "law" (defScope s_law) f (.ref cL) A outer s H E).nox cS cR B9 p l u vb k xs d H' f1, ?_, ?_⟩
    · refine ⟨M17.tabs, fun f18 c18 H18 x18 t18 n18 hf18 hc18 => ⟨small (by simp), fun w1 nw => ?_⟩⟩
      have M18 := M17.ext x18 t18
      have zw := same_new (o := .lst [.ref f18]) nw
      have m := M18.P.new nw
      have eg18 := x18 _ _ eg (fun ps z => by cases z)
      refine ⟨w1, f18, rfl, M18.pure zw, zw _ _ eg18, dp_mono ((same_ext x18).trans zw) (dp_noT dvb), upd_same, M18.BH.free nw, m.1, m.2, fun z => (by rw [z, eg18] at nw; cases nw), ?_⟩
      refine ⟨_, _, ["_law_told", "_law_plan", "_law_at", "_law_bad"], [3, 4, 15, 14], _, zw _ _ hf18, zw _ _ hc18, fun ok => NdefX.Caps.made (fr := ["_law_told", "_law_plan", "_law_at", "_law_bad"]) (js := [3, 4, 15, 14]) ok (NdefX.ndef_free (sc := defScope s_law) (fr := ["_law_told", "_law_plan", "_law_at", "_law_bad"]) (by decide +kernel)) (NdefX.ndef_fr (sc := defScope s_law) (by decide +kernel)) rfl,
        lok_call (N := ["_law_told", "_law_plan", "_law_at", "_law_bad"]) C_played rfl (NdefX.nscope_by (sc := lsc2 "played") (by decide +kernel)) rfl (fun _ _ => rfl) (fun A outer s H E hr => pa_cons (pe_var (i := 0) rfl (.inr (.inr rfl))) (pa_cons (by exact (pe_op op_cat (pe_op op_cat (pe_slice (ksl_list (K := K)) (pe_var (i := 1) rfl (.inr (.inr rfl))) po_none (po_some (pe_var (i := 2) rfl (.inr (.inr rfl))))) (pe_lst (pa_cons (pe_var (i := 3) rfl (.inr (.inr rfl))) pa_nil))) (pe_slice (ksl_list (K := K)) (pe_var (i := 1) rfl (.inr (.inr rfl))) (po_some (pe_var (i := 2) rfl (.inr (.inr rfl)))) po_none))) pa_nil)), fun τ G R t3 t4 t5 t14 t15 sG el dG fin => ?_⟩
      have ews : List.map (NdefX.slotAt τ) [3, 4, 15, 14] = [some (.ref p), some (.ref l), some (.int (k : Int)), some vb] := by
        show [NdefX.slotAt τ 3, NdefX.slotAt τ 4, NdefX.slotAt τ 15, NdefX.slotAt τ 14] = _
        rw [NdefX.slotAt_of t3, NdefX.slotAt_of t4, NdefX.slotAt_of t14, NdefX.slotAt_of t15]
      rw [ews]
      refine spliced G (fun vs H1 => spPlayedS K C cS cR (vs ++ []) H1 (fun _ H' => R .non H') (wordE K cS cR R)) sG el dG fun l5 x5 G5 s5 e5 d5 => ?_
      exact ⟨p, l5, x5, S, _, rfl, ob.mono (sG.trans s5), ok, SqL.of e5, d5, sdk, lk1, fun _ G6 s6 => .inl ⟨rfl, rfl, fun G7 s7 => fin G7 ((s5.trans s6).trans s7)⟩, fun ts' e hts' => absurd hts' (nod ts' e)⟩
    rintro σ H18 ⟨w1, f1, rfl, M18, eg, dvb, ew, bw, wr, wl, wg, K1⟩
    -- works.append(lambda: shifts(..))
    refine ⟨fun σ H' => ∃ f2 : Addr, σ = [some (.ref a), some (.ref ρ.r), some v, some (.ref p), some (.ref l), some u, v6, v7, some (.ref q8), some wv, some (.ref h0), some (.ref g), some (.ref f0), some (.ref d0), some vb, some (.int (k : Int)), some (.ref w1), none, none, none] ∧ MSt K ρ l Pt ("law" ++ ".<locals>." ++ "<lambda>") B9 H' xs ∧ H' g = some (.lst (xs.take n)) ∧ Dp K H' vb d ∧ H' w1 = some (.lst [.ref f1, .ref f2]) ∧
        WK (cxOf CX0 P w K mg base N_law "law" (defScope s_law) f (.ref cL) A outer s H E).nox cS cR B9 p l u vb k xs d H' f1 ∧ WK (cxOf CX0 P w K mg base N_law "law" (defScope s_law) f (.ref cL) A outer s H E).nox cS cR B9 p l u vb k xs d H' f2, ?_, ?_⟩
    · refine ⟨_, rfl, .inl ⟨rfl, _, SqL.of ew⟩, M18.tabs, fun f2 c2 H19 x19 t19 n19 hf2 hc2 => ?_⟩
      have M19 := M18.ext x19 t19
      have ew19 := x19 _ _ ew (fun ps z => by cases z)
      have dvb19 := dp_mono (same_ext x19) (dp_noT dvb)
      obtain ⟨_, _, erow, _⟩ := M19.P.R.row
      refine ⟨w1, [.ref f1], _, rfl, rfl, ew19, by simp; decide, f2, rfl, M19.put ew19 bw (Ne.symm wr) (Ne.symm wl), ?_, dp_mono (same_put ew19) (dp_del ew19 dvb19 hnl), upd_same, (K1.stay (stay_ext x19)).stay (stay_put ew19), ?_⟩
      · rw [upd_ne (Ne.symm wg)]
        exact x19 _ _ eg (fun ps z => by cases z)
      refine WK.stay ?_ (stay_put ew19)
      refine ⟨_, _, ["_law_told", "_law_plan", "_law_at", "_law_bad"], [3, 4, 15, 14], _, hf2, hc2, fun ok => NdefX.Caps.made (fr := ["_law_told", "_law_plan", "_law_at", "_law_bad"]) (js := [3, 4, 15, 14]) ok (NdefX.ndef_free (sc := defScope s_law) (fr := ["_law_told", "_law_plan", "_law_at", "_law_bad"]) (by decide +kernel)) (NdefX.ndef_fr (sc := defScope s_law) (by decide +kernel)) rfl,
        LOk.mono (lok_call (N := ["_law_told", "_law_plan", "_law_at", "_law_bad"]) C_shifts rfl (NdefX.nscope_by (sc := lsc2 "shifts") (by decide +kernel)) rfl (fun _ _ => rfl) (fun A outer s H E hr => pa_cons (pe_var (i := 0) rfl (.inr (.inr rfl))) (pa_cons (by exact (pe_op op_cat (pe_op op_cat (pe_slice (ksl_list (K := K)) (pe_var (i := 1) rfl (.inr (.inr rfl))) po_none (po_some (pe_var (i := 2) rfl (.inr (.inr rfl))))) (pe_lst (pa_cons (pe_var (i := 3) rfl (.inr (.inr rfl))) pa_nil))) (pe_slice (ksl_list (K := K)) (pe_var (i := 1) rfl (.inr (.inr rfl))) (po_some (pe_var (i := 2) rfl (.inr (.inr rfl)))) po_none))) pa_nil))) (by decide), fun τ G R t3 t4 t5 t14 t15 sG el dG fin => ?_⟩
      have ews : List.map (NdefX.slotAt τ) [3, 4, 15, 14] = [some (.ref p), some (.ref l), some (.int (k : Int)), some vb] := by
        show [NdefX.slotAt τ 3, NdefX.slotAt τ 4, NdefX.slotAt τ 15, NdefX.slotAt τ 14] = _
        rw [NdefX.slotAt_of t3, NdefX.slotAt_of t4, NdefX.slotAt_of t14, NdefX.slotAt_of t15]
      rw [ews]
      refine spliced G (fun vs H1 => spShiftsS K C cS (vs ++ []) H1 (fun _ H' => R .non H') (wordE K cS cR R)) sG el dG fun l5 x5 G5 s5 e5 d5 => ?_
      exact ⟨p, l5, x5, S, _, rfl, ob.mono (sG.trans s5), ok, SqL.of e5, d5, sdk, by omega, fun ts' e hts' => absurd hts' (nod ts' e), fun _ G6 s6 => .inl ⟨rfl, rfl, fun G7 s7 => fin G7 ((s5.trans s6).trans s7)⟩⟩
    rintro σ H19 ⟨f2, rfl, M19, eg, dvb, ew, K1, K2⟩
    -- works.append(lambda: barred(..))
    refine ⟨fun σ H' => ∃ f3 : Addr, σ = [some (.ref a), some (.ref ρ.r), some v, some (.ref p), some (.ref l), some u, v6, v7, some (.ref q8), some wv, some (.ref h0), some (.ref g), some (.ref f0), some (.ref d0), some vb, some (.int (k : Int)), some (.ref w1), none, none, none] ∧ MSt K ρ l Pt ("law" ++ ".<locals>." ++ "<lambda>") B9 H' xs ∧ H' g = some (.lst (xs.take n)) ∧ Dp K H' vb d ∧ H' w1 = some (.lst [.ref f1, .ref f2, .ref f3]) ∧
        ∀ y ∈ [f1, f2, f3], WK (cxOf CX0 P w K mg base N_law "law" (defScope s_law) f (.ref cL) A outer s H E).nox cS cR B9 p l u vb k xs d H' y, ?_, ?_⟩
    · refine ⟨_, rfl, .inl ⟨rfl, _, SqL.of ew⟩, M19.tabs, fun f3 c3 H20 x20 t20 n20 hf3 hc3 => ?_⟩
      have M20 := M19.ext x20 t20
      have ew20 := x20 _ _ ew (fun ps z => by cases z)
      have dvb20 := dp_mono (same_ext x20) (dp_noT dvb)
      refine ⟨w1, [.ref f1, .ref f2], _, rfl, rfl, ew20, by simp; decide, f3, rfl, M20.put ew20 bw (Ne.symm wr) (Ne.symm wl), ?_, dp_mono (same_put ew20) (dp_del ew20 dvb20 hnl), upd_same, fun y hy => ?_⟩
      · rw [upd_ne (Ne.symm wg)]
        exact x20 _ _ eg (fun ps z => by cases z)
      refine WK.stay ?_ (stay_put ew20)
      simp only [List.mem_cons, List.not_mem_nil, or_false] at hy
      rcases hy with rfl | rfl | rfl
      · exact K1.stay (stay_ext x20)
      · exact K2.stay (stay_ext x20)
      refine ⟨_, _, ["_law_told", "_law_state", "_law_bad"], [3, 5, 14], _, hf3, hc3, fun ok => NdefX.Caps.made (fr := ["_law_told", "_law_state", "_law_bad"]) (js := [3, 5, 14]) ok (NdefX.ndef_free (sc := defScope s_law) (fr := ["_law_told", "_law_state", "_law_bad"]) (by decide +kernel)) (NdefX.ndef_fr (sc := defScope s_law) (by decide +kernel)) rfl,
        lok_call (N := ["_law_told", "_law_state", "_law_bad"]) C_barred rfl (NdefX.nscope_by (sc := lsc3) (by decide +kernel)) rfl (fun _ _ => rfl) (fun A outer s H E hr => pa_cons (pe_var (i := 0) rfl (.inr (.inr rfl))) (pa_cons (pe_var (i := 1) rfl (.inr (.inr rfl))) (pa_cons (pe_var (i := 2) rfl (.inr (.inr rfl))) pa_nil))), fun τ G R t3 t4 t5 t14 t15 sG el dG fin => ?_⟩
      have ews : List.map (NdefX.slotAt τ) [3, 5, 14] = [some (.ref p), some u, some vb] := by
        show [NdefX.slotAt τ 3, NdefX.slotAt τ 5, NdefX.slotAt τ 14] = _
        rw [NdefX.slotAt_of t3, NdefX.slotAt_of t5, NdefX.slotAt_of t14]
      rw [ews]
      exact ⟨_, rfl, _, rfl, _, rfl, p, u, vb, S, st, d, rfl, ob.mono sG, dp_mono sG du, dG, ok, sk6.done, hd, fun t ht e => absurd ⟨t, ht, e⟩ hn, fun _ G6 s6 => .inl ⟨rfl, rfl, fun G7 s7 => fin G7 (s6.trans s7)⟩⟩
    rintro σ H20 ⟨f3, rfl, M20, eg, dvb, ew, KW⟩
    -- the last row
    refine ⟨_, rfl, w1, rfl, ⟨_, SqL.of ew⟩, fun D nD => ⟨trivial, ?_⟩⟩
    have zD := same_new (o := .lst []) nD
    refine lc_list (K := K) (a := w1) (xs := [.ref f1, .ref f2, .ref f3]) (te := fun _ _ _ => False) (fun j H' => Same (upd H20 D (.lst [])) H') (Same.refl _) (fun j H' _ h => SqL.of (h _ _ (zD _ _ ew))) ?_ ?_
    · rintro j y H' hy s1
      obtain ⟨f', rfl, hf'⟩ : ∃ f', y = V.ref f' ∧ f' ∈ [f1, f2, f3] := by
        have hm := List.mem_of_getElem? hy
        simp only [List.mem_cons, List.not_mem_nil, or_false] at hm
        rcases hm with rfl | rfl | rfl
        · exact ⟨_, rfl, List.mem_cons_self⟩
        · exact ⟨_, rfl, List.mem_cons_of_mem _ List.mem_cons_self⟩
        · exact ⟨_, rfl, List.mem_cons_of_mem _ (List.mem_cons_of_mem _ List.mem_cons_self)⟩
      obtain ⟨F, body, fr, js, sp, h1, h2, h3, h4, h5⟩ := KW f' hf'
      have s20 := zD.trans s1
      refine ⟨rfl, f', F, body, fr, js, sp, rfl, s20 _ _ h1, s20 _ _ h2, h3, h4, h5 _ H' _ rfl rfl rfl rfl rfl (M20.BH.trans s20) (s20 _ _ M20.P.el) (dp_mono s20 dvb) fun G' sG => ?_⟩
      exact ⟨rfl, _, rfl, iteNS rfl (s1.trans sG)⟩
    · rintro H' s1
      have s20 := zD.trans s1
      refine ⟨small (by simp), fun q1 nq1 => ⟨.list [], .list [], .lst (SqL.of (same_new nq1 _ _ (s1 _ _ upd_same))) .nil, .lst lst_new .nil, lay_nilL.shaped, lay_nilL.shaped, _, rfl, itB rfl ?_⟩⟩
      have s21 := s20.trans (same_new (o := .lst []) nq1)
      have B21 := M20.BH.trans s21
      refine ⟨_, rfl, _, rfl, p, g, xs.take n, S, dsteps (ts.take n), rfl, ob.mono B21, ok, SqL.of (s21 _ _ eg), dxn _ B21, sdn, ldn, fun z => absurd z gdn, fun ts' e _ => ?_⟩
      obtain rfl := dsteps_inj e
      refine ⟨fun _ q2 zs2 H22 s22 _ e22 d22 => ?_, fun i t rr kk ht _ hb => ?_⟩
      · rw [hsts] at d22
        refine ⟨_, rfl, _, _, .lst (SqL.of e22) d22, .lst (SqL.of ((B21.trans s22) _ _ e8)) (dps_mono (B21.trans s22) d8), lls.shaped, lls.shaped, ?_⟩
        rw [lls.refl]
        exact q _
      · have z := opn.at ht
        rw [hb] at z
        cases z
end

theorem wr_tup {K : PySem.W.Frag} {a : Addr} {d : Option Addr} {its : Array Value} {n : Nat} {sl : Array (Option Value)} {xs : List V} (h : K.lookup a = some ⟨.type "tuple", d, .seq its n, sl⟩) (hz : its.size ≤ 1000) (r : Vals xs its.toList) (H : Hp) : SqT K H a xs :=
  .inr ⟨_, its, n, h, rfl, rfl, small hz, r⟩
theorem all_mk {l : PySem.W.OpenLaw} {w : World} {K : PySem.W.Frag} {h : Heap} {mg : Str → Option Value} {fa : Addr} (X : K.In h) (G : h.Ns mainGlobals mg) (hfa : mg "law" = some (.ref fa))
    {C : Addr}
    {cA cB cS cT cR : Addr}
    {cL Pt : Addr} {eL : Value} {ddL : Option Addr} {vsL : Array Value} {slL : Array (Option Value)}
    {nmBarred qBarred : Str} {NBarred : Addr} {bsBarred : List Value} {snBarred : List Str} {sbBarred : List Value} {abBarred : Bool} {coBarred : Option Bool} {ddBarred : Option Addr} {m0Barred m1Barred m2Barred m3Barred m5Barred : Option Value}
    {f_Barred___init__ : Addr} {od_Barred___init__ an_Barred___init__ : Option Addr} {sl_Barred___init__ : Array (Option Value)} {oc_Barred___init__ kV_Barred___init__ dc_Barred___init__ pm_Barred___init__ cd_Barred___init__ ct_Barred___init__ : Value}
    {f_begin : Addr} {od_begin an_begin : Option Addr} {sl_begin : Array (Option Value)} {oc_begin kV_begin dc_begin pm_begin cd_begin ct_begin : Value}
    {f_barred : Addr} {od_barred an_barred : Option Addr} {sl_barred : Array (Option Value)} {oc_barred kV_barred dc_barred pm_barred cd_barred ct_barred : Value}
    {f_played : Addr} {od_played an_played : Option Addr} {sl_played : Array (Option Value)} {oc_played kV_played dc_played pm_played cd_played ct_played : Value}
    {f_shifts : Addr} {od_shifts an_shifts : Option Addr} {sl_shifts : Array (Option Value)} {oc_shifts kV_shifts dc_shifts pm_shifts cd_shifts ct_shifts : Value}
    {f_is_end : Addr} {od_is_end an_is_end : Option Addr} {sl_is_end : Array (Option Value)} {oc_is_end kV_is_end dc_is_end pm_is_end cd_is_end ct_is_end : Value}
    {f_behind : Addr} {od_behind an_behind : Option Addr} {sl_behind : Array (Option Value)} {oc_behind kV_behind dc_behind pm_behind cd_behind ct_behind : Value}
    {f_shifts_of : Addr} {od_shifts_of an_shifts_of : Option Addr} {sl_shifts_of : Array (Option Value)} {oc_shifts_of kV_shifts_of dc_shifts_of pm_shifts_of cd_shifts_of ct_shifts_of : Value}
    {f_refuse_no_steps : Addr} {od_refuse_no_steps an_refuse_no_steps : Option Addr} {sl_refuse_no_steps : Array (Option Value)} {oc_refuse_no_steps kV_refuse_no_steps dc_refuse_no_steps pm_refuse_no_steps cd_refuse_no_steps ct_refuse_no_steps : Value}
    {f__all_steps : Addr} {od__all_steps an__all_steps : Option Addr} {sl__all_steps : Array (Option Value)} {oc__all_steps kV__all_steps dc__all_steps pm__all_steps cd__all_steps ct__all_steps : Value}
    {f__bar : Addr} {od__bar an__bar : Option Addr} {sl__bar : Array (Option Value)} {oc__bar kV__bar dc__bar pm__bar cd__bar ct__bar : Value}
    {f__bar_of_shift : Addr} {od__bar_of_shift an__bar_of_shift : Option Addr} {sl__bar_of_shift : Array (Option Value)} {oc__bar_of_shift kV__bar_of_shift dc__bar_of_shift pm__bar_of_shift cd__bar_of_shift ct__bar_of_shift : Value}
    {f__bar_of_going_in : Addr} {od__bar_of_going_in an__bar_of_going_in : Option Addr} {sl__bar_of_going_in : Array (Option Value)} {oc__bar_of_going_in kV__bar_of_going_in dc__bar_of_going_in pm__bar_of_going_in cd__bar_of_going_in ct__bar_of_going_in : Value}
    {f__bar_of_going_out : Addr} {od__bar_of_going_out an__bar_of_going_out : Option Addr} {sl__bar_of_going_out : Array (Option Value)} {oc__bar_of_going_out kV__bar_of_going_out dc__bar_of_going_out pm__bar_of_going_out cd__bar_of_going_out ct__bar_of_going_out : Value}
    {f__bar_of_wish : Addr} {od__bar_of_wish an__bar_of_wish : Option Addr} {sl__bar_of_wish : Array (Option Value)} {oc__bar_of_wish kV__bar_of_wish dc__bar_of_wish pm__bar_of_wish cd__bar_of_wish ct__bar_of_wish : Value}
    {f__bar_of_load : Addr} {od__bar_of_load an__bar_of_load : Option Addr} {sl__bar_of_load : Array (Option Value)} {oc__bar_of_load kV__bar_of_load dc__bar_of_load pm__bar_of_load cd__bar_of_load ct__bar_of_load : Value}
    {f__is_beside : Addr} {od__is_beside an__is_beside : Option Addr} {sl__is_beside : Array (Option Value)} {oc__is_beside kV__is_beside dc__is_beside pm__is_beside cd__is_beside ct__is_beside : Value}
    {f__has_now : Addr} {od__has_now an__has_now : Option Addr} {sl__has_now : Array (Option Value)} {oc__has_now kV__has_now dc__has_now pm__has_now cd__has_now ct__has_now : Value}
    {f_Store___init__ : Addr} {od_Store___init__ an_Store___init__ : Option Addr} {sl_Store___init__ : Array (Option Value)} {oc_Store___init__ kV_Store___init__ dc_Store___init__ pm_Store___init__ cd_Store___init__ ct_Store___init__ : Value}
    {f_Store_shelves : Addr} {od_Store_shelves an_Store_shelves : Option Addr} {sl_Store_shelves : Array (Option Value)} {oc_Store_shelves kV_Store_shelves dc_Store_shelves pm_Store_shelves cd_Store_shelves ct_Store_shelves : Value}
    {f_Store_wishes : Addr} {od_Store_wishes an_Store_wishes : Option Addr} {sl_Store_wishes : Array (Option Value)} {oc_Store_wishes kV_Store_wishes dc_Store_wishes pm_Store_wishes cd_Store_wishes ct_Store_wishes : Value}
    {f__refuse_no_store : Addr} {od__refuse_no_store an__refuse_no_store : Option Addr} {sl__refuse_no_store : Array (Option Value)} {oc__refuse_no_store kV__refuse_no_store dc__refuse_no_store pm__refuse_no_store cd__refuse_no_store ct__refuse_no_store : Value}
    {f__is_shelf : Addr} {od__is_shelf an__is_shelf : Option Addr} {sl__is_shelf : Array (Option Value)} {oc__is_shelf kV__is_shelf dc__is_shelf pm__is_shelf cd__is_shelf ct__is_shelf : Value}
    {f__is_wish : Addr} {od__is_wish an__is_wish : Option Addr} {sl__is_wish : Array (Option Value)} {oc__is_wish kV__is_wish dc__is_wish pm__is_wish cd__is_wish ct__is_wish : Value}
    {f__is_rising : Addr} {od__is_rising an__is_rising : Option Addr} {sl__is_rising : Array (Option Value)} {oc__is_rising kV__is_rising dc__is_rising pm__is_rising cd__is_rising ct__is_rising : Value}
    {f__law_taken : Addr} {od__law_taken an__law_taken : Option Addr} {sl__law_taken : Array (Option Value)} {oc__law_taken kV__law_taken dc__law_taken pm__law_taken cd__law_taken ct__law_taken : Value}
    {f__law_wish : Addr} {od__law_wish an__law_wish : Option Addr} {sl__law_wish : Array (Option Value)} {oc__law_wish kV__law_wish dc__law_wish pm__law_wish cd__law_wish ct__law_wish : Value}
    {f__law_store : Addr} {od__law_store an__law_store : Option Addr} {sl__law_store : Array (Option Value)} {oc__law_store kV__law_store dc__law_store pm__law_store cd__law_store ct__law_store : Value}
    {f__law_made : Addr} {od__law_made an__law_made : Option Addr} {sl__law_made : Array (Option Value)} {oc__law_made kV__law_made dc__law_made pm__law_made cd__law_made ct__law_made : Value}
    {f__law_goods : Addr} {od__law_goods an__law_goods : Option Addr} {sl__law_goods : Array (Option Value)} {oc__law_goods kV__law_goods dc__law_goods pm__law_goods cd__law_goods ct__law_goods : Value}
    {f__law_bar : Addr} {od__law_bar an__law_bar : Option Addr} {sl__law_bar : Array (Option Value)} {oc__law_bar kV__law_bar dc__law_bar pm__law_bar cd__law_bar ct__law_bar : Value}
    {f__law_bar_of_wish : Addr} {od__law_bar_of_wish an__law_bar_of_wish : Option Addr} {sl__law_bar_of_wish : Array (Option Value)} {oc__law_bar_of_wish kV__law_bar_of_wish dc__law_bar_of_wish pm__law_bar_of_wish cd__law_bar_of_wish ct__law_bar_of_wish : Value}
    {f__law_behind : Addr} {od__law_behind an__law_behind : Option Addr} {sl__law_behind : Array (Option Value)} {oc__law_behind kV__law_behind dc__law_behind pm__law_behind cd__law_behind ct__law_behind : Value}
    {f__law_every : Addr} {od__law_every an__law_every : Option Addr} {sl__law_every : Array (Option Value)} {oc__law_every kV__law_every dc__law_every pm__law_every cd__law_every ct__law_every : Value}
    {f__law_steps : Addr} {od__law_steps an__law_steps : Option Addr} {sl__law_steps : Array (Option Value)} {oc__law_steps kV__law_steps dc__law_steps pm__law_steps cd__law_steps ct__law_steps : Value}
    {f__law_begin : Addr} {od__law_begin an__law_begin : Option Addr} {sl__law_begin : Array (Option Value)} {oc__law_begin kV__law_begin dc__law_begin pm__law_begin cd__law_begin ct__law_begin : Value}
    {f__law_none : Addr} {od__law_none an__law_none : Option Addr} {sl__law_none : Array (Option Value)} {oc__law_none kV__law_none dc__law_none pm__law_none cd__law_none ct__law_none : Value}
    {f__law_word : Addr} {od__law_word an__law_word : Option Addr} {sl__law_word : Array (Option Value)} {oc__law_word kV__law_word dc__law_word pm__law_word cd__law_word ct__law_word : Value}
    {f__law_due : Addr} {od__law_due an__law_due : Option Addr} {sl__law_due : Array (Option Value)} {oc__law_due kV__law_due dc__law_due pm__law_due cd__law_due ct__law_due : Value}
    {f_law : Addr} {od_law an_law : Option Addr} {sl_law : Array (Option Value)} {oc_law kV_law dc_law pm_law ct_law : Value}
    {t_MOST_SHELVES : Tok}
    {t_MOST_ROOM : Tok}
    {t_MOST_WISHES : Tok}
    {t_MOST_KEEP : Tok}
    {tKINDS0 : Tok}
    {tKINDS1 : Tok}
    {a_KINDS : Addr} {d_KINDS : Option Addr} {n_KINDS : Nat} {sl_KINDS : Array (Option Value)}
    {tSIDES0 : Tok}
    {tSIDES1 : Tok}
    {tSIDES2 : Tok}
    {a_SIDES : Addr} {d_SIDES : Option Addr} {n_SIDES : Nat} {sl_SIDES : Array (Option Value)}
    {a_SS : Addr} {d_SS : Option Addr} {n_SS : Nat} {sl_SS : Array (Option Value)} {b0 b1 b2 b3 b4 b5 b6 : Addr}
    {tS0_0 : Tok}
    {dS0 : Option Addr} {nS0 : Nat} {sS0 : Array (Option Value)}
    {tS1_0 : Tok}
    {tS1_1 : Tok}
    {dS1 : Option Addr} {nS1 : Nat} {sS1 : Array (Option Value)}
    {tS2_0 : Tok}
    {tS2_1 : Tok}
    {dS2 : Option Addr} {nS2 : Nat} {sS2 : Array (Option Value)}
    {tS3_0 : Tok}
    {tS3_1 : Tok}
    {dS3 : Option Addr} {nS3 : Nat} {sS3 : Array (Option Value)}
    {tS4_0 : Tok}
    {tS4_1 : Tok}
    {dS4 : Option Addr} {nS4 : Nat} {sS4 : Array (Option Value)}
    {tS5_0 : Tok}
    {tS5_1 : Tok}
    {dS5 : Option Addr} {nS5 : Nat} {sS5 : Array (Option Value)}
    {tS6_0 : Tok}
    {tS6_1 : Tok}
    {dS6 : Option Addr} {nS6 : Nat} {sS6 : Array (Option Value)}
    (aC : PySem.W.nsIn K mainGlobals "Store" = some (some (.ref C)))
    (g_AisleError : PySem.W.nsIn K mainGlobals "AisleError" = some (some (.ref cA)))
    (kp_AisleError : PySem.W.keepIn K (.ref cA) = true)
    (ex_AisleError : PySem.W.subIn K (.ref cA) (.type "BaseException") = some true)
    (ty_AisleError : PySem.W.typeIn K (.ref cA) = some (.type "type"))
    (is_AisleError : PySem.W.isClsIn K cA = true)
    (g_BadStore : PySem.W.nsIn K mainGlobals "BadStore" = some (some (.ref cB)))
    (kp_BadStore : PySem.W.keepIn K (.ref cB) = true)
    (ex_BadStore : PySem.W.subIn K (.ref cB) (.type "BaseException") = some true)
    (ty_BadStore : PySem.W.typeIn K (.ref cB) = some (.type "type"))
    (is_BadStore : PySem.W.isClsIn K cB = true)
    (g_BadStep : PySem.W.nsIn K mainGlobals "BadStep" = some (some (.ref cS)))
    (kp_BadStep : PySem.W.keepIn K (.ref cS) = true)
    (ex_BadStep : PySem.W.subIn K (.ref cS) (.type "BaseException") = some true)
    (ty_BadStep : PySem.W.typeIn K (.ref cS) = some (.type "type"))
    (is_BadStep : PySem.W.isClsIn K cS = true)
    (g_BadText : PySem.W.nsIn K mainGlobals "BadText" = some (some (.ref cT)))
    (kp_BadText : PySem.W.keepIn K (.ref cT) = true)
    (ex_BadText : PySem.W.subIn K (.ref cT) (.type "BaseException") = some true)
    (ty_BadText : PySem.W.typeIn K (.ref cT) = some (.type "type"))
    (is_BadText : PySem.W.isClsIn K cT = true)
    (g_Barred : PySem.W.nsIn K mainGlobals "Barred" = some (some (.ref cR)))
    (kp_Barred : PySem.W.keepIn K (.ref cR) = true)
    (ex_Barred : PySem.W.subIn K (.ref cR) (.type "BaseException") = some true)
    (ty_Barred : PySem.W.typeIn K (.ref cR) = some (.type "type"))
    (is_Barred : PySem.W.isClsIn K cR = true)
    (subSA : PySem.W.subIn K (.ref cS) (.ref cA) = some true)
    (subSB : PySem.W.subIn K (.ref cS) (.ref cB) = some false)
    (subSS : PySem.W.subIn K (.ref cS) (.ref cS) = some true)
    (subST : PySem.W.subIn K (.ref cS) (.ref cT) = some false)
    (subSR : PySem.W.subIn K (.ref cS) (.ref cR) = some false)
    (subSV : PySem.W.subIn K (.ref cS) (.type "ValueError") = some true)
    (subRA : PySem.W.subIn K (.ref cR) (.ref cA) = some true)
    (subRB : PySem.W.subIn K (.ref cR) (.ref cB) = some false)
    (subRS : PySem.W.subIn K (.ref cR) (.ref cS) = some false)
    (subRT : PySem.W.subIn K (.ref cR) (.ref cT) = some false)
    (subRR : PySem.W.subIn K (.ref cR) (.ref cR) = some true)
    (subRV : PySem.W.subIn K (.ref cR) (.type "ValueError") = some true)
    (xsp : PySem.W.specialIn K (.builtin "object.__class__") "__get__" = some (some (.builtin "getset_descriptor.__get__")))
    (xtk : PySem.W.takesIn K (.builtin "object.__class__") = some true)
    (xgBadStep : PySem.W.findIn K (.ref cS) "__getattribute__" = some (some (.builtin "BaseException.__getattribute__")))
    (xkBadStep : PySem.W.findIn K (.ref cS) "__getattr__" = some none)
    (xdBadStep : PySem.W.hasDictIn K cS = true)
    (xcBadStep : PySem.W.findIn K (.ref cS) "__class__" = some (some (.builtin "object.__class__")))
    (xmBadStep : PySem.W.mroIn K cS (.type "object") = some true)
    (XS_BadStep : PySem.W.excIn K cS veBm "ValueError.__new__" = true)
    (xLBarred : K.lookup cR = some (excClassObj nmBarred qBarred cR NBarred bsBarred [.ref cA, .type "ValueError", .type "Exception", .type "BaseException", .type "object"] true snBarred sbBarred abBarred coBarred ddBarred m0Barred m1Barred m2Barred m3Barred m5Barred "ValueError.__new__"))
    (xsBarred : PySem.W.findIn K (.ref cR) "__setattr__" = some (some (.builtin "object.__setattr__")))
    (xgBarred : PySem.W.findIn K (.ref cR) "__getattribute__" = some (some (.builtin "BaseException.__getattribute__")))
    (xkBarred : PySem.W.findIn K (.ref cR) "__getattr__" = some none)
    (xdBarred : PySem.W.hasDictIn K cR = true)
    (xcBarred : PySem.W.findIn K (.ref cR) "__class__" = some (some (.builtin "object.__class__")))
    (xmBarred : PySem.W.mroIn K cR (.type "object") = some true)
    (xn0Barred : PySem.W.findIn K (.ref cR) "rule" = some none)
    (xn1Barred : PySem.W.findIn K (.ref cR) "number" = some none)
    (xn2Barred : PySem.W.findIn K (.ref cR) "at" = some none)
    (a_Barred___init__ : PySem.W.findIn K (.ref cR) "__init__" = some (some (.ref f_Barred___init__)))
    (i_Barred___init__ : PySem.W.typeIn K (.ref f_Barred___init__) = some (.type "function"))
    (l_Barred___init__ : K.lookup f_Barred___init__ = some ⟨oc_Barred___init__, od_Barred___init__, .func (PySem.W.fnOf "__init__" "Barred.__init__" (defArgs s_Barred___init__) (defBody s_Barred___init__) (defScope s_Barred___init__) .none kV_Barred___init__ dc_Barred___init__ pm_Barred___init__ an_Barred___init__ cd_Barred___init__ ct_Barred___init__), sl_Barred___init__⟩)
    (c_Barred___init__ : PySem.W.codeIn K cd_Barred___init__ "Barred.__init__" = true)
    (k_Barred___init__ : PySem.W.keepIn K (.ref f_Barred___init__) = true)
    (a_begin : PySem.W.nsIn K mainGlobals "begin" = some (some (.ref f_begin)))
    (l_begin : K.lookup f_begin = some ⟨oc_begin, od_begin, .func (PySem.W.fnOf "begin" "begin" (defArgs s_begin) (defBody s_begin) (defScope s_begin) .none kV_begin dc_begin pm_begin an_begin cd_begin ct_begin), sl_begin⟩)
    (c_begin : PySem.W.codeIn K cd_begin "begin" = true)
    (k_begin : PySem.W.keepIn K (.ref f_begin) = true)
    (a_barred : PySem.W.nsIn K mainGlobals "barred" = some (some (.ref f_barred)))
    (l_barred : K.lookup f_barred = some ⟨oc_barred, od_barred, .func (PySem.W.fnOf "barred" "barred" (defArgs s_barred) (defBody s_barred) (defScope s_barred) .none kV_barred dc_barred pm_barred an_barred cd_barred ct_barred), sl_barred⟩)
    (c_barred : PySem.W.codeIn K cd_barred "barred" = true)
    (k_barred : PySem.W.keepIn K (.ref f_barred) = true)
    (a_played : PySem.W.nsIn K mainGlobals "played" = some (some (.ref f_played)))
    (l_played : K.lookup f_played = some ⟨oc_played, od_played, .func (PySem.W.fnOf "played" "played" (defArgs s_played) (defBody s_played) (defScope s_played) .none kV_played dc_played pm_played an_played cd_played ct_played), sl_played⟩)
    (c_played : PySem.W.codeIn K cd_played "played" = true)
    (k_played : PySem.W.keepIn K (.ref f_played) = true)
    (a_shifts : PySem.W.nsIn K mainGlobals "shifts" = some (some (.ref f_shifts)))
    (l_shifts : K.lookup f_shifts = some ⟨oc_shifts, od_shifts, .func (PySem.W.fnOf "shifts" "shifts" (defArgs s_shifts) (defBody s_shifts) (defScope s_shifts) .none kV_shifts dc_shifts pm_shifts an_shifts cd_shifts ct_shifts), sl_shifts⟩)
    (c_shifts : PySem.W.codeIn K cd_shifts "shifts" = true)
    (k_shifts : PySem.W.keepIn K (.ref f_shifts) = true)
    (a_is_end : PySem.W.nsIn K mainGlobals "is_end" = some (some (.ref f_is_end)))
    (l_is_end : K.lookup f_is_end = some ⟨oc_is_end, od_is_end, .func (PySem.W.fnOf "is_end" "is_end" (defArgs s_is_end) (defBody s_is_end) (defScope s_is_end) .none kV_is_end dc_is_end pm_is_end an_is_end cd_is_end ct_is_end), sl_is_end⟩)
    (c_is_end : PySem.W.codeIn K cd_is_end "is_end" = true)
    (k_is_end : PySem.W.keepIn K (.ref f_is_end) = true)
    (a_behind : PySem.W.nsIn K mainGlobals "behind" = some (some (.ref f_behind)))
    (l_behind : K.lookup f_behind = some ⟨oc_behind, od_behind, .func (PySem.W.fnOf "behind" "behind" (defArgs s_behind) (defBody s_behind) (defScope s_behind) .none kV_behind dc_behind pm_behind an_behind cd_behind ct_behind), sl_behind⟩)
    (c_behind : PySem.W.codeIn K cd_behind "behind" = true)
    (k_behind : PySem.W.keepIn K (.ref f_behind) = true)
    (a_shifts_of : PySem.W.nsIn K mainGlobals "shifts_of" = some (some (.ref f_shifts_of)))
    (l_shifts_of : K.lookup f_shifts_of = some ⟨oc_shifts_of, od_shifts_of, .func (PySem.W.fnOf "shifts_of" "shifts_of" (defArgs s_shifts_of) (defBody s_shifts_of) (defScope s_shifts_of) .none kV_shifts_of dc_shifts_of pm_shifts_of an_shifts_of cd_shifts_of ct_shifts_of), sl_shifts_of⟩)
    (c_shifts_of : PySem.W.codeIn K cd_shifts_of "shifts_of" = true)
    (k_shifts_of : PySem.W.keepIn K (.ref f_shifts_of) = true)
    (a_refuse_no_steps : PySem.W.nsIn K mainGlobals "refuse_no_steps" = some (some (.ref f_refuse_no_steps)))
    (l_refuse_no_steps : K.lookup f_refuse_no_steps = some ⟨oc_refuse_no_steps, od_refuse_no_steps, .func (PySem.W.fnOf "refuse_no_steps" "refuse_no_steps" (defArgs s_refuse_no_steps) (defBody s_refuse_no_steps) (defScope s_refuse_no_steps) .none kV_refuse_no_steps dc_refuse_no_steps pm_refuse_no_steps an_refuse_no_steps cd_refuse_no_steps ct_refuse_no_steps), sl_refuse_no_steps⟩)
    (c_refuse_no_steps : PySem.W.codeIn K cd_refuse_no_steps "refuse_no_steps" = true)
    (k_refuse_no_steps : PySem.W.keepIn K (.ref f_refuse_no_steps) = true)
    (a__all_steps : PySem.W.nsIn K mainGlobals "_all_steps" = some (some (.ref f__all_steps)))
    (l__all_steps : K.lookup f__all_steps = some ⟨oc__all_steps, od__all_steps, .func (PySem.W.fnOf "_all_steps" "_all_steps" (defArgs s__all_steps) (defBody s__all_steps) (defScope s__all_steps) .none kV__all_steps dc__all_steps pm__all_steps an__all_steps cd__all_steps ct__all_steps), sl__all_steps⟩)
    (c__all_steps : PySem.W.codeIn K cd__all_steps "_all_steps" = true)
    (k__all_steps : PySem.W.keepIn K (.ref f__all_steps) = true)
    (a__bar : PySem.W.nsIn K mainGlobals "_bar" = some (some (.ref f__bar)))
    (l__bar : K.lookup f__bar = some ⟨oc__bar, od__bar, .func (PySem.W.fnOf "_bar" "_bar" (defArgs s__bar) (defBody s__bar) (defScope s__bar) .none kV__bar dc__bar pm__bar an__bar cd__bar ct__bar), sl__bar⟩)
    (c__bar : PySem.W.codeIn K cd__bar "_bar" = true)
    (k__bar : PySem.W.keepIn K (.ref f__bar) = true)
    (a__bar_of_shift : PySem.W.nsIn K mainGlobals "_bar_of_shift" = some (some (.ref f__bar_of_shift)))
    (l__bar_of_shift : K.lookup f__bar_of_shift = some ⟨oc__bar_of_shift, od__bar_of_shift, .func (PySem.W.fnOf "_bar_of_shift" "_bar_of_shift" (defArgs s__bar_of_shift) (defBody s__bar_of_shift) (defScope s__bar_of_shift) .none kV__bar_of_shift dc__bar_of_shift pm__bar_of_shift an__bar_of_shift cd__bar_of_shift ct__bar_of_shift), sl__bar_of_shift⟩)
    (c__bar_of_shift : PySem.W.codeIn K cd__bar_of_shift "_bar_of_shift" = true)
    (k__bar_of_shift : PySem.W.keepIn K (.ref f__bar_of_shift) = true)
    (a__bar_of_going_in : PySem.W.nsIn K mainGlobals "_bar_of_going_in" = some (some (.ref f__bar_of_going_in)))
    (l__bar_of_going_in : K.lookup f__bar_of_going_in = some ⟨oc__bar_of_going_in, od__bar_of_going_in, .func (PySem.W.fnOf "_bar_of_going_in" "_bar_of_going_in" (defArgs s__bar_of_going_in) (defBody s__bar_of_going_in) (defScope s__bar_of_going_in) .none kV__bar_of_going_in dc__bar_of_going_in pm__bar_of_going_in an__bar_of_going_in cd__bar_of_going_in ct__bar_of_going_in), sl__bar_of_going_in⟩)
    (c__bar_of_going_in : PySem.W.codeIn K cd__bar_of_going_in "_bar_of_going_in" = true)
    (k__bar_of_going_in : PySem.W.keepIn K (.ref f__bar_of_going_in) = true)
    (a__bar_of_going_out : PySem.W.nsIn K mainGlobals "_bar_of_going_out" = some (some (.ref f__bar_of_going_out)))
    (l__bar_of_going_out : K.lookup f__bar_of_going_out = some ⟨oc__bar_of_going_out, od__bar_of_going_out, .func (PySem.W.fnOf "_bar_of_going_out" "_bar_of_going_out" (defArgs s__bar_of_going_out) (defBody s__bar_of_going_out) (defScope s__bar_of_going_out) .none kV__bar_of_going_out dc__bar_of_going_out pm__bar_of_going_out an__bar_of_going_out cd__bar_of_going_out ct__bar_of_going_out), sl__bar_of_going_out⟩)
    (c__bar_of_going_out : PySem.W.codeIn K cd__bar_of_going_out "_bar_of_going_out" = true)
    (k__bar_of_going_out : PySem.W.keepIn K (.ref f__bar_of_going_out) = true)
    (a__bar_of_wish : PySem.W.nsIn K mainGlobals "_bar_of_wish" = some (some (.ref f__bar_of_wish)))
    (l__bar_of_wish : K.lookup f__bar_of_wish = some ⟨oc__bar_of_wish, od__bar_of_wish, .func (PySem.W.fnOf "_bar_of_wish" "_bar_of_wish" (defArgs s__bar_of_wish) (defBody s__bar_of_wish) (defScope s__bar_of_wish) .none kV__bar_of_wish dc__bar_of_wish pm__bar_of_wish an__bar_of_wish cd__bar_of_wish ct__bar_of_wish), sl__bar_of_wish⟩)
    (c__bar_of_wish : PySem.W.codeIn K cd__bar_of_wish "_bar_of_wish" = true)
    (k__bar_of_wish : PySem.W.keepIn K (.ref f__bar_of_wish) = true)
    (a__bar_of_load : PySem.W.nsIn K mainGlobals "_bar_of_load" = some (some (.ref f__bar_of_load)))
    (l__bar_of_load : K.lookup f__bar_of_load = some ⟨oc__bar_of_load, od__bar_of_load, .func (PySem.W.fnOf "_bar_of_load" "_bar_of_load" (defArgs s__bar_of_load) (defBody s__bar_of_load) (defScope s__bar_of_load) .none kV__bar_of_load dc__bar_of_load pm__bar_of_load an__bar_of_load cd__bar_of_load ct__bar_of_load), sl__bar_of_load⟩)
    (c__bar_of_load : PySem.W.codeIn K cd__bar_of_load "_bar_of_load" = true)
    (k__bar_of_load : PySem.W.keepIn K (.ref f__bar_of_load) = true)
    (a__is_beside : PySem.W.nsIn K mainGlobals "_is_beside" = some (some (.ref f__is_beside)))
    (l__is_beside : K.lookup f__is_beside = some ⟨oc__is_beside, od__is_beside, .func (PySem.W.fnOf "_is_beside" "_is_beside" (defArgs s__is_beside) (defBody s__is_beside) (defScope s__is_beside) .none kV__is_beside dc__is_beside pm__is_beside an__is_beside cd__is_beside ct__is_beside), sl__is_beside⟩)
    (c__is_beside : PySem.W.codeIn K cd__is_beside "_is_beside" = true)
    (k__is_beside : PySem.W.keepIn K (.ref f__is_beside) = true)
    (a__has_now : PySem.W.nsIn K mainGlobals "_has_now" = some (some (.ref f__has_now)))
    (l__has_now : K.lookup f__has_now = some ⟨oc__has_now, od__has_now, .func (PySem.W.fnOf "_has_now" "_has_now" (defArgs s__has_now) (defBody s__has_now) (defScope s__has_now) .none kV__has_now dc__has_now pm__has_now an__has_now cd__has_now ct__has_now), sl__has_now⟩)
    (c__has_now : PySem.W.codeIn K cd__has_now "_has_now" = true)
    (k__has_now : PySem.W.keepIn K (.ref f__has_now) = true)
    (a_Store___init__ : PySem.W.findIn K (.ref C) "__init__" = some (some (.ref f_Store___init__)))
    (i_Store___init__ : PySem.W.isFn K (.ref f_Store___init__) = true)
    (l_Store___init__ : K.lookup f_Store___init__ = some ⟨oc_Store___init__, od_Store___init__, .func (PySem.W.fnOf "__init__" "Store.__init__" (defArgs s_Store___init__) (defBody s_Store___init__) (defScope s_Store___init__) .none kV_Store___init__ dc_Store___init__ pm_Store___init__ an_Store___init__ cd_Store___init__ ct_Store___init__), sl_Store___init__⟩)
    (c_Store___init__ : PySem.W.codeIn K cd_Store___init__ "Store.__init__" = true)
    (k_Store___init__ : PySem.W.keepIn K (.ref f_Store___init__) = true)
    (a_Store_shelves : PySem.W.findIn K (.ref C) "shelves" = some (some (.ref f_Store_shelves)))
    (i_Store_shelves : PySem.W.isFn K (.ref f_Store_shelves) = true)
    (l_Store_shelves : K.lookup f_Store_shelves = some ⟨oc_Store_shelves, od_Store_shelves, .func (PySem.W.fnOf "shelves" "Store.shelves" (defArgs s_Store_shelves) (defBody s_Store_shelves) (defScope s_Store_shelves) .none kV_Store_shelves dc_Store_shelves pm_Store_shelves an_Store_shelves cd_Store_shelves ct_Store_shelves), sl_Store_shelves⟩)
    (c_Store_shelves : PySem.W.codeIn K cd_Store_shelves "Store.shelves" = true)
    (k_Store_shelves : PySem.W.keepIn K (.ref f_Store_shelves) = true)
    (a_Store_wishes : PySem.W.findIn K (.ref C) "wishes" = some (some (.ref f_Store_wishes)))
    (i_Store_wishes : PySem.W.isFn K (.ref f_Store_wishes) = true)
    (l_Store_wishes : K.lookup f_Store_wishes = some ⟨oc_Store_wishes, od_Store_wishes, .func (PySem.W.fnOf "wishes" "Store.wishes" (defArgs s_Store_wishes) (defBody s_Store_wishes) (defScope s_Store_wishes) .none kV_Store_wishes dc_Store_wishes pm_Store_wishes an_Store_wishes cd_Store_wishes ct_Store_wishes), sl_Store_wishes⟩)
    (c_Store_wishes : PySem.W.codeIn K cd_Store_wishes "Store.wishes" = true)
    (k_Store_wishes : PySem.W.keepIn K (.ref f_Store_wishes) = true)
    (a__refuse_no_store : PySem.W.nsIn K mainGlobals "_refuse_no_store" = some (some (.ref f__refuse_no_store)))
    (l__refuse_no_store : K.lookup f__refuse_no_store = some ⟨oc__refuse_no_store, od__refuse_no_store, .func (PySem.W.fnOf "_refuse_no_store" "_refuse_no_store" (defArgs s__refuse_no_store) (defBody s__refuse_no_store) (defScope s__refuse_no_store) .none kV__refuse_no_store dc__refuse_no_store pm__refuse_no_store an__refuse_no_store cd__refuse_no_store ct__refuse_no_store), sl__refuse_no_store⟩)
    (c__refuse_no_store : PySem.W.codeIn K cd__refuse_no_store "_refuse_no_store" = true)
    (k__refuse_no_store : PySem.W.keepIn K (.ref f__refuse_no_store) = true)
    (a__is_shelf : PySem.W.nsIn K mainGlobals "_is_shelf" = some (some (.ref f__is_shelf)))
    (l__is_shelf : K.lookup f__is_shelf = some ⟨oc__is_shelf, od__is_shelf, .func (PySem.W.fnOf "_is_shelf" "_is_shelf" (defArgs s__is_shelf) (defBody s__is_shelf) (defScope s__is_shelf) .none kV__is_shelf dc__is_shelf pm__is_shelf an__is_shelf cd__is_shelf ct__is_shelf), sl__is_shelf⟩)
    (c__is_shelf : PySem.W.codeIn K cd__is_shelf "_is_shelf" = true)
    (k__is_shelf : PySem.W.keepIn K (.ref f__is_shelf) = true)
    (a__is_wish : PySem.W.nsIn K mainGlobals "_is_wish" = some (some (.ref f__is_wish)))
    (l__is_wish : K.lookup f__is_wish = some ⟨oc__is_wish, od__is_wish, .func (PySem.W.fnOf "_is_wish" "_is_wish" (defArgs s__is_wish) (defBody s__is_wish) (defScope s__is_wish) .none kV__is_wish dc__is_wish pm__is_wish an__is_wish cd__is_wish ct__is_wish), sl__is_wish⟩)
    (c__is_wish : PySem.W.codeIn K cd__is_wish "_is_wish" = true)
    (k__is_wish : PySem.W.keepIn K (.ref f__is_wish) = true)
    (a__is_rising : PySem.W.nsIn K mainGlobals "_is_rising" = some (some (.ref f__is_rising)))
    (l__is_rising : K.lookup f__is_rising = some ⟨oc__is_rising, od__is_rising, .func (PySem.W.fnOf "_is_rising" "_is_rising" (defArgs s__is_rising) (defBody s__is_rising) (defScope s__is_rising) .none kV__is_rising dc__is_rising pm__is_rising an__is_rising cd__is_rising ct__is_rising), sl__is_rising⟩)
    (c__is_rising : PySem.W.codeIn K cd__is_rising "_is_rising" = true)
    (k__is_rising : PySem.W.keepIn K (.ref f__is_rising) = true)
    (a__law_taken : PySem.W.nsIn K mainGlobals "_law_taken" = some (some (.ref f__law_taken)))
    (l__law_taken : K.lookup f__law_taken = some ⟨oc__law_taken, od__law_taken, .func (PySem.W.fnOf "_law_taken" "_law_taken" (defArgs s__law_taken) (defBody s__law_taken) (defScope s__law_taken) .none kV__law_taken dc__law_taken pm__law_taken an__law_taken cd__law_taken ct__law_taken), sl__law_taken⟩)
    (c__law_taken : PySem.W.codeIn K cd__law_taken "_law_taken" = true)
    (k__law_taken : PySem.W.keepIn K (.ref f__law_taken) = true)
    (a__law_wish : PySem.W.nsIn K mainGlobals "_law_wish" = some (some (.ref f__law_wish)))
    (l__law_wish : K.lookup f__law_wish = some ⟨oc__law_wish, od__law_wish, .func (PySem.W.fnOf "_law_wish" "_law_wish" (defArgs s__law_wish) (defBody s__law_wish) (defScope s__law_wish) .none kV__law_wish dc__law_wish pm__law_wish an__law_wish cd__law_wish ct__law_wish), sl__law_wish⟩)
    (c__law_wish : PySem.W.codeIn K cd__law_wish "_law_wish" = true)
    (k__law_wish : PySem.W.keepIn K (.ref f__law_wish) = true)
    (a__law_store : PySem.W.nsIn K mainGlobals "_law_store" = some (some (.ref f__law_store)))
    (l__law_store : K.lookup f__law_store = some ⟨oc__law_store, od__law_store, .func (PySem.W.fnOf "_law_store" "_law_store" (defArgs s__law_store) (defBody s__law_store) (defScope s__law_store) .none kV__law_store dc__law_store pm__law_store an__law_store cd__law_store ct__law_store), sl__law_store⟩)
    (c__law_store : PySem.W.codeIn K cd__law_store "_law_store" = true)
    (k__law_store : PySem.W.keepIn K (.ref f__law_store) = true)
    (a__law_made : PySem.W.nsIn K mainGlobals "_law_made" = some (some (.ref f__law_made)))
    (l__law_made : K.lookup f__law_made = some ⟨oc__law_made, od__law_made, .func (PySem.W.fnOf "_law_made" "_law_made" (defArgs s__law_made) (defBody s__law_made) (defScope s__law_made) .none kV__law_made dc__law_made pm__law_made an__law_made cd__law_made ct__law_made), sl__law_made⟩)
    (c__law_made : PySem.W.codeIn K cd__law_made "_law_made" = true)
    (k__law_made : PySem.W.keepIn K (.ref f__law_made) = true)
    (a__law_goods : PySem.W.nsIn K mainGlobals "_law_goods" = some (some (.ref f__law_goods)))
    (l__law_goods : K.lookup f__law_goods = some ⟨oc__law_goods, od__law_goods, .func (PySem.W.fnOf "_law_goods" "_law_goods" (defArgs s__law_goods) (defBody s__law_goods) (defScope s__law_goods) .none kV__law_goods dc__law_goods pm__law_goods an__law_goods cd__law_goods ct__law_goods), sl__law_goods⟩)
    (c__law_goods : PySem.W.codeIn K cd__law_goods "_law_goods" = true)
    (k__law_goods : PySem.W.keepIn K (.ref f__law_goods) = true)
    (a__law_bar : PySem.W.nsIn K mainGlobals "_law_bar" = some (some (.ref f__law_bar)))
    (l__law_bar : K.lookup f__law_bar = some ⟨oc__law_bar, od__law_bar, .func (PySem.W.fnOf "_law_bar" "_law_bar" (defArgs s__law_bar) (defBody s__law_bar) (defScope s__law_bar) .none kV__law_bar dc__law_bar pm__law_bar an__law_bar cd__law_bar ct__law_bar), sl__law_bar⟩)
    (c__law_bar : PySem.W.codeIn K cd__law_bar "_law_bar" = true)
    (k__law_bar : PySem.W.keepIn K (.ref f__law_bar) = true)
    (a__law_bar_of_wish : PySem.W.nsIn K mainGlobals "_law_bar_of_wish" = some (some (.ref f__law_bar_of_wish)))
    (l__law_bar_of_wish : K.lookup f__law_bar_of_wish = some ⟨oc__law_bar_of_wish, od__law_bar_of_wish, .func (PySem.W.fnOf "_law_bar_of_wish" "_law_bar_of_wish" (defArgs s__law_bar_of_wish) (defBody s__law_bar_of_wish) (defScope s__law_bar_of_wish) .none kV__law_bar_of_wish dc__law_bar_of_wish pm__law_bar_of_wish an__law_bar_of_wish cd__law_bar_of_wish ct__law_bar_of_wish), sl__law_bar_of_wish⟩)
    (c__law_bar_of_wish : PySem.W.codeIn K cd__law_bar_of_wish "_law_bar_of_wish" = true)
    (k__law_bar_of_wish : PySem.W.keepIn K (.ref f__law_bar_of_wish) = true)
    (a__law_behind : PySem.W.nsIn K mainGlobals "_law_behind" = some (some (.ref f__law_behind)))
    (l__law_behind : K.lookup f__law_behind = some ⟨oc__law_behind, od__law_behind, .func (PySem.W.fnOf "_law_behind" "_law_behind" (defArgs s__law_behind) (defBody s__law_behind) (defScope s__law_behind) .none kV__law_behind dc__law_behind pm__law_behind an__law_behind cd__law_behind ct__law_behind), sl__law_behind⟩)
    (c__law_behind : PySem.W.codeIn K cd__law_behind "_law_behind" = true)
    (k__law_behind : PySem.W.keepIn K (.ref f__law_behind) = true)
    (a__law_every : PySem.W.nsIn K mainGlobals "_law_every" = some (some (.ref f__law_every)))
    (l__law_every : K.lookup f__law_every = some ⟨oc__law_every, od__law_every, .func (PySem.W.fnOf "_law_every" "_law_every" (defArgs s__law_every) (defBody s__law_every) (defScope s__law_every) .none kV__law_every dc__law_every pm__law_every an__law_every cd__law_every ct__law_every), sl__law_every⟩)
    (c__law_every : PySem.W.codeIn K cd__law_every "_law_every" = true)
    (k__law_every : PySem.W.keepIn K (.ref f__law_every) = true)
    (a__law_steps : PySem.W.nsIn K mainGlobals "_law_steps" = some (some (.ref f__law_steps)))
    (l__law_steps : K.lookup f__law_steps = some ⟨oc__law_steps, od__law_steps, .func (PySem.W.fnOf "_law_steps" "_law_steps" (defArgs s__law_steps) (defBody s__law_steps) (defScope s__law_steps) .none kV__law_steps dc__law_steps pm__law_steps an__law_steps cd__law_steps ct__law_steps), sl__law_steps⟩)
    (c__law_steps : PySem.W.codeIn K cd__law_steps "_law_steps" = true)
    (k__law_steps : PySem.W.keepIn K (.ref f__law_steps) = true)
    (a__law_begin : PySem.W.nsIn K mainGlobals "_law_begin" = some (some (.ref f__law_begin)))
    (l__law_begin : K.lookup f__law_begin = some ⟨oc__law_begin, od__law_begin, .func (PySem.W.fnOf "_law_begin" "_law_begin" (defArgs s__law_begin) (defBody s__law_begin) (defScope s__law_begin) .none kV__law_begin dc__law_begin pm__law_begin an__law_begin cd__law_begin ct__law_begin), sl__law_begin⟩)
    (c__law_begin : PySem.W.codeIn K cd__law_begin "_law_begin" = true)
    (k__law_begin : PySem.W.keepIn K (.ref f__law_begin) = true)
    (a__law_none : PySem.W.nsIn K mainGlobals "_law_none" = some (some (.ref f__law_none)))
    (l__law_none : K.lookup f__law_none = some ⟨oc__law_none, od__law_none, .func (PySem.W.fnOf "_law_none" "_law_none" (defArgs s__law_none) (defBody s__law_none) (defScope s__law_none) .none kV__law_none dc__law_none pm__law_none an__law_none cd__law_none ct__law_none), sl__law_none⟩)
    (c__law_none : PySem.W.codeIn K cd__law_none "_law_none" = true)
    (k__law_none : PySem.W.keepIn K (.ref f__law_none) = true)
    (a__law_word : PySem.W.nsIn K mainGlobals "_law_word" = some (some (.ref f__law_word)))
    (l__law_word : K.lookup f__law_word = some ⟨oc__law_word, od__law_word, .func (PySem.W.fnOf "_law_word" "_law_word" (defArgs s__law_word) (defBody s__law_word) (defScope s__law_word) .none kV__law_word dc__law_word pm__law_word an__law_word cd__law_word ct__law_word), sl__law_word⟩)
    (c__law_word : PySem.W.codeIn K cd__law_word "_law_word" = true)
    (k__law_word : PySem.W.keepIn K (.ref f__law_word) = true)
    (a__law_due : PySem.W.nsIn K mainGlobals "_law_due" = some (some (.ref f__law_due)))
    (l__law_due : K.lookup f__law_due = some ⟨oc__law_due, od__law_due, .func (PySem.W.fnOf "_law_due" "_law_due" (defArgs s__law_due) (defBody s__law_due) (defScope s__law_due) .none kV__law_due dc__law_due pm__law_due an__law_due cd__law_due ct__law_due), sl__law_due⟩)
    (c__law_due : PySem.W.codeIn K cd__law_due "_law_due" = true)
    (k__law_due : PySem.W.keepIn K (.ref f__law_due) = true)
    (a_law : PySem.W.nsIn K mainGlobals "law" = some (some (.ref f_law)))
    (l_law : K.lookup f_law = some ⟨oc_law, od_law, .func (PySem.W.fnOf "law" "law" (defArgs s_law) (defBody s_law) (defScope s_law) .none kV_law dc_law pm_law an_law (.ref cL) ct_law), sl_law⟩)
    (c_law : PySem.W.codeIn K (.ref cL) "law" = true)
    (k_law : PySem.W.keepIn K (.ref f_law) = true)
    (kcL : K.lookup cL = some ⟨eL, ddL, .fields vsL, slL⟩)
    (v11 : vsL[11]? = some (.ref Pt))
    (nP : K.lookup Pt = none)
    (hdP : PySem.W.codeHdIn K cL Pt = true)
    (pgC : PySem.W.plainGet K C Str.empty = true)
    (hdC : PySem.W.hasDictIn K C = true)
    (poC : PySem.W.plainOver K C = true)
    (saC : PySem.W.findIn K (.ref C) "__setattr__" = some (some (.builtin "object.__setattr__")))
    (mkC : PySem.W.makesIn K C = true)
    (kcC : PySem.W.keepIn K (.ref C) = true)
    (nS : PySem.W.findIn K (.ref C) "_shelves" = some none)
    (nW : PySem.W.findIn K (.ref C) "_wishes" = some none)
    (nA : PySem.W.findIn K (.ref C) "aisle" = some none)
    (z_len : PySem.W.nsIn K mainGlobals "len" = some none)
    (z_list : PySem.W.nsIn K mainGlobals "list" = some none)
    (z_tuple : PySem.W.nsIn K mainGlobals "tuple" = some none)
    (z_sorted : PySem.W.nsIn K mainGlobals "sorted" = some none)
    (z_sum : PySem.W.nsIn K mainGlobals "sum" = some none)
    (z_min : PySem.W.nsIn K mainGlobals "min" = some none)
    (z_max : PySem.W.nsIn K mainGlobals "max" = some none)
    (z_int : PySem.W.nsIn K mainGlobals "int" = some none)
    (z_range : PySem.W.nsIn K mainGlobals "range" = some none)
    (z_enumerate : PySem.W.nsIn K mainGlobals "enumerate" = some none)
    (z_isinstance : PySem.W.nsIn K mainGlobals "isinstance" = some none)
    (z_ValueError : PySem.W.nsIn K mainGlobals "ValueError" = some none)
    (c_MOST_SHELVES : PySem.W.nsIn K mainGlobals "MOST_SHELVES" = some (some (.int 5 t_MOST_SHELVES)))
    (c_MOST_ROOM : PySem.W.nsIn K mainGlobals "MOST_ROOM" = some (some (.int 9 t_MOST_ROOM)))
    (c_MOST_WISHES : PySem.W.nsIn K mainGlobals "MOST_WISHES" = some (some (.int 5 t_MOST_WISHES)))
    (c_MOST_KEEP : PySem.W.nsIn K mainGlobals "MOST_KEEP" = some (some (.int 3 t_MOST_KEEP)))
    (g_KINDS : PySem.W.nsIn K mainGlobals "KINDS" = some (some (.ref a_KINDS)))
    (l_KINDS : K.lookup a_KINDS = some ⟨.type "tuple", d_KINDS, .seq #[.str "fetch" tKINDS0, .str "bring" tKINDS1] n_KINDS, sl_KINDS⟩)
    (g_SIDES : PySem.W.nsIn K mainGlobals "SIDES" = some (some (.ref a_SIDES)))
    (l_SIDES : K.lookup a_SIDES = some ⟨.type "tuple", d_SIDES, .seq #[.str "left" tSIDES0, .str "right" tSIDES1, .str "any" tSIDES2] n_SIDES, sl_SIDES⟩)
    (g_SS : PySem.W.nsIn K mainGlobals "STEPS_OF_ANY_STORE" = some (some (.ref a_SS)))
    (l_SS : K.lookup a_SS = some ⟨.type "tuple", d_SS, .seq #[.ref b0, .ref b1, .ref b2, .ref b3, .ref b4, .ref b5, .ref b6] n_SS, sl_SS⟩)
    (l_S0 : K.lookup b0 = some ⟨.type "tuple", dS0, .seq #[.str "wait" tS0_0] nS0, sS0⟩)
    (l_S1 : K.lookup b1 = some ⟨.type "tuple", dS1, .seq #[.str "shift" tS1_0, .int (-1) tS1_1] nS1, sS1⟩)
    (l_S2 : K.lookup b2 = some ⟨.type "tuple", dS2, .seq #[.str "shift" tS2_0, .int (1) tS2_1] nS2, sS2⟩)
    (l_S3 : K.lookup b3 = some ⟨.type "tuple", dS3, .seq #[.str "in" tS3_0, .int (0) tS3_1] nS3, sS3⟩)
    (l_S4 : K.lookup b4 = some ⟨.type "tuple", dS4, .seq #[.str "in" tS4_0, .int (1) tS4_1] nS4, sS4⟩)
    (l_S5 : K.lookup b5 = some ⟨.type "tuple", dS5, .seq #[.str "out" tS5_0, .int (0) tS5_1] nS5, sS5⟩)
    (l_S6 : K.lookup b6 = some ⟨.type "tuple", dS6, .seq #[.str "out" tS6_0, .int (1) tS6_1] nS6, sS6⟩)
    (own : LamX.OwnTab K fa h) : LamX.LawAtS l w K CX0 10 63 "_law_script" mg fa h := by
  have e := hfa.symm.trans (PySem.W.mg_of X G a_law)
  cases e
  have F_Barred___init__ := fun_mk (st := s_Barred___init__) l_Barred___init__ c_Barred___init__ k_Barred___init__
  have b_Barred___init__ := F_Barred___init__.binds (ps := ["self", "rule", "number", "at"]) fun _ _ _ _ _ _ us hl => match us, hl with | [_, _, _, _], _ => rfl
  have F_begin := fun_mk (st := s_begin) l_begin c_begin k_begin
  have b_begin := F_begin.binds (ps := ["store"]) fun _ _ _ _ _ _ us hl => match us, hl with | [_], _ => rfl
  have D_begin : Dfs K mg "begin" s_begin ["store"] _ _ := ⟨F_begin, PySem.W.mg_of X G a_begin, b_begin⟩
  have F_barred := fun_mk (st := s_barred) l_barred c_barred k_barred
  have b_barred := F_barred.binds (ps := ["store", "state", "step"]) fun _ _ _ _ _ _ us hl => match us, hl with | [_, _, _], _ => rfl
  have D_barred : Dfs K mg "barred" s_barred ["store", "state", "step"] _ _ := ⟨F_barred, PySem.W.mg_of X G a_barred, b_barred⟩
  have F_played := fun_mk (st := s_played) l_played c_played k_played
  have b_played := F_played.binds (ps := ["store", "plan"]) fun _ _ _ _ _ _ us hl => match us, hl with | [_, _], _ => rfl
  have D_played : Dfs K mg "played" s_played ["store", "plan"] _ _ := ⟨F_played, PySem.W.mg_of X G a_played, b_played⟩
  have F_shifts := fun_mk (st := s_shifts) l_shifts c_shifts k_shifts
  have b_shifts := F_shifts.binds (ps := ["store", "plan"]) fun _ _ _ _ _ _ us hl => match us, hl with | [_, _], _ => rfl
  have D_shifts : Dfs K mg "shifts" s_shifts ["store", "plan"] _ _ := ⟨F_shifts, PySem.W.mg_of X G a_shifts, b_shifts⟩
  have F_is_end := fun_mk (st := s_is_end) l_is_end c_is_end k_is_end
  have b_is_end := F_is_end.binds (ps := ["store", "state"]) fun _ _ _ _ _ _ us hl => match us, hl with | [_, _], _ => rfl
  have D_is_end : Dfs K mg "is_end" s_is_end ["store", "state"] _ _ := ⟨F_is_end, PySem.W.mg_of X G a_is_end, b_is_end⟩
  have F_behind := fun_mk (st := s_behind) l_behind c_behind k_behind
  have b_behind := F_behind.binds (ps := ["store", "state", "step"]) fun _ _ _ _ _ _ us hl => match us, hl with | [_, _, _], _ => rfl
  have D_behind : Dfs K mg "behind" s_behind ["store", "state", "step"] _ _ := ⟨F_behind, PySem.W.mg_of X G a_behind, b_behind⟩
  have F_shifts_of := fun_mk (st := s_shifts_of) l_shifts_of c_shifts_of k_shifts_of
  have b_shifts_of := F_shifts_of.binds (ps := ["step"]) fun _ _ _ _ _ _ us hl => match us, hl with | [_], _ => rfl
  have D_shifts_of : Dfs K mg "shifts_of" s_shifts_of ["step"] _ _ := ⟨F_shifts_of, PySem.W.mg_of X G a_shifts_of, b_shifts_of⟩
  have F_refuse_no_steps := fun_mk (st := s_refuse_no_steps) l_refuse_no_steps c_refuse_no_steps k_refuse_no_steps
  have b_refuse_no_steps := F_refuse_no_steps.binds (ps := ["store", "plan"]) fun _ _ _ _ _ _ us hl => match us, hl with | [_, _], _ => rfl
  have D_refuse_no_steps : Dfs K mg "refuse_no_steps" s_refuse_no_steps ["store", "plan"] _ _ := ⟨F_refuse_no_steps, PySem.W.mg_of X G a_refuse_no_steps, b_refuse_no_steps⟩
  have F__all_steps := fun_mk (st := s__all_steps) l__all_steps c__all_steps k__all_steps
  have b__all_steps := F__all_steps.binds (ps := ["store"]) fun _ _ _ _ _ _ us hl => match us, hl with | [_], _ => rfl
  have D__all_steps : Dfs K mg "_all_steps" s__all_steps ["store"] _ _ := ⟨F__all_steps, PySem.W.mg_of X G a__all_steps, b__all_steps⟩
  have F__bar := fun_mk (st := s__bar) l__bar c__bar k__bar
  have b__bar := F__bar.binds (ps := ["store", "state", "step"]) fun _ _ _ _ _ _ us hl => match us, hl with | [_, _, _], _ => rfl
  have D__bar : Dfs K mg "_bar" s__bar ["store", "state", "step"] _ _ := ⟨F__bar, PySem.W.mg_of X G a__bar, b__bar⟩
  have F__bar_of_shift := fun_mk (st := s__bar_of_shift) l__bar_of_shift c__bar_of_shift k__bar_of_shift
  have b__bar_of_shift := F__bar_of_shift.binds (ps := ["store", "state", "by"]) fun _ _ _ _ _ _ us hl => match us, hl with | [_, _, _], _ => rfl
  have D__bar_of_shift : Dfs K mg "_bar_of_shift" s__bar_of_shift ["store", "state", "by"] _ _ := ⟨F__bar_of_shift, PySem.W.mg_of X G a__bar_of_shift, b__bar_of_shift⟩
  have F__bar_of_going_in := fun_mk (st := s__bar_of_going_in) l__bar_of_going_in c__bar_of_going_in k__bar_of_going_in
  have b__bar_of_going_in := F__bar_of_going_in.binds (ps := ["state", "crew"]) fun _ _ _ _ _ _ us hl => match us, hl with | [_, _], _ => rfl
  have D__bar_of_going_in : Dfs K mg "_bar_of_going_in" s__bar_of_going_in ["state", "crew"] _ _ := ⟨F__bar_of_going_in, PySem.W.mg_of X G a__bar_of_going_in, b__bar_of_going_in⟩
  have F__bar_of_going_out := fun_mk (st := s__bar_of_going_out) l__bar_of_going_out c__bar_of_going_out k__bar_of_going_out
  have b__bar_of_going_out := F__bar_of_going_out.binds (ps := ["state", "crew"]) fun _ _ _ _ _ _ us hl => match us, hl with | [_, _], _ => rfl
  have D__bar_of_going_out : Dfs K mg "_bar_of_going_out" s__bar_of_going_out ["state", "crew"] _ _ := ⟨F__bar_of_going_out, PySem.W.mg_of X G a__bar_of_going_out, b__bar_of_going_out⟩
  have F__bar_of_wish := fun_mk (st := s__bar_of_wish) l__bar_of_wish c__bar_of_wish k__bar_of_wish
  have b__bar_of_wish := F__bar_of_wish.binds (ps := ["store", "state", "wish"]) fun _ _ _ _ _ _ us hl => match us, hl with | [_, _, _], _ => rfl
  have D__bar_of_wish : Dfs K mg "_bar_of_wish" s__bar_of_wish ["store", "state", "wish"] _ _ := ⟨F__bar_of_wish, PySem.W.mg_of X G a__bar_of_wish, b__bar_of_wish⟩
  have F__bar_of_load := fun_mk (st := s__bar_of_load) l__bar_of_load c__bar_of_load k__bar_of_load
  have b__bar_of_load := F__bar_of_load.binds (ps := ["store", "done", "kind", "shelf"]) fun _ _ _ _ _ _ us hl => match us, hl with | [_, _, _, _], _ => rfl
  have D__bar_of_load : Dfs K mg "_bar_of_load" s__bar_of_load ["store", "done", "kind", "shelf"] _ _ := ⟨F__bar_of_load, PySem.W.mg_of X G a__bar_of_load, b__bar_of_load⟩
  have F__is_beside := fun_mk (st := s__is_beside) l__is_beside c__is_beside k__is_beside
  have b__is_beside := F__is_beside.binds (ps := ["aisle", "shelf", "side"]) fun _ _ _ _ _ _ us hl => match us, hl with | [_, _, _], _ => rfl
  have D__is_beside : Dfs K mg "_is_beside" s__is_beside ["aisle", "shelf", "side"] _ _ := ⟨F__is_beside, PySem.W.mg_of X G a__is_beside, b__is_beside⟩
  have F__has_now := fun_mk (st := s__has_now) l__has_now c__has_now k__has_now
  have b__has_now := F__has_now.binds (ps := ["store", "done", "shelf"]) fun _ _ _ _ _ _ us hl => match us, hl with | [_, _, _], _ => rfl
  have D__has_now : Dfs K mg "_has_now" s__has_now ["store", "done", "shelf"] _ _ := ⟨F__has_now, PySem.W.mg_of X G a__has_now, b__has_now⟩
  have F_Store___init__ := fun_mk (st := s_Store___init__) l_Store___init__ c_Store___init__ k_Store___init__
  have b_Store___init__ := F_Store___init__.binds (ps := ["self", "shelves", "aisle", "wishes"]) fun _ _ _ _ _ _ us hl => match us, hl with | [_, _, _, _], _ => rfl
  have F_Store_shelves := fun_mk (st := s_Store_shelves) l_Store_shelves c_Store_shelves k_Store_shelves
  have b_Store_shelves := F_Store_shelves.binds (ps := ["self"]) fun _ _ _ _ _ _ us hl => match us, hl with | [_], _ => rfl
  have F_Store_wishes := fun_mk (st := s_Store_wishes) l_Store_wishes c_Store_wishes k_Store_wishes
  have b_Store_wishes := F_Store_wishes.binds (ps := ["self"]) fun _ _ _ _ _ _ us hl => match us, hl with | [_], _ => rfl
  have F__refuse_no_store := fun_mk (st := s__refuse_no_store) l__refuse_no_store c__refuse_no_store k__refuse_no_store
  have b__refuse_no_store := F__refuse_no_store.binds (ps := ["shelves", "aisle", "wishes"]) fun _ _ _ _ _ _ us hl => match us, hl with | [_, _, _], _ => rfl
  have D__refuse_no_store : Dfs K mg "_refuse_no_store" s__refuse_no_store ["shelves", "aisle", "wishes"] _ _ := ⟨F__refuse_no_store, PySem.W.mg_of X G a__refuse_no_store, b__refuse_no_store⟩
  have F__is_shelf := fun_mk (st := s__is_shelf) l__is_shelf c__is_shelf k__is_shelf
  have b__is_shelf := F__is_shelf.binds (ps := ["shelf"]) fun _ _ _ _ _ _ us hl => match us, hl with | [_], _ => rfl
  have D__is_shelf : Dfs K mg "_is_shelf" s__is_shelf ["shelf"] _ _ := ⟨F__is_shelf, PySem.W.mg_of X G a__is_shelf, b__is_shelf⟩
  have F__is_wish := fun_mk (st := s__is_wish) l__is_wish c__is_wish k__is_wish
  have b__is_wish := F__is_wish.binds (ps := ["wish", "many_shelves", "many_wishes"]) fun _ _ _ _ _ _ us hl => match us, hl with | [_, _, _], _ => rfl
  have D__is_wish : Dfs K mg "_is_wish" s__is_wish ["wish", "many_shelves", "many_wishes"] _ _ := ⟨F__is_wish, PySem.W.mg_of X G a__is_wish, b__is_wish⟩
  have F__is_rising := fun_mk (st := s__is_rising) l__is_rising c__is_rising k__is_rising
  have b__is_rising := F__is_rising.binds (ps := ["numbers", "many"]) fun _ _ _ _ _ _ us hl => match us, hl with | [_, _], _ => rfl
  have D__is_rising : Dfs K mg "_is_rising" s__is_rising ["numbers", "many"] _ _ := ⟨F__is_rising, PySem.W.mg_of X G a__is_rising, b__is_rising⟩
  have F__law_taken := fun_mk (st := s__law_taken) l__law_taken c__law_taken k__law_taken
  have b__law_taken := F__law_taken.binds (ps := ["_law_row", "_law_many"]) fun _ _ _ _ _ _ us hl => match us, hl with | [_, _], _ => rfl
  have D__law_taken : Dfs K mg "_law_taken" s__law_taken ["_law_row", "_law_many"] _ _ := ⟨F__law_taken, PySem.W.mg_of X G a__law_taken, b__law_taken⟩
  have F__law_wish := fun_mk (st := s__law_wish) l__law_wish c__law_wish k__law_wish
  have b__law_wish := F__law_wish.binds (ps := ["_law_row", "_law_shelves", "_law_many"]) fun _ _ _ _ _ _ us hl => match us, hl with | [_, _, _], _ => rfl
  have D__law_wish : Dfs K mg "_law_wish" s__law_wish ["_law_row", "_law_shelves", "_law_many"] _ _ := ⟨F__law_wish, PySem.W.mg_of X G a__law_wish, b__law_wish⟩
  have F__law_store := fun_mk (st := s__law_store) l__law_store c__law_store k__law_store
  have b__law_store := F__law_store.binds (ps := ["_law_row"]) fun _ _ _ _ _ _ us hl => match us, hl with | [_], _ => rfl
  have D__law_store : Dfs K mg "_law_store" s__law_store ["_law_row"] _ _ := ⟨F__law_store, PySem.W.mg_of X G a__law_store, b__law_store⟩
  have F__law_made := fun_mk (st := s__law_made) l__law_made c__law_made k__law_made
  have b__law_made := F__law_made.binds (ps := ["_law_store_here"]) fun _ _ _ _ _ _ us hl => match us, hl with | [_], _ => rfl
  have D__law_made : Dfs K mg "_law_made" s__law_made ["_law_store_here"] _ _ := ⟨F__law_made, PySem.W.mg_of X G a__law_made, b__law_made⟩
  have F__law_goods := fun_mk (st := s__law_goods) l__law_goods c__law_goods k__law_goods
  have b__law_goods := F__law_goods.binds (ps := ["_law_store_here", "_law_shelf", "_law_done"]) fun _ _ _ _ _ _ us hl => match us, hl with | [_, _, _], _ => rfl
  have D__law_goods : Dfs K mg "_law_goods" s__law_goods ["_law_store_here", "_law_shelf", "_law_done"] _ _ := ⟨F__law_goods, PySem.W.mg_of X G a__law_goods, b__law_goods⟩
  have F__law_bar := fun_mk (st := s__law_bar) l__law_bar c__law_bar k__law_bar
  have b__law_bar := F__law_bar.binds (ps := ["_law_store_here", "_law_state", "_law_step"]) fun _ _ _ _ _ _ us hl => match us, hl with | [_, _, _], _ => rfl
  have D__law_bar : Dfs K mg "_law_bar" s__law_bar ["_law_store_here", "_law_state", "_law_step"] _ _ := ⟨F__law_bar, PySem.W.mg_of X G a__law_bar, b__law_bar⟩
  have F__law_bar_of_wish := fun_mk (st := s__law_bar_of_wish) l__law_bar_of_wish c__law_bar_of_wish k__law_bar_of_wish
  have b__law_bar_of_wish := F__law_bar_of_wish.binds (ps := ["_law_store_here", "_law_state", "_law_number"]) fun _ _ _ _ _ _ us hl => match us, hl with | [_, _, _], _ => rfl
  have D__law_bar_of_wish : Dfs K mg "_law_bar_of_wish" s__law_bar_of_wish ["_law_store_here", "_law_state", "_law_number"] _ _ := ⟨F__law_bar_of_wish, PySem.W.mg_of X G a__law_bar_of_wish, b__law_bar_of_wish⟩
  have F__law_behind := fun_mk (st := s__law_behind) l__law_behind c__law_behind k__law_behind
  have b__law_behind := F__law_behind.binds (ps := ["_law_store_here", "_law_state", "_law_step"]) fun _ _ _ _ _ _ us hl => match us, hl with | [_, _, _], _ => rfl
  have D__law_behind : Dfs K mg "_law_behind" s__law_behind ["_law_store_here", "_law_state", "_law_step"] _ _ := ⟨F__law_behind, PySem.W.mg_of X G a__law_behind, b__law_behind⟩
  have F__law_every := fun_mk (st := s__law_every) l__law_every c__law_every k__law_every
  have b__law_every := F__law_every.binds (ps := ["_law_store_here"]) fun _ _ _ _ _ _ us hl => match us, hl with | [_], _ => rfl
  have D__law_every : Dfs K mg "_law_every" s__law_every ["_law_store_here"] _ _ := ⟨F__law_every, PySem.W.mg_of X G a__law_every, b__law_every⟩
  have F__law_steps := fun_mk (st := s__law_steps) l__law_steps c__law_steps k__law_steps
  have b__law_steps := F__law_steps.binds (ps := ["_law_store_here", "_law_state"]) fun _ _ _ _ _ _ us hl => match us, hl with | [_, _], _ => rfl
  have D__law_steps : Dfs K mg "_law_steps" s__law_steps ["_law_store_here", "_law_state"] _ _ := ⟨F__law_steps, PySem.W.mg_of X G a__law_steps, b__law_steps⟩
  have F__law_begin := fun_mk (st := s__law_begin) l__law_begin c__law_begin k__law_begin
  have b__law_begin := F__law_begin.binds (ps := ["_law_store_here"]) fun _ _ _ _ _ _ us hl => match us, hl with | [_], _ => rfl
  have D__law_begin : Dfs K mg "_law_begin" s__law_begin ["_law_store_here"] _ _ := ⟨F__law_begin, PySem.W.mg_of X G a__law_begin, b__law_begin⟩
  have F__law_none := fun_mk (st := s__law_none) l__law_none c__law_none k__law_none
  have b__law_none := F__law_none.binds (ps := ["_law_row", "_law_store_here"]) fun _ _ _ _ _ _ us hl => match us, hl with | [_, _], _ => rfl
  have D__law_none : Dfs K mg "_law_none" s__law_none ["_law_row", "_law_store_here"] _ _ := ⟨F__law_none, PySem.W.mg_of X G a__law_none, b__law_none⟩
  have F__law_word := fun_mk (st := s__law_word) l__law_word c__law_word k__law_word
  have b__law_word := F__law_word.binds (ps := ["_law_work"]) fun _ _ _ _ _ _ us hl => match us, hl with | [_], _ => rfl
  have D__law_word : Dfs K mg "_law_word" s__law_word ["_law_work"] _ _ := ⟨F__law_word, PySem.W.mg_of X G a__law_word, b__law_word⟩
  have F__law_due := fun_mk (st := s__law_due) l__law_due c__law_due k__law_due
  have b__law_due := F__law_due.binds (ps := ["_law_store_here", "_law_plan"]) fun _ _ _ _ _ _ us hl => match us, hl with | [_, _], _ => rfl
  have D__law_due : Dfs K mg "_law_due" s__law_due ["_law_store_here", "_law_plan"] _ _ := ⟨F__law_due, PySem.W.mg_of X G a__law_due, b__law_due⟩
  have T : Tx K mg := ⟨PySem.W.mg_none_of X G z_len, PySem.W.mg_none_of X G z_list, PySem.W.mg_none_of X G z_tuple, PySem.W.mg_none_of X G z_sorted, PySem.W.mg_none_of X G z_sum, PySem.W.mg_none_of X G z_min, PySem.W.mg_none_of X G z_max, PySem.W.mg_none_of X G z_int, PySem.W.mg_none_of X G z_range, PySem.W.mg_none_of X G z_enumerate, PySem.W.mg_none_of X G z_isinstance, PySem.W.mg_none_of X G z_ValueError⟩
  have Tk : Tc K mg := ⟨⟨_, PySem.W.mg_of X G c_MOST_SHELVES⟩, ⟨_, PySem.W.mg_of X G c_MOST_ROOM⟩, ⟨_, PySem.W.mg_of X G c_MOST_WISHES⟩, ⟨_, PySem.W.mg_of X G c_MOST_KEEP⟩, ⟨_, PySem.W.mg_of X G g_KINDS, wr_tup (xs := [.str "fetch", .str "bring"]) l_KINDS (by simp) (.cons ⟨_, rfl⟩ (.cons ⟨_, rfl⟩ .nil))⟩, ⟨_, PySem.W.mg_of X G g_SIDES, wr_tup (xs := [.str "left", .str "right", .str "any"]) l_SIDES (by simp) (.cons ⟨_, rfl⟩ (.cons ⟨_, rfl⟩ (.cons ⟨_, rfl⟩ .nil)))⟩⟩
  have Tp : Ts K mg := ⟨⟨_, [.ref b0, .ref b1, .ref b2, .ref b3, .ref b4, .ref b5, .ref b6], PySem.W.mg_of X G g_SS, fun H => ⟨wr_tup (xs := [.ref b0, .ref b1, .ref b2, .ref b3, .ref b4, .ref b5, .ref b6]) l_SS (by simp) (.cons rfl (.cons rfl (.cons rfl (.cons rfl (.cons rfl (.cons rfl (.cons rfl .nil))))))) H, (.cons (pair1 (wr_tup (xs := [.str "wait"]) l_S0 (by simp) (.cons ⟨_, rfl⟩ .nil) H)) (.cons (two_dp (wr_tup (xs := [.str "shift", .int (-1)]) l_S1 (by simp) (.cons ⟨_, rfl⟩ (.cons ⟨_, rfl⟩ .nil)) H)) (.cons (two_dp (wr_tup (xs := [.str "shift", .int (1)]) l_S2 (by simp) (.cons ⟨_, rfl⟩ (.cons ⟨_, rfl⟩ .nil)) H)) (.cons (two_dp (wr_tup (xs := [.str "in", .int (0)]) l_S3 (by simp) (.cons ⟨_, rfl⟩ (.cons ⟨_, rfl⟩ .nil)) H)) (.cons (two_dp (wr_tup (xs := [.str "in", .int (1)]) l_S4 (by simp) (.cons ⟨_, rfl⟩ (.cons ⟨_, rfl⟩ .nil)) H)) (.cons (two_dp (wr_tup (xs := [.str "out", .int (0)]) l_S5 (by simp) (.cons ⟨_, rfl⟩ (.cons ⟨_, rfl⟩ .nil)) H)) (.cons (two_dp (wr_tup (xs := [.str "out", .int (1)]) l_S6 (by simp) (.cons ⟨_, rfl⟩ (.cons ⟨_, rfl⟩ .nil)) H)) .nil)))))))⟩⟩⟩
  have TS : TSx K mg C f_Store___init__ f_Store_shelves f_Store_wishes _ _ _ := ⟨⟨pgC, hdC, poC, saC⟩, ⟨mkC, a_Store___init__, i_Store___init__, kcC⟩, PySem.W.mg_of X G aC, nS, nW, nA, ⟨a_Store_shelves, i_Store_shelves, k_Store_shelves⟩, ⟨a_Store_wishes, i_Store_wishes, k_Store_wishes⟩, b_Store___init__, b_Store_shelves, b_Store_wishes⟩
  have Kn : Kin K mg cA cB cS cT cR := ⟨⟨PySem.W.mg_of X G g_AisleError, kp_AisleError, ex_AisleError, ty_AisleError, is_AisleError⟩, ⟨PySem.W.mg_of X G g_BadStore, kp_BadStore, ex_BadStore, ty_BadStore, is_BadStore⟩, ⟨PySem.W.mg_of X G g_BadStep, kp_BadStep, ex_BadStep, ty_BadStep, is_BadStep⟩, ⟨PySem.W.mg_of X G g_BadText, kp_BadText, ex_BadText, ty_BadText, is_BadText⟩, ⟨PySem.W.mg_of X G g_Barred, kp_Barred, ex_Barred, ty_Barred, is_Barred⟩⟩
  have KS : KinS K cA cB cS cT cR := ⟨subSA, subSB, subSS, subST, subSR, subSV⟩
  have KR : KinR K cA cB cS cT cR := ⟨subRA, subRB, subRS, subRT, subRR, subRV⟩
  have N_BadStep := Kn.S
  have N_Barred := Kn.R
  have DS : ExD K cS := ⟨is_BadStep, xgBadStep, xkBadStep, ex_BadStep, xdBadStep, xcBadStep, xsp, xtk, xmBadStep⟩
  refine ⟨PySem.W.fnOf "law" "law" (defArgs s_law) (defBody s_law) (defScope s_law) .none kV_law dc_law pm_law an_law (.ref cL) ct_law, [(cL, Pt)], spLaw7 K Pt, fun p hp => ?_, fun p hp => ?_, fun p hp => ?_, fun s v => .of_eq rfl, fun H a ns _ _ hT hS => ⟨a, ns, rfl, hS, hT (cL, Pt) List.mem_cons_self, fun _ => rfl⟩, fun base _ _ tb => ?_⟩
  · rw [List.mem_singleton] at hp
    rw [hp]
    exact own cL Pt _ _ _ _ _ _ l_law rfl rfl kcL v11
  · rw [List.mem_singleton] at hp
    rw [hp]
    exact nP
  · rw [List.mem_singleton] at hp
    rw [hp]
    exact PySem.W.codeHd_of_K X hdP
  have TB := tb (cL, Pt) List.mem_cons_self
  have G_Barred_init := ok_Barred_init (P := l.prog) (w := w) (base := base) (mg := mg) (F := F_Barred___init__) (n1 := xn0Barred) (n2 := xn1Barred) (n3 := xn2Barred)
  have X_Barred : Xi3 l.prog w K mg base cR f_Barred___init__ _ "rule" "number" "at" (spX3 K cR "rule" "number" "at") := ⟨⟨⟨nmBarred, qBarred, NBarred, bsBarred, _, snBarred, sbBarred, abBarred, coBarred, ddBarred, m0Barred, m1Barred, m2Barred, m3Barred, m5Barred, xLBarred, by first | rfl | with_unfolding_all rfl⟩, xsBarred, ex_Barred, ty_Barred, kp_Barred⟩, ⟨is_Barred, xgBarred, xkBarred, ex_Barred, xdBarred, xcBarred, xsp, xtk, xmBarred⟩, a_Barred___init__, i_Barred___init__, xn0Barred, xn1Barred, xn2Barred, b_Barred___init__, G_Barred_init⟩
  have C__law_taken := ok__law_taken (P := l.prog) (w := w) (base := base) (D := D__law_taken) (T := T)
  have C__law_wish := ok__law_wish (P := l.prog) (w := w) (base := base) (D := D__law_wish) (T := T) (C__law_taken := C__law_taken)
  have C__law_store := ok__law_store (P := l.prog) (w := w) (base := base) (D := D__law_store) (T := T) (C__law_taken := C__law_taken) (C__law_wish := C__law_wish)
  have C__is_rising := ok__is_rising (P := l.prog) (w := w) (base := base) (D := D__is_rising)
  have C__is_shelf := ok__is_shelf (P := l.prog) (w := w) (base := base) (D := D__is_shelf) (T := T) (Tk := Tk)
  have C__is_wish := ok__is_wish (P := l.prog) (w := w) (base := base) (D := D__is_wish) (T := T) (Tk := Tk) (C__is_rising := C__is_rising)
  have C__refuse_no_store := ok__refuse_no_store (P := l.prog) (w := w) (base := base) (D := D__refuse_no_store) (T := T) (Tk := Tk) (C__is_shelf := C__is_shelf) (C__is_wish := C__is_wish)
  have G_init := ok_Store_init (P := l.prog) (w := w) (base := base) (F := F_Store___init__) (T := T) (TS := TS) (C__refuse_no_store := C__refuse_no_store)
  have G_shelves := ok_Store_shelves (P := l.prog) (w := w) (base := base) (F := F_Store_shelves) (T := T) (TS := TS)
  have G_wishes := ok_Store_wishes (P := l.prog) (w := w) (base := base) (F := F_Store_wishes) (T := T) (TS := TS)
  have C__law_made := ok__law_made (P := l.prog) (w := w) (base := base) (D := D__law_made) (T := T) (TS := TS) (G_init := G_init)
  have C_fetch := ok_fetch 
  have C_bring := ok_bring 
  have C_left := ok_left 
  have C_right := ok_right 
  have C_any := ok_any 
  have C__has_now := ok__has_now (P := l.prog) (w := w) (base := base) (D := D__has_now) (T := T) (TS := TS) (G_shelves := G_shelves) (G_wishes := G_wishes)
  have C__is_beside := ok__is_beside (P := l.prog) (w := w) (base := base) (D := D__is_beside)
  have C_wait := ok_wait 
  have C_shift := ok_shift 
  have C_in := ok_in 
  have C_out := ok_out 
  have C_do := ok_do 
  have C__bar_of_load := ok__bar_of_load (P := l.prog) (w := w) (base := base) (D := D__bar_of_load) (TS := TS) (G_shelves := G_shelves) (C__has_now := C__has_now)
  have C__bar_of_wish := ok__bar_of_wish (P := l.prog) (w := w) (base := base) (D := D__bar_of_wish) (TS := TS) (G_wishes := G_wishes) (C__bar_of_load := C__bar_of_load) (C__is_beside := C__is_beside)
  have C__bar_of_going_in := ok__bar_of_going_in (P := l.prog) (w := w) (base := base) (D := D__bar_of_going_in)
  have C__bar_of_going_out := ok__bar_of_going_out (P := l.prog) (w := w) (base := base) (D := D__bar_of_going_out)
  have C__bar_of_shift := ok__bar_of_shift (P := l.prog) (w := w) (base := base) (D := D__bar_of_shift) (T := T) (TS := TS) (G_shelves := G_shelves)
  have C__bar := ok__bar (P := l.prog) (w := w) (base := base) (D := D__bar) (C__bar_of_shift := C__bar_of_shift) (C__bar_of_going_in := C__bar_of_going_in) (C__bar_of_going_out := C__bar_of_going_out) (C__bar_of_wish := C__bar_of_wish)
  have C_begin := ok_begin (P := l.prog) (w := w) (base := base) (D := D_begin) (TS := TS)
  have C__all_steps := ok__all_steps (P := l.prog) (w := w) (base := base) (D := D__all_steps) (T := T) (Tp := Tp) (TS := TS) (G_wishes := G_wishes)
  have C_behind := ok_behind (P := l.prog) (w := w) (base := base) (D := D_behind) (T := T) (TS := TS) (G_wishes := G_wishes)
  have C__law_goods := ok__law_goods (P := l.prog) (w := w) (base := base) (D := D__law_goods) (T := T)
  have C__law_bar_of_wish := ok__law_bar_of_wish (P := l.prog) (w := w) (base := base) (D := D__law_bar_of_wish) (T := T) (C__law_goods := C__law_goods)
  have C__law_bar := ok__law_bar (P := l.prog) (w := w) (base := base) (D := D__law_bar) (T := T) (C__law_bar_of_wish := C__law_bar_of_wish)
  have C__law_begin := ok__law_begin (P := l.prog) (w := w) (base := base) (D := D__law_begin)
  have C__law_every := ok__law_every (P := l.prog) (w := w) (base := base) (D := D__law_every) (T := T)
  have C__law_steps := ok__law_steps (P := l.prog) (w := w) (base := base) (D := D__law_steps) (C__law_every := C__law_every) (C__law_bar := C__law_bar)
  have C_end := ok_end 
  have C_sticks := ok_sticks 
  have C_kept := ok_kept 
  have C_is := ok_is 
  have C_isnt := ok_isnt 
  have C_done := ok_done 
  have C_after := ok_after 
  have C_crew := ok_crew 
  have C_aisle := ok_aisle 
  have C_empty := ok_empty 
  have C_full := ok_full 
  have C_refuse_no_steps := ok_refuse_no_steps (P := l.prog) (w := w) (base := base) (D := D_refuse_no_steps) (N_BadStep := N_BadStep) (XS_BadStep := XS_BadStep) (C__all_steps := C__all_steps)
  have C_barred := ok_barred (P := l.prog) (w := w) (base := base) (D := D_barred) (C_refuse_no_steps := C_refuse_no_steps) (C__bar := C__bar)
  have C_shifts_of := ok_shifts_of (P := l.prog) (w := w) (base := base) (D := D_shifts_of)
  have C_shifts := ok_shifts (P := l.prog) (w := w) (base := base) (D := D_shifts) (T := T) (C_refuse_no_steps := C_refuse_no_steps) (C_shifts_of := C_shifts_of)
  have C_is_end := ok_is_end (P := l.prog) (w := w) (base := base) (D := D_is_end) (T := T) (TS := TS) (G_wishes := G_wishes)
  have C_played := ok_played (P := l.prog) (w := w) (base := base) (D := D_played) (T := T) (X_Barred := X_Barred) (N_Barred := N_Barred) (C_refuse_no_steps := C_refuse_no_steps) (C_begin := C_begin) (C__bar := C__bar) (C_behind := C_behind)
  have C__law_behind := ok__law_behind (P := l.prog) (w := w) (base := base) (D := D__law_behind) (T := T)
  have C__law_due := ok__law_due (P := l.prog) (w := w) (base := base) (D := D__law_due) (T := T) (C__law_begin := C__law_begin) (C__law_bar := C__law_bar) (C__law_behind := C__law_behind)
  have C_go := ok_go 
  have C_stay := ok_stay 
  have C__law_none := ok__law_none (P := l.prog) (w := w) (base := base) (D := D__law_none) (T := T) (C__law_taken := C__law_taken)
  exact ok_law (P := l.prog) (w := w) (base := base) (lk := l_law) (hcd := c_law) (TB := TB) (T := T) (Kn := Kn) (KS := KS) (KR := KR) (DS := DS) (X_Barred := X_Barred) (D__law_word := D__law_word) (C__law_taken := C__law_taken) (C__law_store := C__law_store) (C__law_made := C__law_made) (C__law_begin := C__law_begin) (C__law_every := C__law_every) (C__law_bar := C__law_bar) (C__law_steps := C__law_steps) (C__law_behind := C__law_behind) (C__law_none := C__law_none) (C__law_due := C__law_due) (C_is_end := C_is_end) (C_played := C_played) (C_shifts := C_shifts) (C_barred := C_barred)
end Ais
open PySem PySem.W PyProof.Rows
set_option maxRecDepth 100000 in
set_option maxHeartbeats 0 in
theorem PySem.Challenge.cw_aisleshift_k07_plans_played_holds : PySem.Challenge.rw_aisleshift_k07_plans_played.Holds := by
  w_on; o_law; k_head; (case hw => w_witness2)
  k_fill
  refine LamX.walk_ofOwn (l := PySem.Challenge.rw_aisleshift_k07_plans_played) (n := 63) (k := 10) (x := "_law_script") (CX := fun _ => L2.CX0) rfl (by decide) rfl ⟨rfl, by decide, by decide⟩ (by decide +kernel) (fun w h Y => PySem.W.km_in_of Y) ?F (fun _ _ _ _ _ h => h)
  case F =>
    intro w mg fa h Y KX G hmg own
    refine' Ais.all_mk KX G hmg ?aC ?g_AisleError ?kp_AisleError ?ex_AisleError ?ty_AisleError ?is_AisleError ?g_BadStore ?kp_BadStore ?ex_BadStore ?ty_BadStore ?is_BadStore ?g_BadStep ?kp_BadStep ?ex_BadStep ?ty_BadStep ?is_BadStep ?g_BadText ?kp_BadText ?ex_BadText ?ty_BadText ?is_BadText ?g_Barred ?kp_Barred ?ex_Barred ?ty_Barred ?is_Barred ?subSA ?subSB ?subSS ?subST ?subSR ?subSV ?subRA ?subRB ?subRS ?subRT ?subRR ?subRV ?xsp ?xtk ?xgBadStep ?xkBadStep ?xdBadStep ?xcBadStep ?xmBadStep ?XS_BadStep ?xLBarred ?xsBarred ?xgBarred ?xkBarred ?xdBarred ?xcBarred ?xmBarred ?xn0Barred ?xn1Barred ?xn2Barred ?a_Barred___init__ ?i_Barred___init__ ?l_Barred___init__ ?c_Barred___init__ ?k_Barred___init__ ?a_begin ?l_begin ?c_begin ?k_begin ?a_barred ?l_barred ?c_barred ?k_barred ?a_played ?l_played ?c_played ?k_played ?a_shifts ?l_shifts ?c_shifts ?k_shifts ?a_is_end ?l_is_end ?c_is_end ?k_is_end ?a_behind ?l_behind ?c_behind ?k_behind ?a_shifts_of ?l_shifts_of ?c_shifts_of ?k_shifts_of ?a_refuse_no_steps ?l_refuse_no_steps ?c_refuse_no_steps ?k_refuse_no_steps ?a__all_steps ?l__all_steps ?c__all_steps ?k__all_steps ?a__bar ?l__bar ?c__bar ?k__bar ?a__bar_of_shift ?l__bar_of_shift ?c__bar_of_shift ?k__bar_of_shift ?a__bar_of_going_in ?l__bar_of_going_in ?c__bar_of_going_in ?k__bar_of_going_in ?a__bar_of_going_out ?l__bar_of_going_out ?c__bar_of_going_out ?k__bar_of_going_out ?a__bar_of_wish ?l__bar_of_wish ?c__bar_of_wish ?k__bar_of_wish ?a__bar_of_load ?l__bar_of_load ?c__bar_of_load ?k__bar_of_load ?a__is_beside ?l__is_beside ?c__is_beside ?k__is_beside ?a__has_now ?l__has_now ?c__has_now ?k__has_now ?a_Store___init__ ?i_Store___init__ ?l_Store___init__ ?c_Store___init__ ?k_Store___init__ ?a_Store_shelves ?i_Store_shelves ?l_Store_shelves ?c_Store_shelves ?k_Store_shelves ?a_Store_wishes ?i_Store_wishes ?l_Store_wishes ?c_Store_wishes ?k_Store_wishes ?a__refuse_no_store ?l__refuse_no_store ?c__refuse_no_store ?k__refuse_no_store ?a__is_shelf ?l__is_shelf ?c__is_shelf ?k__is_shelf ?a__is_wish ?l__is_wish ?c__is_wish ?k__is_wish ?a__is_rising ?l__is_rising ?c__is_rising ?k__is_rising ?a__law_taken ?l__law_taken ?c__law_taken ?k__law_taken ?a__law_wish ?l__law_wish ?c__law_wish ?k__law_wish ?a__law_store ?l__law_store ?c__law_store ?k__law_store ?a__law_made ?l__law_made ?c__law_made ?k__law_made ?a__law_goods ?l__law_goods ?c__law_goods ?k__law_goods ?a__law_bar ?l__law_bar ?c__law_bar ?k__law_bar ?a__law_bar_of_wish ?l__law_bar_of_wish ?c__law_bar_of_wish ?k__law_bar_of_wish ?a__law_behind ?l__law_behind ?c__law_behind ?k__law_behind ?a__law_every ?l__law_every ?c__law_every ?k__law_every ?a__law_steps ?l__law_steps ?c__law_steps ?k__law_steps ?a__law_begin ?l__law_begin ?c__law_begin ?k__law_begin ?a__law_none ?l__law_none ?c__law_none ?k__law_none ?a__law_word ?l__law_word ?c__law_word ?k__law_word ?a__law_due ?l__law_due ?c__law_due ?k__law_due ?a_law ?l_law ?c_law ?k_law ?kcL ?v11 ?nP ?hdP ?pgC ?hdC ?poC ?saC ?mkC ?kcC ?nS ?nW ?nA ?z_len ?z_list ?z_tuple ?z_sorted ?z_sum ?z_min ?z_max ?z_int ?z_range ?z_enumerate ?z_isinstance ?z_ValueError ?c_MOST_SHELVES ?c_MOST_ROOM ?c_MOST_WISHES ?c_MOST_KEEP ?g_KINDS ?l_KINDS ?g_SIDES ?l_SIDES ?g_SS ?l_SS ?l_S0 ?l_S1 ?l_S2 ?l_S3 ?l_S4 ?l_S5 ?l_S6 own
    (case aC => k_is)
    (case g_AisleError => k_is)
    (case kp_AisleError => k_is)
    (case ex_AisleError => k_is)
    (case ty_AisleError => k_is)
    (case is_AisleError => k_is)
    (case g_BadStore => k_is)
    (case kp_BadStore => k_is)
    (case ex_BadStore => k_is)
    (case ty_BadStore => k_is)
    (case is_BadStore => k_is)
    (case g_BadStep => k_is)
    (case kp_BadStep => k_is)
    (case ex_BadStep => k_is)
    (case ty_BadStep => k_is)
    (case is_BadStep => k_is)
    (case g_BadText => k_is)
    (case kp_BadText => k_is)
    (case ex_BadText => k_is)
    (case ty_BadText => k_is)
    (case is_BadText => k_is)
    (case g_Barred => k_is)
    (case kp_Barred => k_is)
    (case ex_Barred => k_is)
    (case ty_Barred => k_is)
    (case is_Barred => k_is)
    (case subSA => k_is)
    (case subSB => k_is)
    (case subSS => k_is)
    (case subST => k_is)
    (case subSR => k_is)
    (case subSV => k_is)
    (case subRA => k_is)
    (case subRB => k_is)
    (case subRS => k_is)
    (case subRT => k_is)
    (case subRR => k_is)
    (case subRV => k_is)
    (case xsp => k_is)
    (case xtk => k_is)
    (case xgBadStep => k_is)
    (case xkBadStep => k_is)
    (case xdBadStep => k_is)
    (case xcBadStep => k_is)
    (case xmBadStep => k_is)
    (case XS_BadStep => k_exc)
    (case xLBarred => k_is)
    (case xsBarred => k_is)
    (case xgBarred => k_is)
    (case xkBarred => k_is)
    (case xdBarred => k_is)
    (case xcBarred => k_is)
    (case xmBarred => k_is)
    (case xn0Barred => k_is)
    (case xn1Barred => k_is)
    (case xn2Barred => k_is)
    (case a_Barred___init__ => k_is)
    (case i_Barred___init__ => k_is)
    (case l_Barred___init__ => k_is)
    (case c_Barred___init__ => k_is)
    (case k_Barred___init__ => k_is)
    (case a_begin => k_is)
    (case l_begin => k_is)
    (case c_begin => k_is)
    (case k_begin => k_is)
    (case a_barred => k_is)
    (case l_barred => k_is)
    (case c_barred => k_is)
    (case k_barred => k_is)
    (case a_played => k_is)
    (case l_played => k_is)
    (case c_played => k_is)
    (case k_played => k_is)
    (case a_shifts => k_is)
    (case l_shifts => k_is)
    (case c_shifts => k_is)
    (case k_shifts => k_is)
    (case a_is_end => k_is)
    (case l_is_end => k_is)
    (case c_is_end => k_is)
    (case k_is_end => k_is)
    (case a_behind => k_is)
    (case l_behind => k_is)
    (case c_behind => k_is)
    (case k_behind => k_is)
    (case a_shifts_of => k_is)
    (case l_shifts_of => k_is)
    (case c_shifts_of => k_is)
    (case k_shifts_of => k_is)
    (case a_refuse_no_steps => k_is)
    (case l_refuse_no_steps => k_is)
    (case c_refuse_no_steps => k_is)
    (case k_refuse_no_steps => k_is)
    (case a__all_steps => k_is)
    (case l__all_steps => k_is)
    (case c__all_steps => k_is)
    (case k__all_steps => k_is)
    (case a__bar => k_is)
    (case l__bar => k_is)
    (case c__bar => k_is)
    (case k__bar => k_is)
    (case a__bar_of_shift => k_is)
    (case l__bar_of_shift => k_is)
    (case c__bar_of_shift => k_is)
    (case k__bar_of_shift => k_is)
    (case a__bar_of_going_in => k_is)
    (case l__bar_of_going_in => k_is)
    (case c__bar_of_going_in => k_is)
    (case k__bar_of_going_in => k_is)
    (case a__bar_of_going_out => k_is)
    (case l__bar_of_going_out => k_is)
    (case c__bar_of_going_out => k_is)
    (case k__bar_of_going_out => k_is)
    (case a__bar_of_wish => k_is)
    (case l__bar_of_wish => k_is)
    (case c__bar_of_wish => k_is)
    (case k__bar_of_wish => k_is)
    (case a__bar_of_load => k_is)
    (case l__bar_of_load => k_is)
    (case c__bar_of_load => k_is)
    (case k__bar_of_load => k_is)
    (case a__is_beside => k_is)
    (case l__is_beside => k_is)
    (case c__is_beside => k_is)
    (case k__is_beside => k_is)
    (case a__has_now => k_is)
    (case l__has_now => k_is)
    (case c__has_now => k_is)
    (case k__has_now => k_is)
    (case a_Store___init__ => k_is)
    (case i_Store___init__ => k_is)
    (case l_Store___init__ => k_is)
    (case c_Store___init__ => k_is)
    (case k_Store___init__ => k_is)
    (case a_Store_shelves => k_is)
    (case i_Store_shelves => k_is)
    (case l_Store_shelves => k_is)
    (case c_Store_shelves => k_is)
    (case k_Store_shelves => k_is)
    (case a_Store_wishes => k_is)
    (case i_Store_wishes => k_is)
    (case l_Store_wishes => k_is)
    (case c_Store_wishes => k_is)
    (case k_Store_wishes => k_is)
    (case a__refuse_no_store => k_is)
    (case l__refuse_no_store => k_is)
    (case c__refuse_no_store => k_is)
    (case k__refuse_no_store => k_is)
    (case a__is_shelf => k_is)
    (case l__is_shelf => k_is)
    (case c__is_shelf => k_is)
    (case k__is_shelf => k_is)
    (case a__is_wish => k_is)
    (case l__is_wish => k_is)
    (case c__is_wish => k_is)
    (case k__is_wish => k_is)
    (case a__is_rising => k_is)
    (case l__is_rising => k_is)
    (case c__is_rising => k_is)
    (case k__is_rising => k_is)
    (case a__law_taken => k_is)
    (case l__law_taken => k_is)
    (case c__law_taken => k_is)
    (case k__law_taken => k_is)
    (case a__law_wish => k_is)
    (case l__law_wish => k_is)
    (case c__law_wish => k_is)
    (case k__law_wish => k_is)
    (case a__law_store => k_is)
    (case l__law_store => k_is)
    (case c__law_store => k_is)
    (case k__law_store => k_is)
    (case a__law_made => k_is)
    (case l__law_made => k_is)
    (case c__law_made => k_is)
    (case k__law_made => k_is)
    (case a__law_goods => k_is)
    (case l__law_goods => k_is)
    (case c__law_goods => k_is)
    (case k__law_goods => k_is)
    (case a__law_bar => k_is)
    (case l__law_bar => k_is)
    (case c__law_bar => k_is)
    (case k__law_bar => k_is)
    (case a__law_bar_of_wish => k_is)
    (case l__law_bar_of_wish => k_is)
    (case c__law_bar_of_wish => k_is)
    (case k__law_bar_of_wish => k_is)
    (case a__law_behind => k_is)
    (case l__law_behind => k_is)
    (case c__law_behind => k_is)
    (case k__law_behind => k_is)
    (case a__law_every => k_is)
    (case l__law_every => k_is)
    (case c__law_every => k_is)
    (case k__law_every => k_is)
    (case a__law_steps => k_is)
    (case l__law_steps => k_is)
    (case c__law_steps => k_is)
    (case k__law_steps => k_is)
    (case a__law_begin => k_is)
    (case l__law_begin => k_is)
    (case c__law_begin => k_is)
    (case k__law_begin => k_is)
    (case a__law_none => k_is)
    (case l__law_none => k_is)
    (case c__law_none => k_is)
    (case k__law_none => k_is)
    (case a__law_word => k_is)
    (case l__law_word => k_is)
    (case c__law_word => k_is)
    (case k__law_word => k_is)
    (case a__law_due => k_is)
    (case l__law_due => k_is)
    (case c__law_due => k_is)
    (case k__law_due => k_is)
    (case a_law => k_is)
    (case l_law => k_is)
    (case c_law => k_is)
    (case k_law => k_is)
    (case kcL => k_is)
    (case v11 => first | rfl | kernel_rfl)
    (case nP => kernel_rfl)
    (case hdP => kernel_rfl)
    (case pgC => k_is)
    (case hdC => k_is)
    (case poC => k_is)
    (case saC => k_is)
    (case mkC => k_is)
    (case kcC => k_is)
    (case nS => k_is)
    (case nW => k_is)
    (case nA => k_is)
    (case z_len => k_is)
    (case z_list => k_is)
    (case z_tuple => k_is)
    (case z_sorted => k_is)
    (case z_sum => k_is)
    (case z_min => k_is)
    (case z_max => k_is)
    (case z_int => k_is)
    (case z_range => k_is)
    (case z_enumerate => k_is)
    (case z_isinstance => k_is)
    (case z_ValueError => k_is)
    (case c_MOST_SHELVES => k_is)
    (case c_MOST_ROOM => k_is)
    (case c_MOST_WISHES => k_is)
    (case c_MOST_KEEP => k_is)
    (case g_KINDS => k_is)
    (case l_KINDS => k_is)
    (case g_SIDES => k_is)
    (case l_SIDES => k_is)
    (case g_SS => k_is)
    (case l_SS => k_is)
    (case l_S0 => k_is)
    (case l_S1 => k_is)
    (case l_S2 => k_is)
    (case l_S3 => k_is)
    (case l_S4 => k_is)
    (case l_S5 => k_is)
    (case l_S6 => k_is)
#print axioms PySem.Challenge.cw_aisleshift_k07_plans_played_holds
