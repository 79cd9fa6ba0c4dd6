import PyProof.Rows.All
import Wide.All
import OpenK.AllK
import Wide.FinOn
import HandS.ForMost
import HandS.IsInst
import HandS.Deep
import HandS.TupAny
import HandS.Star
import HandS.Codes
import HandS.SetFor
import KE.KDictKeyed
import KE.KDictWalk
import KE.KDictSum
import HandS.SortOrd
import KE.SortData
import KE.KDictCopyH
import KE.KDictDisplayH
import KE.DatumOrd
import HandS.Conv
import KE.DataMinMax
import HandS.DictTup
import PyProof.DictCompW
import HandS.DictComp
import HandS.Gcd
import HandS.Style
import HandS.TupLe
import PySem.Challenge.RW_aisleshift_k12_whole_seen_from_the_other
set_option Elab.async false
set_option linter.all false
set_option maxRecDepth 100000
set_option maxHeartbeats 4000000
namespace Ais
open PySem PySem.Spec PyProof.Rows L2

/-- a def that keeps a promise, as its callers use it -/
structure Cal (P : Program) (w : World) (K : PySem.W.Frag) (mg : Str → Option Value) (base : Heap) (k : Nat) (x : Str) (ps : List Str) (sp : Sp) (f : Addr) (fd : FuncData) : Prop where
  G : FnOk P w K mg base CX0 k f fd ps sp
  g : mg x = some (.ref f)
  kp : PySem.W.keepIn K (.ref f) = true
  b : Binds K fd ps []
/-- a def as it stands in the text -/
structure Dfs (K : PySem.W.Frag) (mg : Str → Option Value) (x : Str) (st : Stmt) (ps : List Str) (f : Addr) (fd : FuncData) : Prop where
  F : Fun K x x st f fd
  g : mg x = some (.ref f)
  b : Binds K fd ps []
theorem Dfs.cal {P : Program} {w : World} {K : PySem.W.Frag} {mg : Str → Option Value} {base : Heap} {k : Nat} {x : Str} {ps : List Str} {sp : Sp} {f : Addr} {fd : FuncData} {st : Stmt} (D : Dfs K mg x st ps f fd) (G : FnOk P w K mg base CX0 k f fd ps sp) : Cal P w K mg base k x ps sp f fd := ⟨G, D.g, D.F.kp, D.b⟩

/-! ### heaps -/
theorem Same.new {B H : Hp} {p : Addr} {o : HO} (s : Same B H) (h : H p = none) : Same B (upd H p o) := fun b u e => by
  have e' := s b u e
  rw [upd_ne (ne_of_none e' h)]
  exact e'
theorem Same.grow {B H : Hp} {p : Addr} {o : HO} (s : Same B H) (h : H p = none) : Same (upd B p o) (upd H p o) := fun b u e => by
  by_cases hb : b = p
  · subst hb
    rw [upd_same] at e ⊢
    exact e
  · rw [upd_ne hb] at e ⊢
    exact s b u e
theorem Same.add {B H : Hp} {p : Addr} {o : HO} (s : Same B H) (h : H p = some o) : Same (upd B p o) H := fun b u e => by
  by_cases hb : b = p
  · subst hb
    rw [upd_same] at e
    rw [h]
    exact e
  · rw [upd_ne hb] at e
    exact s b u e
theorem Same.put {B H : Hp} {p : Addr} {o : HO} (s : Same B H) (h : B p = none) : Same B (upd H p o) := fun b u e => by
  rw [upd_ne (ne_of_none e h)]
  exact s b u e
theorem same_new {H : Hp} {p : Addr} {o : HO} (h : H p = none) : Same H (upd H p o) := Same.new (Same.refl H) h
theorem Same.rd {H H' : Hp} {a : Addr} {u : HO} (s : Same H H') (h : Rd H a u) : Rd H' a u := by
  rcases h with h | ⟨o, h⟩
  · exact .inl (s _ _ h)
  · exact .inr ⟨o, s _ _ h⟩
theorem Same.l {K : PySem.W.Frag} {H H' : Hp} {a : Addr} {xs : List V} (s : Same H H') (h : SqL K H a xs) : SqL K H' a xs := s.seq h
theorem Same.t {K : PySem.W.Frag} {H H' : Hp} {a : Addr} {xs : List V} (s : Same H H') (h : SqT K H a xs) : SqT K H' a xs := by
  rcases h with h | h
  · exact .inl (Same.rd s h)
  · exact .inr h
theorem tup_new {K : PySem.W.Frag} {H : Hp} {p : Addr} {xs : List V} : SqT K (upd H p (.tup xs)) p xs := SqT.of upd_same
theorem lst_new {K : PySem.W.Frag} {H : Hp} {p : Addr} {xs : List V} : SqL K (upd H p (.lst xs)) p xs := SqL.of upd_same

/-! ### data -/
mutual
theorem dp_mono {K : PySem.W.Frag} {H H' : Hp} (s : Same H H') : ∀ {v : V} {d : PyData}, Dp K H v d → Dp K H' v d
  | _, _, .non => .non
  | _, _, .bl b => .bl b
  | _, _, .int i => .int i
  | _, _, .str x => .str x
  | _, _, .lst h r => .lst (Same.l s h) (dps_mono s r)
  | _, _, .tup h r => .tup (Same.t s h) (dps_mono s r)
theorem dps_mono {K : PySem.W.Frag} {H H' : Hp} (s : Same H H') : ∀ {vs : List V} {ds : List PyData}, DpAll K H vs ds → DpAll K H' vs ds
  | _, _, .nil => .nil
  | _, _, .cons h r => .cons (dp_mono s h) (dps_mono s r)
end
section
variable {K : PySem.W.Frag} {H : Hp} {v : V} {vs : List V}
theorem dp_int {i : Int} (h : Dp K H v (.int i)) : v = .int i := by cases h; rfl
theorem dp_str {i : Str} (h : Dp K H v (.str i)) : v = .str i := by cases h; rfl
theorem dp_none (h : Dp K H v .none) : v = .non := by cases h; rfl
theorem dp_bool {b : Bool} (h : Dp K H v (.bool b)) : v = .bl b := by cases h; rfl
theorem dp_tup {ds : List PyData} (h : Dp K H v (.tuple ds)) : ∃ a xs, v = .ref a ∧ SqT K H a xs ∧ DpAll K H xs ds := by
  cases h with
  | tup a b => exact ⟨_, _, rfl, a, b⟩
theorem dp_lst {ds : List PyData} (h : Dp K H v (.list ds)) : ∃ a xs, v = .ref a ∧ SqL K H a xs ∧ DpAll K H xs ds := by
  cases h with
  | lst a b => exact ⟨_, _, rfl, a, b⟩
theorem dps_nil (h : DpAll K H vs []) : vs = [] := by cases h; rfl
theorem dps_cons {d : PyData} {ds : List PyData} (h : DpAll K H vs (d :: ds)) : ∃ x r, vs = x :: r ∧ Dp K H x d ∧ DpAll K H r ds := by
  cases h with
  | cons a b => exact ⟨_, _, rfl, a, b⟩
theorem dps_len {ds : List PyData} (h : DpAll K H vs ds) : vs.length = ds.length := by
  induction ds generalizing vs with
  | nil => rw [dps_nil h]; rfl
  | cons d ds ih =>
    obtain ⟨x, r, rfl, _, hr⟩ := dps_cons h
    rw [List.length_cons, List.length_cons, ih hr]
theorem dps_get {ds : List PyData} (h : DpAll K H vs ds) {i : Nat} {d : PyData} (e : ds[i]? = some d) : ∃ x, vs[i]? = some x ∧ Dp K H x d := by
  induction ds generalizing vs i with
  | nil => simp at e
  | cons d0 ds ih =>
    obtain ⟨x, r, rfl, h0, hr⟩ := dps_cons h
    cases i with
    | zero =>
      have e' : d0 = d := Option.some.inj e
      subst e'
      exact ⟨x, rfl, h0⟩
    | succ i => exact ih hr e
theorem dps_of_get {ds : List PyData} (h : DpAll K H vs ds) {i : Nat} {x : V} (e : vs[i]? = some x) : ∃ d, ds[i]? = some d ∧ Dp K H x d := by
  induction ds generalizing vs i with
  | nil =>
    rw [dps_nil h] at e
    simp at e
  | cons d0 ds ih =>
    obtain ⟨y, r, rfl, h0, hr⟩ := dps_cons h
    cases i with
    | zero =>
      have e' : y = x := Option.some.inj e
      subst e'
      exact ⟨d0, rfl, h0⟩
    | succ i => exact ih hr e
theorem dps_app {us : List V} {ds es : List PyData} (h : DpAll K H vs ds) (g : DpAll K H us es) : DpAll K H (vs ++ us) (ds ++ es) := by
  induction ds generalizing vs with
  | nil =>
    rw [dps_nil h]
    exact g
  | cons d ds ih =>
    obtain ⟨x, r, rfl, h0, hr⟩ := dps_cons h
    exact .cons h0 (ih hr)
theorem dps_take {ds : List PyData} (h : DpAll K H vs ds) (n : Nat) : DpAll K H (vs.take n) (ds.take n) := by
  induction ds generalizing vs n with
  | nil =>
    rw [dps_nil h]
    simp only [List.take_nil]
    exact .nil
  | cons d ds ih =>
    obtain ⟨x, r, rfl, h0, hr⟩ := dps_cons h
    cases n with
    | zero => exact .nil
    | succ n => exact .cons h0 (ih hr n)
end
def dints (l : List Int) : List PyData := l.map .int
theorem dps_ints {K : PySem.W.Frag} {H : Hp} {vs : List V} {l : List Int} (h : DpAll K H vs (dints l)) : vs = l.map V.int := by
  induction l generalizing vs with
  | nil => exact dps_nil h
  | cons i l ih =>
    obtain ⟨x, r, rfl, h0, hr⟩ := dps_cons h
    rw [dp_int h0, ih hr]
    rfl
theorem ints_dps {K : PySem.W.Frag} {H : Hp} : ∀ l : List Int, DpAll K H (l.map V.int) (dints l)
  | [] => .nil
  | i :: l => .cons (.int i) (ints_dps l)
theorem dp_ints {K : PySem.W.Frag} {H : Hp} {v : V} {l : List Int} (h : Dp K H v (.tuple (dints l))) : ∃ a, v = .ref a ∧ SqT K H a (l.map V.int) := by
  obtain ⟨a, xs, rfl, h1, h2⟩ := dp_tup h
  rw [dps_ints h2] at h1
  exact ⟨a, rfl, h1⟩

/-! ### rules with the written part named (within a comprehension the context is another one, over the same) -/
section
variable {X : Cx} {K : PySem.W.Frag}
theorem kix_list (h : X.K = K := by rfl) : IxR X (rIxL K) := by subst h; exact ix_list
theorem kix_tup (h : X.K = K := by rfl) : IxR X (rIxT K) := by subst h; exact ix_tup
theorem ksl_list (h : X.K = K := by rfl) : SlR X (rSlL K) := by subst h; exact sl_list
theorem ksl_tup (h : X.K = K := by rfl) : SlR X (rSlT K) := by subst h; exact sl_tup
theorem kin_seq (h : X.K = K := by rfl) : OpR X (compareOp .In) (rIn K false) := by subst h; exact op_in_seq
theorem knotIn_seq (h : X.K = K := by rfl) : OpR X (compareOp .NotIn) (rIn K true) := by subst h; exact op_notIn_seq
theorem keqD (hu : X.A.units + 64 < cLine) (h : X.K = K := by rfl) : OpR X (compareOp .Eq) (rEqD K) := by subst h; exact op_eqD hu
theorem kneD (hu : X.A.units + 64 < cLine) (h : X.K = K := by rfl) : OpR X (compareOp .NotEq) (rNeD K) := by subst h; exact op_neD hu
theorem kinD (hu : X.A.units + 65 < cLine) (h : X.K = K := by rfl) : OpR X (compareOp .In) (rInD K) := by subst h; exact op_inD hu
theorem knotInD (hu : X.A.units + 65 < cLine) (h : X.K = K := by rfl) : OpR X (compareOp .NotIn) (rNotInD K) := by subst h; exact op_notInD hu
theorem kcatA (h : X.K = K := by rfl) : OpR X (binaryOp .Add) (rCatA K) := by subst h; exact op_catA
def rLen (K : PySem.W.Frag) : List V → Hp → VK → Prop := fun xs H Q => ∃ p ys, xs = [.ref p] ∧ (SqL K H p ys ∨ SqT K H p ys) ∧ Q (.int ys.length) H
def rListOf (K : PySem.W.Frag) : List V → Hp → VK → Prop := fun xs H Q => ∃ p ys, xs = [.ref p] ∧ (SqL K H p ys ∨ SqT K H p ys) ∧ ∀ l, H l = none → Q (.ref l) (upd H l (.lst ys))
def rTupleOf (K : PySem.W.Frag) : List V → Hp → VK → Prop := fun xs H Q => ∃ p ys, xs = [.ref p] ∧ ((SqL K H p ys ∧ ∀ l, H l = none → Q (.ref l) (upd H l (.tup ys))) ∨ (SqT K H p ys ∧ Q (.ref p) H))
theorem klen (h : X.K = K := by rfl) : CallR X (.builtin "len") (rLen K) := by subst h; exact call_len_seq
theorem klist_of (h : X.K = K := by rfl) : CallR X (.type "list") (rListOf K) := by subst h; exact call_list_of
theorem ktuple_of (h : X.K = K := by rfl) : CallR X (.type "tuple") (rTupleOf K) := by subst h; exact call_tuple_of
theorem ksorted (h : X.K = K := by rfl) : CallR X (.builtin "sorted") (rSorted K) := by subst h; exact cr_sorted
theorem ksum (hc : X.calm = true) (h : X.K = K := by rfl) : CallR X (.builtin "sum") (rSum K) := by subst h; exact cr_sum hc
theorem kmin (hc : X.calm = true) (h : X.K = K := by rfl) : CallR X (.builtin "min") (rMin K) := by subst h; exact cr_min hc
theorem klcount (h : X.K = K := by rfl) : MtR X "list.count" (rCntI K) := by subst h; exact mt_lcount
theorem kisi (h : X.K = K := by rfl) : CallR X (.builtin "isinstance") (rIsi K) := by subst h; exact call_isi
end

/-! ### tests whose answer is known -/
section
variable {c A B : Prop} [Decidable c]
theorem itD (hc : c) (h : A) : if decide c = true then A else B := by rw [decide_eq_true hc]; exact iteT h
theorem itF (hc : ¬ c) (h : B) : if decide c = true then A else B := by rw [decide_eq_false hc]; exact iteF h
theorem itnF (hc : ¬ c) (h : A) : if (!decide c) = true then A else B := by rw [decide_eq_false hc]; exact iteT h
theorem itB {b : Bool} (hc : b = true) (h : A) : if b = true then A else B := by rw [hc]; exact iteT h
theorem itBf {b : Bool} (hc : b = false) (h : B) : if b = true then A else B := by rw [hc]; exact iteF h
theorem itnB {b : Bool} (hc : b = true) (h : B) : if (!b) = true then A else B := by rw [hc]; exact iteF h
theorem itnBf {b : Bool} (hc : b = false) (h : A) : if (!b) = true then A else B := by rw [hc]; exact iteT h
end
theorem inV_ints {x : Int} {l : List Int} : inV (.int x) (l.map V.int) = true ↔ x ∈ l := by
  induction l with
  | nil => exact ⟨fun h => absurd (show false = true from h) (by decide), fun h => absurd h (by simp)⟩
  | cons y l ih =>
    rw [List.map_cons, List.mem_cons]
    show (eqV (.int y) (.int x) || inV (.int x) (l.map V.int)) = true ↔ _
    rw [Bool.or_eq_true, ih]
    have e : eqV (.int y) (.int x) = true ↔ x = y := ⟨fun h => (of_decide_eq_true h).symm, fun h => decide_eq_true h.symm⟩
    rw [e]
theorem inV_strs {x : Str} {l : List Str} : inV (.str x) (l.map V.str) = true ↔ x ∈ l := by
  induction l with
  | nil => exact ⟨fun h => absurd (show false = true from h) (by decide), fun h => absurd h (by simp)⟩
  | cons y l ih =>
    rw [List.map_cons, List.mem_cons]
    show (eqV (.str y) (.str x) || inV (.str x) (l.map V.str)) = true ↔ _
    rw [Bool.or_eq_true, ih]
    have e : eqV (.str y) (.str x) = true ↔ x = y := ⟨fun h => (of_decide_eq_true h).symm, fun h => decide_eq_true h.symm⟩
    rw [e]
theorem flat_ints (l : List Int) : (l.map V.int).all flatV = true := by
  induction l with
  | nil => rfl
  | cons y l ih => rw [List.map_cons, List.all_cons, ih]; rfl
/-- for i, x in enumerate(xs) -/
theorem for_enum {K : PySem.W.Frag} {a : Addr} {xs : List V} {g : TG} {tb : TS} {D : Ends} {σ : L2.St} {H : Hp} (Pv : Nat → L2.St → Hp → Prop) (h0 : Pv 0 σ H) (hl : ∀ i σ H, i ≤ xs.length → Pv i σ H → SqL K H a xs)
    (hs : ∀ i x σ H p, xs[i]? = some x → Pv i σ H → H p = none → g (.ref p) σ (upd H p (.tup [.int (i : Nat), x])) fun σ2 H2 => tb { D with nx := Pv (i + 1), ct := Pv (i + 1), bk := D.nx } σ2 H2)
    (hd : ∀ σ H, Pv xs.length σ H → D.nx σ H) :
    ∃ W : Nat → Nat → L2.St → Hp → Prop, (∃ m, W 0 m σ H) ∧ ∀ i m σ H, W i m σ H →
      ((Ite K a).stop i H ∧ D.nx σ H) ∨ ((Ite K a).go i H ∧ ∃ N : L2.St → Hp → Prop, (∀ σ' H', N σ' H' → ∃ m', m' < m ∧ W (i + 1) m' σ' H') ∧
        ∀ x H', (Ite K a).yld i H x H' → g x σ H' fun σ2 H2 => tb { D with nx := N, ct := N, bk := D.nx } σ2 H2) := by
  refine ⟨fun i m σ H => m + i = xs.length ∧ Pv i σ H, ⟨xs.length, Nat.add_zero _, h0⟩, fun i m σ H ⟨em, hp⟩ => ?_⟩
  have hS := hl i σ H (by omega) hp
  cases m with
  | zero =>
    have e : i = xs.length := by omega
    subst e
    exact .inl ⟨⟨xs, hS, Nat.le_refl _⟩, hd σ H hp⟩
  | succ m =>
    have hi : i < xs.length := by omega
    have hx := List.getElem?_eq_getElem hi
    refine .inr ⟨⟨xs, _, hS, hx⟩, Pv (i + 1), fun σ' H' h => ⟨m, Nat.lt_succ_self m, by omega, h⟩, ?_⟩
    rintro x H' ⟨p, y, rfl, np, rfl, hy⟩
    exact hs i y σ H p (hy xs hS) hp np

/-! ### a chain of three comparisons -/
def tChain3 (r1 r2 r3 : R2) (ta tb tc td : TE) : TE := fun σ H Q => ta σ H fun x H1 => tb σ H1 fun y H2 => r1 x y H2 fun z H3 => ∃ k, z = .bl k ∧
  if k = true then tc σ H3 fun x2 H4 => r2 y x2 H4 fun z2 H5 => ∃ k2, z2 = .bl k2 ∧ (if k2 = true then td σ H5 fun x3 H6 => r3 x2 x3 H6 Q else Q (.bl false) H5) else Q (.bl false) H3
theorem pe_chain3 {X : Cx} {a b c d : Expr} {pos : Pos} {ta tb tc td : TE} {o1 o2 o3 : CmpOp} {r1 r2 r3 : R2} (h1 : OpR X (compareOp o1) r1) (h2 : OpR X (compareOp o2) r2) (h3 : OpR X (compareOp o3) r3)
    (pa : PE X a ta) (pb : PE X b tb) (pc : PE X c tc) (pd : PE X d td) (hm : lastMarks [o1, o2, o3] [b, c, d] = false := by with_unfolding_all rfl) :
    PE X (.Compare a [o1, o2, o3] [b, c, d] pos) (tChain3 r1 r2 r3 ta tb tc td) := by
  refine ⟨fun pins s σ H Q I h => Compare_chain ?_ hm⟩
  refine thn (pa.run pins s σ H _ I h) fun va sa ⟨x, Ha, Ia, ra, qa⟩ => chain_link ?_
  refine thn (pb.run pins sa σ Ha _ Ia qa) fun vb sb ⟨y, Hb, Ib, rb, qb⟩ => ?_
  refine thn (h1 pins sb σ Hb x y va vb _ Ib ra rb qb) fun v1 s1 ⟨z, Hz, Iz, rz, k, ez, qz⟩ => ?_
  subst ez
  cases rz
  refine wpAny_truthy_bool ?_
  cases k with
  | false => exact (if_neg Bool.false_ne_true).mpr ⟨.bl false, Hz, Iz, rfl, (if_neg Bool.false_ne_true).mp qz⟩
  | true =>
    refine (if_pos rfl).mpr (chain_link ?_)
    refine thn (pc.run pins s1 σ Hz _ Iz ((if_pos rfl).mp qz)) fun vc sc ⟨x2, Hc, Ic, rc, qc⟩ => ?_
    refine thn (h2 pins sc σ Hc y x2 vb vc _ Ic rb rc qc) fun v2 s2 ⟨z2, Hy, Iy, ry, k2, ey, qy⟩ => ?_
    subst ey
    cases ry
    refine wpAny_truthy_bool ?_
    cases k2 with
    | false => exact (if_neg Bool.false_ne_true).mpr ⟨.bl false, Hy, Iy, rfl, (if_neg Bool.false_ne_true).mp qy⟩
    | true =>
      refine (if_pos rfl).mpr (chain_last ?_)
      refine thn (pd.run pins s2 σ Hy _ Iy ((if_pos rfl).mp qy)) fun vd sd ⟨x3, Hd, Id, rd, qd⟩ => ?_
      exact h3 pins sd σ Hd x2 x3 vc vd Q Id rc rd qd
theorem tyx_tup {K : PySem.W.Frag} {H : Hp} {a : Addr} {xs : List V} (h : SqT K H a xs) : TyX K H (.ref a) (.type "tuple") := by
  rcases h with (h | ⟨o, h⟩) | ⟨o, its, n, h1, h2, _⟩
  · exact .base (.tup h)
  · exact .fTuple h
  · exact .kTuple h1 h2
theorem isi_tup {K : PySem.W.Frag} {H : Hp} {a : Addr} {xs : List V} {Q : VK} (h : SqT K H a xs) (q : Q (.bl true) H) : rIsi K [.ref a, .ty "tuple"] H Q :=
  ⟨_, _, _, _, true, rfl, .ty "tuple", tyx_tup h, kit_ty (by decide +kernel), q⟩

/-! ### small words -/
theorem nod {p : Prop} [Decidable p] (h : ¬ decide p = true) : ¬ p := fun z => h (decide_eq_true z)
theorem yed {p : Prop} [Decidable p] (h : decide p = true) : p := of_decide_eq_true h
theorem atI_mem {xs : List V} {z : Int} (h0 : 0 ≤ z) (h1 : z < xs.length) : ∃ v, atI xs z = some v ∧ xs[z.toNat]? = some v ∧ v ∈ xs := by
  have hl : z.toNat < xs.length := by omega
  have e := List.getElem?_eq_getElem hl
  exact ⟨xs[z.toNat], at_of (j := z.toNat) (by omega) e, e, List.getElem_mem hl⟩
theorem b2z (b : Bool) : (0 : Int) ≤ (if b = true then 1 else 0) ∧ (if b = true then (1 : Int) else 0) < 2 := by
  cases b
  · exact ⟨by decide, by decide⟩
  · exact ⟨by decide, by decide⟩
theorem small {n : Nat} (h : n ≤ 1000) : n ≤ sizeLine := Nat.le_of_lt (small1000 h)

/-! ### stores -/
structure Shelf where
  room : Int
  has : Int
  sticks : Int
structure Wish where
  kind : Str
  shelf : Int
  side : Str
  crew : Int
  keep : Int
  after : List Int
structure Sto where
  shelves : List Shelf
  aisle : Int
  wishes : List Wish
def Shelf.d (s : Shelf) : PyData := .tuple [.int s.room, .int s.has, .int s.sticks]
def Wish.d (w : Wish) : PyData := .tuple [.str w.kind, .int w.shelf, .str w.side, .int w.crew, .int w.keep, .tuple (dints w.after)]
def dshelves (l : List Shelf) : List PyData := l.map Shelf.d
def dwishes (l : List Wish) : List PyData := l.map Wish.d
def Sto.d (s : Sto) : PyData := .tuple [.list (dshelves s.shelves), .int s.aisle, .list (dwishes s.wishes)]
/-- numbers that rise, from lo to below n -/
def Rising : Int → Int → List Int → Prop
  | _, _, [] => True
  | lo, n, i :: r => lo ≤ i ∧ i < n ∧ Rising (i + 1) n r
structure ShelfOk (s : Shelf) : Prop where
  h0 : 0 ≤ s.has
  h1 : s.has ≤ s.room
  h2 : s.room ≤ 9
  st : s.sticks = 0 ∨ s.sticks = 1
structure WishOk (n m : Int) (w : Wish) : Prop where
  kind : w.kind = "fetch" ∨ w.kind = "bring"
  s0 : 0 ≤ w.shelf
  s1 : w.shelf < n
  side : w.side = "left" ∨ w.side = "right" ∨ w.side = "any"
  crew : w.crew = 0 ∨ w.crew = 1
  k0 : 0 ≤ w.keep
  k3 : w.keep ≤ 3
  after : Rising 0 m w.after
structure StoOk (s : Sto) : Prop where
  n1 : 1 ≤ s.shelves.length
  n5 : s.shelves.length ≤ 5
  sh : ∀ x ∈ s.shelves, ShelfOk x
  a0 : 0 ≤ s.aisle
  a1 : s.aisle ≤ s.shelves.length
  w5 : s.wishes.length ≤ 5
  ws : ∀ x ∈ s.wishes, WishOk s.shelves.length s.wishes.length x
theorem Rising.more {lo n m : Int} {l : List Int} (h : n ≤ m) : Rising lo n l → Rising lo m l := by
  induction l generalizing lo with
  | nil => exact fun _ => trivial
  | cons i r ih =>
    rintro ⟨h1, h2, h3⟩
    exact ⟨h1, by omega, ih h3⟩
theorem Rising.take {lo n : Int} {l : List Int} (k : Nat) (h : Rising lo n l) : Rising lo n (l.take k) := by
  induction l generalizing lo k with
  | nil => simpa using h
  | cons i r ih =>
    obtain ⟨h1, h2, h3⟩ := h
    cases k with
    | zero => trivial
    | succ k => exact ⟨h1, h2, ih k h3⟩
theorem Rising.snoc {lo n i : Int} {l : List Int} (h : Rising lo i l) (h0 : lo ≤ i) (h1 : i < n) : Rising lo n (l ++ [i]) := by
  induction l generalizing lo with
  | nil => exact ⟨h0, h1, trivial⟩
  | cons j r ih =>
    obtain ⟨a, b, c⟩ := h
    exact ⟨a, by omega, ih c (by omega)⟩
theorem Rising.mem {lo n : Int} {l : List Int} (h : Rising lo n l) {i : Int} (m : i ∈ l) : lo ≤ i ∧ i < n := by
  induction l generalizing lo with
  | nil => simp at m
  | cons j r ih =>
    obtain ⟨a, b, c⟩ := h
    rcases List.mem_cons.mp m with rfl | m
    · exact ⟨a, b⟩
    · have := ih c m
      omega
section
variable {K : PySem.W.Frag} {H : Hp} {v : V}
theorem shelf_at {s : Shelf} (h : Dp K H v s.d) : ∃ a, v = .ref a ∧ SqT K H a [.int s.room, .int s.has, .int s.sticks] := by
  obtain ⟨a, xs, rfl, h1, h2⟩ := dp_tup h
  obtain ⟨x, r, rfl, e1, h2⟩ := dps_cons h2
  obtain ⟨y, r, rfl, e2, h2⟩ := dps_cons h2
  obtain ⟨z, r, rfl, e3, h2⟩ := dps_cons h2
  obtain rfl := dps_nil h2
  rw [dp_int e1, dp_int e2, dp_int e3] at h1
  exact ⟨a, rfl, h1⟩
theorem at_shelf {s : Shelf} {a : Addr} (h : SqT K H a [.int s.room, .int s.has, .int s.sticks]) : Dp K H (.ref a) s.d := .tup h (.cons (.int _) (.cons (.int _) (.cons (.int _) .nil)))
theorem wish_at {s : Wish} (h : Dp K H v s.d) : ∃ a t, v = .ref a ∧ SqT K H a [.str s.kind, .int s.shelf, .str s.side, .int s.crew, .int s.keep, .ref t] ∧ SqT K H t (s.after.map V.int) := by
  obtain ⟨a, xs, rfl, h1, h2⟩ := dp_tup h
  obtain ⟨x, r, rfl, e1, k3⟩ := dps_cons h2
  obtain ⟨x, r, rfl, e2, k4⟩ := dps_cons k3
  obtain ⟨x, r, rfl, e3, k5⟩ := dps_cons k4
  obtain ⟨x, r, rfl, e4, k6⟩ := dps_cons k5
  obtain ⟨x, r, rfl, e5, k7⟩ := dps_cons k6
  obtain ⟨x, r, rfl, e6, k8⟩ := dps_cons k7
  obtain ⟨t, rfl, ht⟩ := dp_ints e6
  obtain rfl := dps_nil k8
  rw [dp_str e1, dp_int e2, dp_str e3, dp_int e4, dp_int e5] at h1
  exact ⟨a, t, rfl, h1, ht⟩
theorem at_wish {s : Wish} {a t : Addr} (h : SqT K H a [.str s.kind, .int s.shelf, .str s.side, .int s.crew, .int s.keep, .ref t]) (g : SqT K H t (s.after.map V.int)) : Dp K H (.ref a) s.d :=
  .tup h (.cons (.str _) (.cons (.int _) (.cons (.str _) (.cons (.int _) (.cons (.int _) (.cons (.tup g (ints_dps _)) .nil))))))
/-- a store's tuple -/
structure StoAt (K : PySem.W.Frag) (H : Hp) (a l m : Addr) (xs ys : List V) (s : Sto) : Prop where
  t : SqT K H a [.ref l, .int s.aisle, .ref m]
  l : SqL K H l xs
  dx : DpAll K H xs (dshelves s.shelves)
  m : SqL K H m ys
  dy : DpAll K H ys (dwishes s.wishes)
theorem StoAt.mono {H' : Hp} {a l m : Addr} {xs ys : List V} {s : Sto} (e : Same H H') (h : StoAt K H a l m xs ys s) : StoAt K H' a l m xs ys s := ⟨Same.t e h.t, Same.l e h.l, dps_mono e h.dx, Same.l e h.m, dps_mono e h.dy⟩
theorem sto_at {s : Sto} (h : Dp K H v s.d) : ∃ a l m xs ys, v = .ref a ∧ StoAt K H a l m xs ys s := by
  obtain ⟨a, xs, rfl, h1, h2⟩ := dp_tup h
  obtain ⟨x, r, rfl, e1, k3⟩ := dps_cons h2
  obtain ⟨y, r, rfl, e2, k4⟩ := dps_cons k3
  obtain ⟨z, r, rfl, e3, k5⟩ := dps_cons k4
  obtain ⟨l, xs, rfl, hl, dl⟩ := dp_lst e1
  obtain ⟨m, ys, rfl, hm, dm⟩ := dp_lst e3
  obtain rfl := dps_nil k5
  rw [dp_int e2] at h1
  exact ⟨a, l, m, xs, ys, rfl, h1, hl, dl, hm, dm⟩
theorem StoAt.d {a l m : Addr} {xs ys : List V} {s : Sto} (h : StoAt K H a l m xs ys s) : Dp K H (.ref a) s.d := .tup h.t (.cons (.lst h.l h.dx) (.cons (.int _) (.cons (.lst h.m h.dy) .nil)))
theorem StoAt.lx {a l m : Addr} {xs ys : List V} {s : Sto} (h : StoAt K H a l m xs ys s) : xs.length = s.shelves.length := by rw [dps_len h.dx]; exact List.length_map ..
theorem StoAt.ly {a l m : Addr} {xs ys : List V} {s : Sto} (h : StoAt K H a l m xs ys s) : ys.length = s.wishes.length := by rw [dps_len h.dy]; exact List.length_map ..
theorem shelf_get {xs : List V} {l : List Shelf} (h : DpAll K H xs (dshelves l)) {i : Nat} {s : Shelf} (e : l[i]? = some s) : ∃ a, xs[i]? = some (.ref a) ∧ SqT K H a [.int s.room, .int s.has, .int s.sticks] := by
  obtain ⟨x, h1, h2⟩ := dps_get h (i := i) (d := s.d) (by unfold dshelves; rw [List.getElem?_map, e]; rfl)
  obtain ⟨a, rfl, h3⟩ := shelf_at h2
  exact ⟨a, h1, h3⟩
theorem wish_get {xs : List V} {l : List Wish} (h : DpAll K H xs (dwishes l)) {i : Nat} {s : Wish} (e : l[i]? = some s) : ∃ a t, xs[i]? = some (.ref a) ∧ SqT K H a [.str s.kind, .int s.shelf, .str s.side, .int s.crew, .int s.keep, .ref t] ∧ SqT K H t (s.after.map V.int) := by
  obtain ⟨x, h1, h2⟩ := dps_get h (i := i) (d := s.d) (by unfold dwishes; rw [List.getElem?_map, e]; rfl)
  obtain ⟨a, t, rfl, h3, h4⟩ := wish_at h2
  exact ⟨a, t, h1, h3, h4⟩
end

/-! ### the row of draws: a list of the script and two numbers, which every draw changes. B: what is known besides -/
structure RowP where
  r : Addr
  a : Addr
  ns : List Int
structure RowSt (K : PySem.W.Frag) (ρ : RowP) (B H : Hp) : Prop where
  same : Same B H
  free : B ρ.r = none
  scr : SqL K B ρ.a (ρ.ns.map V.int)
  row : ∃ n1 n2 : Int, H ρ.r = some (.lst [.ref ρ.a, .int n1, .int n2]) ∧ 0 ≤ n1
section
variable {K : PySem.W.Frag} {ρ : RowP} {p : Addr} {B B' H : Hp} {o : HO}
theorem RowSt.nr (R : RowSt K ρ B H) (h : H p = none) : ρ.r ≠ p := by
  obtain ⟨n1, n2, e, _⟩ := R.row
  exact ne_of_none e h
/-- a new object -/
theorem RowSt.grow (R : RowSt K ρ B H) (h : H p = none) : RowSt K ρ (upd B p o) (upd H p o) := by
  obtain ⟨n1, n2, e, g⟩ := R.row
  have z := R.same.free h
  exact ⟨Same.grow R.same h, by rw [upd_ne (R.nr h)]; exact R.free, Same.l (same_new z) R.scr, n1, n2, by rw [upd_ne (R.nr h)]; exact e, g⟩
/-- a new object that B is not told of -/
theorem RowSt.new (R : RowSt K ρ B H) (h : H p = none) : RowSt K ρ B (upd H p o) := by
  obtain ⟨n1, n2, e, g⟩ := R.row
  exact ⟨Same.new R.same h, R.free, R.scr, n1, n2, by rw [upd_ne (R.nr h)]; exact e, g⟩
/-- B knows one more that stands -/
theorem RowSt.add (R : RowSt K ρ B H) (h : H p = some o) (hr : ρ.r ≠ p) (hb : B p = none) : RowSt K ρ (upd B p o) H := by
  obtain ⟨n1, n2, e, g⟩ := R.row
  exact ⟨Same.add R.same h, by rw [upd_ne hr]; exact R.free, Same.l (same_new hb) R.scr, n1, n2, e, g⟩
/-- what B does not know is changed -/
theorem RowSt.put (R : RowSt K ρ B H) (hr : ρ.r ≠ p) (hb : B p = none) : RowSt K ρ B (upd H p o) := by
  obtain ⟨n1, n2, e, g⟩ := R.row
  exact ⟨Same.put R.same hb, R.free, R.scr, n1, n2, by rw [upd_ne hr]; exact e, g⟩
/-- B is told less -/
theorem RowSt.less (R : RowSt K ρ B H) (s : Same B' B) (hl : SqL K B' ρ.a (ρ.ns.map V.int)) : RowSt K ρ B' H :=
  ⟨s.trans R.same, s.free R.free, hl, R.row⟩
end
/-- a def that hands back data, and leaves all as it was -/
def Ret (K : PySem.W.Frag) (H : Hp) (Q : VK) (d : PyData) : Prop := ∀ v H', Same H H' → Dp K H' v d → Q v H'
def spTaken (K : PySem.W.Frag) : Sp := fun vs H Q _ => ∃ (ρ : RowP) (m : Int) (B : Hp), vs = [.ref ρ.r, .int m] ∧ 0 < m ∧ RowSt K ρ B H ∧ ∀ z H', 0 ≤ z → z < m → RowSt K ρ B H' → Q (.int z) H'
end Ais
set_option Elab.async false
set_option linter.all false
set_option maxRecDepth 100000
set_option maxHeartbeats 4000000
namespace Ais
open PySem PySem.Spec PyProof.Rows L2
def topS (i : Nat) : Stmt := PySem.Challenge.pw_aisleshift_k12_whole_seen_from_the_other.main.body.getD i (.Pass ⟨0, 0, 0, 0⟩)

/-! ## the drawing of numbers and stores -/
structure Tx (K : PySem.W.Frag) (mg : Str → Option Value) : Prop where
  n_len : mg "len" = none
  n_list : mg "list" = none
  n_tuple : mg "tuple" = none
  n_sorted : mg "sorted" = none
  n_sum : mg "sum" = none
  n_all : mg "all" = none
  n_str : mg "str" = none
  n_min : mg "min" = none
  n_max : mg "max" = none
  n_int : mg "int" = none
  n_range : mg "range" = none
  n_enumerate : mg "enumerate" = none
  n_isinstance : mg "isinstance" = none
  n_reversed : mg "reversed" = none
  n_bool : mg "bool" = none
  n_ValueError : mg "ValueError" = none
section
variable {P : Program} {w : World} {K : PySem.W.Frag} {mg : Str → Option Value} {base : Heap}
/-! _law_taken: 0 _law_row, 1 _law_many, 2 _law_cell -/
abbrev s__law_taken : Stmt := topS 48
abbrev N__law_taken : List Str := ["_law_row", "_law_many", "_law_cell"]
theorem sc__law_taken : FnScope N__law_taken ["_law_row", "_law_many"] (defScope s__law_taken) := ⟨rfl, rfl, rfl, by decide +kernel, rfl, by decide +kernel, by decide +kernel⟩
theorem ok__law_taken {f : Addr} {fd : FuncData} (D : Dfs K mg "_law_taken" s__law_taken ["_law_row", "_law_many"] f fd) (T : Tx K mg) : Cal P w K mg base 1 "_law_taken" ["_law_row", "_law_many"] (spTaken K) f fd := by
  refine D.cal (D.F.ok sc__law_taken (fun vs H Q E h => ?_) (fun cdv A outer s H vs Q E hr h => ?_))
  · obtain ⟨ρ, m, B, rfl, _⟩ := h
    rfl
  · obtain ⟨ρ, m, B, rfl, hm, R, q⟩ := h
    obtain ⟨n1, n2, hrow, hn1⟩ := R.row
    refine ⟨_, (pss_cons (ps_asg (pe_op op_add (pe_ix (kix_list (K := K)) (pv 0) pe_int (fun _ _ => rfl)) pe_int) (pg_sub (pv 0) pe_int set_list))
      (pss_cons (ps_if (pt_cmpR op_gt (pe_ix (kix_list (K := K)) (pv 0) pe_int (fun _ _ => rfl)) (pe_callB (klen (K := K)) (by rfl) T.n_len (by decide +kernel) (pa_cons (pe_ix (kix_list (K := K)) (pv 0) pe_int (fun _ _ => rfl)) pa_nil)) (nomark _)) (pss_cons (ps_asg (pe_op op_mod (pe_op op_add (pe_op op_mul (pe_ix (kix_list (K := K)) (pv 0) pe_int (fun _ _ => rfl)) pe_int) pe_int) pe_int) (pg_sub (pv 0) pe_int set_list))
      (pss_one (ps_ret (pe_op op_mod (pe_op op_fdiv (pe_ix (kix_list (K := K)) (pv 0) pe_int (fun _ _ => rfl)) pe_int) (pv 1))))) pss_nil)
      (pss_cons (ps_set (i := 2) sc__law_taken.nd rfl (Or.inl rfl) (pe_ix (kix_list (K := K)) (pe_ix (kix_list (K := K)) (pv 0) pe_int (fun _ _ => rfl)) (pe_op op_sub (pe_ix (kix_list (K := K)) (pv 0) pe_int (fun _ _ => rfl)) pe_int) (fun _ _ => rfl)))
      (pss_cons (ps_asg (pe_op op_mod (pe_op op_add (pe_op op_add (pe_op op_mul (pe_ix (kix_list (K := K)) (pv 0) pe_int (fun _ _ => rfl)) pe_int) (pv 2)) pe_int) pe_int) (pg_sub (pv 0) pe_int set_list))
      (pss_one (ps_ret (pe_op op_mod (pv 2) (pv 1)))))))), ?_⟩
    -- row[1] = row[1] + 1
    refine ⟨_, rfl, ρ.r, _, 1, .int n1, rfl, rfl, SqL.of hrow, rfl, n1, 1, rfl, rfl, _, rfl, ρ.r, _, 1, 1, rfl, rfl, hrow, rfl, ?_⟩
    have R1 : RowSt K ρ B (upd H ρ.r (.lst [.ref ρ.a, .int (n1 + 1), .int n2])) := ⟨Same.put R.same R.free, R.free, R.scr, n1 + 1, n2, upd_same, by omega⟩
    -- if row[1] > len(row[0])
    refine ⟨_, rfl, ρ.r, _, 1, .int (n1 + 1), rfl, rfl, SqL.of upd_same, rfl, _, rfl, ρ.r, _, 0, .ref ρ.a, rfl, rfl, SqL.of upd_same, rfl, ρ.a, _, rfl, .inl (Same.l R1.same R1.scr), n1 + 1, _, rfl, rfl, _, rfl, ite2 (fun e => ?_) (fun e => ?_)⟩
    · -- the script is used up
      refine ⟨_, rfl, ρ.r, _, 2, .int n2, rfl, rfl, SqL.of upd_same, rfl, n2, 48271, rfl, rfl, .inr ⟨by decide, by decide⟩, _, 11, rfl, rfl, _, 2147483647, rfl, rfl, (by show (0 : Int) < 2147483647; decide), _, rfl, ρ.r, _, 2, 2, rfl, rfl, upd_same, rfl, ?_⟩
      have R2 : RowSt K ρ B (upd (upd H ρ.r (.lst [.ref ρ.a, .int (n1 + 1), .int n2])) ρ.r (.lst [.ref ρ.a, .int (n1 + 1), .int ((n2 * 48271 + 11) % 2147483647)])) := ⟨Same.put R1.same R.free, R.free, R.scr, n1 + 1, _, upd_same, by omega⟩
      refine ⟨_, rfl, ρ.r, _, 2, .int ((n2 * 48271 + 11) % 2147483647), rfl, rfl, SqL.of upd_same, rfl, _, 7, rfl, rfl, ⟨by decide, by decide⟩, _, rfl, _, m, rfl, rfl, hm, ?_⟩
      exact q _ _ (Int.emod_nonneg _ (by omega)) (Int.emod_lt_of_pos _ hm) R2
    · have hlt : n1 < (ρ.ns.map V.int).length := by
        have z := nod e
        omega
      have hat : atI (ρ.ns.map V.int) (n1 + 1 - 1) = some (.int (ρ.ns.getD n1.toNat 0)) := by
        have hl : n1.toNat < ρ.ns.length := by
          rw [List.length_map] at hlt
          omega
        refine at_of (j := n1.toNat) (by omega) ?_
        rw [List.getElem?_map, List.getElem?_eq_getElem hl]
        simp [List.getD, hl]
      refine ⟨_, rfl, ρ.r, _, 0, .ref ρ.a, rfl, rfl, SqL.of upd_same, rfl, _, rfl, ρ.r, _, 1, .int (n1 + 1), rfl, rfl, SqL.of upd_same, rfl, n1 + 1, 1, rfl, rfl, ρ.a, _, _, _, rfl, rfl, Same.l R1.same R1.scr, hat, ?_⟩
      generalize ρ.ns.getD n1.toNat 0 = cell
      refine ⟨_, rfl, ρ.r, _, 2, .int n2, rfl, rfl, SqL.of upd_same, rfl, n2, 48271, rfl, rfl, .inr ⟨by decide, by decide⟩, _, rfl, _, cell, rfl, rfl, _, 11, rfl, rfl, _, 2147483647, rfl, rfl, (by show (0 : Int) < 2147483647; decide), _, rfl, ρ.r, _, 2, 2, rfl, rfl, upd_same, rfl, ?_⟩
      have R2 : RowSt K ρ B (upd (upd H ρ.r (.lst [.ref ρ.a, .int (n1 + 1), .int n2])) ρ.r (.lst [.ref ρ.a, .int (n1 + 1), .int ((n2 * 48271 + cell + 11) % 2147483647)])) := ⟨Same.put R1.same R.free, R.free, R.scr, n1 + 1, _, upd_same, by omega⟩
      refine ⟨_, rfl, _, rfl, _, m, rfl, rfl, hm, ?_⟩
      exact q _ _ (Int.emod_nonneg _ (by omega)) (Int.emod_lt_of_pos _ hm) R2
end

section
variable {P : Program} {w : World} {K : PySem.W.Frag} {mg : Str → Option Value} {base : Heap}
def spWish (K : PySem.W.Frag) : Sp := fun vs H Q _ => ∃ (ρ : RowP) (n m : Int) (B : Hp), vs = [.ref ρ.r, .int n, .int m] ∧ 0 < n ∧ 0 ≤ m ∧ m ≤ 5 ∧ RowSt K ρ B H ∧
  ∀ v B' H' (x : Wish), Same B B' → RowSt K ρ B' H' → Dp K B' v x.d → WishOk n m x → Q v H'
/-! _law_wish: 0 _law_row, 1 _law_shelves, 2 _law_many, 3 _law_kind, 4 _law_side, 5 _law_after, 6 _law_k -/
abbrev s__law_wish : Stmt := topS 49
abbrev N__law_wish : List Str := ["_law_row", "_law_shelves", "_law_many", "_law_kind", "_law_side", "_law_after", "_law_k"]
theorem sc__law_wish : FnScope N__law_wish ["_law_row", "_law_shelves", "_law_many"] (defScope s__law_wish) := ⟨rfl, rfl, rfl, by decide +kernel, rfl, by decide +kernel, by decide +kernel⟩
theorem ok__law_wish {f f1 : Addr} {fd fd1 : FuncData} (D : Dfs K mg "_law_wish" s__law_wish ["_law_row", "_law_shelves", "_law_many"] f fd) (T : Tx K mg) (C__law_taken : Cal P w K mg base 1 "_law_taken" ["_law_row", "_law_many"] (spTaken K) f1 fd1) :
    Cal P w K mg base 2 "_law_wish" ["_law_row", "_law_shelves", "_law_many"] (spWish K) f fd := by
  refine D.cal (D.F.ok sc__law_wish (fun vs H Q E h => ?_) (fun cdv A outer s H vs Q E hr h => ?_))
  · obtain ⟨ρ, n, m, B, rfl, _⟩ := h
    rfl
  · obtain ⟨ρ, n, m, B, rfl, hn, hm, hm5, R, q⟩ := h
    refine ⟨_, (pss_cons (ps_set (i := 3) sc__law_wish.nd rfl (Or.inl rfl) (pe_ix (kix_list (K := K)) (pe_lst (pa_cons pe_str (pa_cons pe_str pa_nil))) (pe_call C__law_taken.G (hr.mono (by decide)) (by rfl) C__law_taken.g C__law_taken.kp C__law_taken.b .nil pass0 (pa_cons (pv 0) (pa_cons pe_int pa_nil))) (fun _ _ => rfl)))
      (pss_cons (ps_set (i := 4) sc__law_wish.nd rfl (Or.inl rfl) (pe_ix (kix_list (K := K)) (pe_lst (pa_cons pe_str (pa_cons pe_str (pa_cons pe_str (pa_cons pe_str pa_nil))))) (pe_call C__law_taken.G (hr.mono (by decide)) (by rfl) C__law_taken.g C__law_taken.kp C__law_taken.b .nil pass0 (pa_cons (pv 0) (pa_cons pe_int pa_nil))) (fun _ _ => rfl)))
      (pss_cons (ps_setLc (i := 5) (own := [("_law_k", 6)]) (g := gName 6) rfl sc__law_wish.nd rfl rfl (sw_true rfl rfl rfl (by decide +kernel)) (pi_range1 (by rfl) T.n_range (pa_cons (pv 2) pa_nil)) (blkOk_by (own := [("_law_k", 6)]) (N := N__law_wish) (sc := defScope s__law_wish) (by decide +kernel)) (fun _ _ _ _ _ => (pg_name (i := 6) sc__law_wish.nd rfl (Or.inl rfl))) (fun _ _ _ _ _ => (pts_one (pt_cmpR op_eq (pe_call C__law_taken.G (hr.mono (by decide)) (by rfl) C__law_taken.g C__law_taken.kp C__law_taken.b .nil pass0 (pa_cons (pv 0) (pa_cons (pe_ix (kix_list (K := K)) (pe_lst (pa_cons pe_int (pa_cons pe_int pa_nil))) (pe_callTy call_int1 (by rfl) T.n_int (by decide +kernel) (pa_cons (pe_cmpR op_eq (pv 6) pe_int (nomark _)) pa_nil)) (fun _ _ => rfl)) pa_nil))) pe_int (nomark _)))) (fun _ _ _ _ _ => (pv 6)))
      (C8.pss_cut (ps_if (pt_cmpR op_gt (pe_call C__law_taken.G (hr.mono (by decide)) (by rfl) C__law_taken.g C__law_taken.kp C__law_taken.b .nil pass0 (pa_cons (pv 0) (pa_cons pe_int pa_nil))) pe_int (nomark _)) (pss_one (ps_set (i := 5) sc__law_wish.nd rfl (Or.inl rfl) (pe_slice (ksl_list (K := K)) (pv 5) po_none (po_some pe_int)))) pss_nil)
      (pss_one (ps_ret (pe_tup (pa_cons (pv 3) (pa_cons (pe_call C__law_taken.G (hr.mono (by decide)) (by rfl) C__law_taken.g C__law_taken.kp C__law_taken.b .nil pass0 (pa_cons (pv 0) (pa_cons (pv 1) pa_nil))) (pa_cons (pv 4) (pa_cons (pe_call C__law_taken.G (hr.mono (by decide)) (by rfl) C__law_taken.g C__law_taken.kp C__law_taken.b .nil pass0 (pa_cons (pv 0) (pa_cons pe_int pa_nil))) (pa_cons (pe_ix (kix_list (K := K)) (pe_lst (pa_cons pe_int (pa_cons pe_int (pa_cons pe_int (pa_cons pe_int (pa_cons pe_int pa_nil)))))) (pe_call C__law_taken.G (hr.mono (by decide)) (by rfl) C__law_taken.g C__law_taken.kp C__law_taken.b .nil pass0 (pa_cons (pv 0) (pa_cons pe_int pa_nil))) (fun _ _ => rfl)) (pa_cons (pe_callTy (ktuple_of (K := K)) (by rfl) T.n_tuple (by decide +kernel) (pa_cons (pv 5) pa_nil)) pa_nil))))))))))))), ?_⟩
    -- kind
    refine ⟨small (by decide), fun p np => ⟨_, rfl, ρ, 2, upd B p _, rfl, by decide, R.grow np, fun z H1 z0 z1 R1 => ?_⟩⟩
    obtain ⟨v, hv, _, hmem⟩ := atI_mem (xs := [V.str "fetch", V.str "bring"]) z0 z1
    obtain ⟨kd, rfl, hkd⟩ : ∃ kd : Str, v = V.str kd ∧ (kd = "fetch" ∨ kd = "bring") := by
      rcases List.mem_cons.mp hmem with rfl | hmem
      · exact ⟨_, rfl, .inl rfl⟩
      · rcases List.mem_cons.mp hmem with rfl | hmem
        · exact ⟨_, rfl, .inr rfl⟩
        · simp at hmem
    refine ⟨p, _, z, _, rfl, rfl, SqL.of (R1.same _ _ upd_same), hv, ?_⟩
    have sB1 : Same B (upd B p (.lst [V.str "fetch", V.str "bring"])) := same_new (R.same.free np)
    generalize upd B p (.lst [V.str "fetch", V.str "bring"]) = B1 at R1 sB1
    -- side
    refine ⟨small (by decide), fun p2 np2 => ⟨_, rfl, ρ, 4, upd B1 p2 _, rfl, by decide, R1.grow np2, fun z2 H2 z20 z21 R2 => ?_⟩⟩
    obtain ⟨v, hv, _, hmem⟩ := atI_mem (xs := [V.str "any", V.str "any", V.str "left", V.str "right"]) z20 z21
    obtain ⟨sd, rfl, hsd⟩ : ∃ sd : Str, v = V.str sd ∧ (sd = "left" ∨ sd = "right" ∨ sd = "any") := by
      simp only [List.mem_cons, List.not_mem_nil, or_false] at hmem
      rcases hmem with rfl | rfl | rfl | rfl
      · exact ⟨_, rfl, .inr (.inr rfl)⟩
      · exact ⟨_, rfl, .inr (.inr rfl)⟩
      · exact ⟨_, rfl, .inl rfl⟩
      · exact ⟨_, rfl, .inr (.inl rfl)⟩
    refine ⟨p2, _, z2, _, rfl, rfl, SqL.of (R2.same _ _ upd_same), hv, ?_⟩
    have sB2 : Same B (upd B1 p2 (.lst [V.str "any", V.str "any", V.str "left", V.str "right"])) := sB1.trans (same_new (R1.same.free np2))
    generalize upd B1 p2 (.lst [V.str "any", V.str "any", V.str "left", V.str "right"]) = B2 at R2 sB2
    -- after = [..]
    refine ⟨_, rfl, m, rfl, by omega, by omega, fun D nD => lc_range (lo := 0) (n := m.toNat) (fun i H' => ∃ B', Same B2 B' ∧ RowSt K ρ B' H' ∧ B' D = none ∧ ∃ acc : List Int, H' D = some (.lst (acc.map V.int)) ∧ Rising 0 i acc ∧ acc.length ≤ i) ?_ ?_ ?_⟩
    · exact ⟨B2, Same.refl _, R2.new nD, R2.same.free nD, [], upd_same, trivial, Nat.le_refl _⟩
    · rintro i H3 hi ⟨B3, s3, R3, bD, acc, eD, ris, hlen⟩
      have hrD : ρ.r ≠ D := fun e => by
        obtain ⟨n1, n2, er, _⟩ := R2.row
        rw [e, nD] at er
        cases er
      refine ⟨rfl, ?_⟩
      have R4 := R3.add eD hrD bD
      -- [4, 3][int(k == 0)]
      refine ⟨_, rfl, small (by decide), fun p4 np4 => ⟨_, rfl, rfl, .inr ⟨_, rfl, ?_⟩⟩⟩
      have R5 := R4.grow (o := .lst [V.int 4, V.int 3]) np4
      obtain ⟨x0, x1⟩ := b2z (decide (V.int (0 + (i : Int)) = V.int 0))
      obtain ⟨v, hv, _, hmem⟩ := atI_mem (xs := [V.int 4, V.int 3]) x0 x1
      obtain ⟨c, rfl, hc⟩ : ∃ c : Int, v = V.int c ∧ 0 < c := by
        simp only [List.mem_cons, List.not_mem_nil, or_false] at hmem
        rcases hmem with rfl | rfl
        · exact ⟨_, rfl, by decide⟩
        · exact ⟨_, rfl, by decide⟩
      refine ⟨p4, _, _, _, rfl, rfl, SqL.of upd_same, hv, ρ, c, _, rfl, hc, R5, fun z5 H5 z50 z51 R6 => ?_⟩
      have eD5 : H5 D = some (.lst (acc.map V.int)) := R6.same _ _ (by
        have nDp : D ≠ p4 := ne_of_none eD np4
        rw [upd_ne nDp]
        exact upd_same)
      have sB : Same B3 (upd (upd B3 D (.lst (acc.map V.int))) p4 (.lst [V.int 4, V.int 3])) := (same_new bD).trans (same_new (R4.same.free np4))
      have R7 : RowSt K ρ B3 H5 := R6.less sB R3.scr
      refine ⟨rfl, _, rfl, ite2 (fun e => ?_) (fun e => ?_)⟩
      · refine ⟨_, rfl, _, eD5, Nat.lt_of_le_of_lt (by rw [List.length_map]; exact hlen) (small1000 (by omega)), B3, s3, R7.put hrD bD, bD, acc ++ [(i : Int)], ?_, ris.snoc (by omega) (by omega), by rw [List.length_append]; exact Nat.succ_le_succ hlen⟩
        rw [upd_same, List.map_append]
        show some (HO.lst (acc.map V.int ++ [V.int (0 + (i : Int))])) = _
        rw [Int.zero_add]
        rfl
      · exact ⟨B3, s3, R7, bD, acc, eD5, ris.more (by omega), Nat.le_succ_of_le hlen⟩
    · rintro H3 ⟨B3, s3, R3, bD, acc, eD, ris, hlen⟩
      have hrD : ρ.r ≠ D := fun e => by
        obtain ⟨n1, n2, er, _⟩ := R2.row
        rw [e, nD] at er
        cases er
      have ris' : Rising 0 m acc := ris.more (by omega)
      have R4 := R3.add eD hrD bD
      have sB4 : Same B (upd B3 D (.lst (acc.map V.int))) := (sB2.trans s3).trans (same_new bD)
      have lD : SqL K (upd B3 D (.lst (acc.map V.int))) D (acc.map V.int) := SqL.of upd_same
      generalize upd B3 D (.lst (acc.map V.int)) = B4 at R4 sB4 lD
      have hlen5 : acc.length ≤ 5 := by omega
      -- if taken(row, 8) > 0: after = after[:2]
      refine ⟨fun σ H' => ∃ (l : Addr) (acc : List Int) (B' : Hp), σ = [some (.ref ρ.r), some (.int n), some (.int m), some (.str kd), some (.str sd), some (.ref l), none] ∧ Same B B' ∧ RowSt K ρ B' H' ∧ SqL K B' l (acc.map V.int) ∧ Rising 0 m acc ∧ acc.length ≤ 5, ?_, ?_⟩
      · refine ⟨_, rfl, ρ, 8, B4, rfl, by decide, R4, fun z5 H5 z50 z51 R5 => ⟨z5, 0, rfl, rfl, _, rfl, ite2 (fun e => ?_) (fun e => ?_)⟩⟩
        · refine ⟨_, rfl, 2, rfl, D, _, rfl, Same.l R5.same lD, fun p5 np5 => ?_⟩
          refine ⟨p5, acc.take 2, upd B4 p5 (.lst ((acc.take 2).map V.int)), rfl, sB4.trans (same_new (R5.same.free np5)), ?_, SqL.of upd_same, ris'.take 2, ?_⟩
          · have e : cutV (acc.map V.int) none (some 2) = (acc.take 2).map V.int := by
              unfold cutV
              rw [HT.sIx_none, show HT.sIx (acc.map V.int).length (acc.map V.int).length (some 2) = min 2 (acc.map V.int).length from HT.sIx_nat _ _ 2]
              rw [List.drop_zero, List.map_take, Nat.sub_zero]
              by_cases h2 : 2 ≤ (acc.map V.int).length
              · rw [Nat.min_eq_left h2]
              · rw [Nat.min_eq_right (by omega), List.take_of_length_le (Nat.le_refl _), List.take_of_length_le (by omega)]
            rw [e]
            exact R5.grow np5
          · rw [List.length_take]
            omega
        · exact ⟨D, acc, B4, rfl, sB4, R5, lD, ris', hlen5⟩
      · rintro σ H5 ⟨l, acc, B5, rfl, sB5, R5, lD, ris, hl5⟩
        -- return (kind, taken(row, shelves), side, taken(row, 2), [0, 0, 1, 2, 3][taken(row, 5)], tuple(after))
        refine ⟨_, rfl, _, rfl, _, rfl, ρ, n, B5, rfl, hn, R5, fun zs H6 zs0 zs1 R6 => ⟨_, rfl, _, rfl, ρ, 2, B5, rfl, by decide, R6, fun zc H7 zc0 zc1 R7 => ⟨small (by decide), fun p7 np7 => ⟨_, rfl, ρ, 5, upd B5 p7 _, rfl, by decide, R7.grow np7, fun zk H8 zk0 zk1 R8 => ?_⟩⟩⟩⟩
        obtain ⟨v, hv, _, hmem⟩ := atI_mem (xs := [V.int 0, V.int 0, V.int 1, V.int 2, V.int 3]) zk0 zk1
        obtain ⟨kp, rfl, hk0, hk3⟩ : ∃ c : Int, v = V.int c ∧ 0 ≤ c ∧ c ≤ 3 := by
          simp only [List.mem_cons, List.not_mem_nil, or_false] at hmem
          rcases hmem with rfl | rfl | rfl | rfl | rfl <;> exact ⟨_, rfl, by decide, by decide⟩
        have sB8 := sB5.trans (same_new (o := .lst [V.int 0, V.int 0, V.int 1, V.int 2, V.int 3]) (R7.same.free np7))
        have l8 := Same.l (same_new (o := .lst [V.int 0, V.int 0, V.int 1, V.int 2, V.int 3]) (R7.same.free np7)) lD
        have e8 := R8.same _ _ upd_same
        generalize upd B5 p7 (.lst [V.int 0, V.int 0, V.int 1, V.int 2, V.int 3]) = B8 at R8 sB8 l8
        refine ⟨p7, _, zk, _, rfl, rfl, SqL.of e8, hv, _, rfl, l, _, rfl, .inl ⟨Same.l R8.same l8, fun pt npt => ?_⟩⟩
        have R9 := R8.grow (o := .tup (acc.map V.int)) npt
        have sB9 := sB8.trans (same_new (o := .tup (acc.map V.int)) (R8.same.free npt))
        refine ⟨small (by simp), fun pw npw => ?_⟩
        have R10 := R9.grow (o := .tup [.str kd, .int zs, .str sd, .int zc, .int kp, .ref pt]) npw
        have sB10 := sB9.trans (same_new (o := .tup [.str kd, .int zs, .str sd, .int zc, .int kp, .ref pt]) (R9.same.free npw))
        refine q _ _ _ ⟨kd, zs, sd, zc, kp, acc⟩ sB10 R10 (at_wish (t := pt) (SqT.of upd_same) (SqT.of ?_)) ⟨hkd, zs0, zs1, hsd, by dsimp only; omega, hk0, hk3, ris⟩
        have n1 : pt ≠ pw := ne_of_none upd_same npw
        rw [upd_ne n1]
        exact upd_same
end

/-- a list at l that grows beside the draws: its items stand in B, itself it doesn't -/
structure Acc (K : PySem.W.Frag) (ρ : RowP) (B0 B H : Hp) (l : Addr) (xs : List V) (ds : List PyData) : Prop where
  s : Same B0 B
  R : RowSt K ρ B H
  bl : B l = none
  el : H l = some (.lst xs)
  dx : DpAll K B xs ds
  nr : ρ.r ≠ l
def del1 (H : Hp) (a : Addr) : Hp := fun b => if b = a then none else H b
theorem del1_ne {H : Hp} {a b : Addr} (h : b ≠ a) : del1 H a b = H b := if_neg h
theorem del1_same {H : Hp} {a : Addr} : del1 H a a = none := if_pos rfl
theorem same_del {B B' : Hp} {l : Addr} (s : Same B B') (h : B l = none) : Same B (del1 B' l) := fun b o e => by
  rw [del1_ne (ne_of_none e h)]
  exact s b o e
theorem sqt_del {K : PySem.W.Frag} {B : Hp} {l a : Addr} {xs ys : List V} (e : B l = some (.lst xs)) (h : SqT K B a ys) : SqT K (del1 B l) a ys := by
  rcases h with (h | ⟨o, h⟩) | h
  · refine .inl (.inl ?_)
    rw [del1_ne (fun z => by rw [z, e] at h; cases h)]
    exact h
  · refine .inl (.inr ⟨o, ?_⟩)
    rw [del1_ne (fun z => by rw [z, e] at h; cases h)]
    exact h
  · exact .inr h
theorem wish_del {K : PySem.W.Frag} {B : Hp} {l : Addr} {xs : List V} {v : V} {x : Wish} (e : B l = some (.lst xs)) (h : Dp K B v x.d) : Dp K (del1 B l) v x.d := by
  obtain ⟨a, t, rfl, h1, h2⟩ := wish_at h
  exact at_wish (sqt_del e h1) (sqt_del e h2)
section
variable {K : PySem.W.Frag} {ρ : RowP} {B0 B B' H H' : Hp} {l p : Addr} {xs : List V} {ds : List PyData} {o : HO}
theorem Acc.now (A : Acc K ρ B0 B H l xs ds) : RowSt K ρ (upd B l (.lst xs)) H := A.R.add A.el A.nr A.bl
theorem Acc.back (A : Acc K ρ B0 B H l xs ds) (R : RowSt K ρ (upd B l (.lst xs)) H') : Acc K ρ B0 B H' l xs ds :=
  ⟨A.s, R.less (same_new A.bl) A.R.scr, A.bl, R.same _ _ upd_same, A.dx, A.nr⟩
theorem Acc.back2 (A : Acc K ρ B0 B H l xs ds) (s : Same (upd B l (.lst xs)) B') (R : RowSt K ρ B' H') : Acc K ρ B0 (del1 B' l) H' l xs ds := by
  have s1 : Same B (del1 B' l) := same_del ((same_new A.bl).trans s) A.bl
  exact ⟨A.s.trans s1, R.less (fun b o e => by
    by_cases hb : b = l
    · rw [hb, del1_same] at e
      cases e
    · rw [del1_ne hb] at e
      exact e) (Same.l s1 A.R.scr), del1_same, R.same _ _ (s _ _ upd_same), dps_mono s1 A.dx, A.nr⟩
theorem Acc.grow (A : Acc K ρ B0 B H l xs ds) (h : H p = none) : Acc K ρ B0 (upd B p o) (upd H p o) l xs ds := by
  have n : l ≠ p := ne_of_none A.el h
  have z := A.R.same.free h
  exact ⟨A.s.trans (same_new z), A.R.grow h, by rw [upd_ne n]; exact A.bl, by rw [upd_ne n]; exact A.el, dps_mono (same_new z) A.dx, A.nr⟩
theorem Acc.app {v : V} {d : PyData} (A : Acc K ρ B0 B H l xs ds) (h : Dp K B v d) : Acc K ρ B0 B (upd H l (.lst (xs ++ [v]))) l (xs ++ [v]) (ds ++ [d]) :=
  ⟨A.s, A.R.put A.nr A.bl, A.bl, upd_same, dps_app A.dx (.cons h .nil), A.nr⟩
theorem Acc.start (s : Same B0 B) (R : RowSt K ρ B H) (h : H l = none) : Acc K ρ B0 B (upd H l (.lst [])) l [] [] :=
  ⟨s, R.new h, R.same.free h, upd_same, .nil, R.nr h⟩
/-- it is finished: B may know it -/
theorem Acc.done (A : Acc K ρ B0 B H l xs ds) : RowSt K ρ (upd B l (.lst xs)) H ∧ Same B0 (upd B l (.lst xs)) ∧ SqL K (upd B l (.lst xs)) l xs ∧ DpAll K (upd B l (.lst xs)) xs ds :=
  ⟨A.now, A.s.trans (same_new A.bl), SqL.of upd_same, dps_mono (same_new A.bl) A.dx⟩
end
section
variable {P : Program} {w : World} {K : PySem.W.Frag} {mg : Str → Option Value} {base : Heap}
def spStore (K : PySem.W.Frag) : Sp := fun vs H Q _ => ∃ (ρ : RowP) (B : Hp), vs = [.ref ρ.r] ∧ RowSt K ρ B H ∧
  ∀ v B' H' (S : Sto), Same B B' → RowSt K ρ B' H' → Dp K B' v S.d → StoOk S → Q v H'
/-! _law_store: 0 _law_row, 1 _law_shelves, 2 _law_k, 3 _law_room, 4 _law_aisle, 5 _law_many, 6 _law_wishes -/
abbrev s__law_store : Stmt := topS 50
abbrev N__law_store : List Str := ["_law_row", "_law_shelves", "_law_k", "_law_room", "_law_aisle", "_law_many", "_law_wishes"]
theorem sc__law_store : FnScope N__law_store ["_law_row"] (defScope s__law_store) := ⟨rfl, rfl, rfl, by decide +kernel, rfl, by decide +kernel, by decide +kernel⟩
theorem ok__law_store {f f1 f2 : Addr} {fd fd1 fd2 : FuncData} (D : Dfs K mg "_law_store" s__law_store ["_law_row"] f fd) (T : Tx K mg) (C__law_taken : Cal P w K mg base 1 "_law_taken" ["_law_row", "_law_many"] (spTaken K) f1 fd1)
    (C__law_wish : Cal P w K mg base 2 "_law_wish" ["_law_row", "_law_shelves", "_law_many"] (spWish K) f2 fd2) :
    Cal P w K mg base 3 "_law_store" ["_law_row"] (spStore K) f fd := by
  refine D.cal (D.F.ok sc__law_store (fun vs H Q E h => ?_) (fun cdv A outer s H vs Q E hr h => ?_))
  · obtain ⟨ρ, B, rfl, _⟩ := h
    rfl
  · obtain ⟨ρ, B, rfl, R, q⟩ := h
    refine ⟨_, (pss_cons (ps_set (i := 1) sc__law_store.nd rfl (Or.inl rfl) (pe_lst pa_nil))
      (pss_cons (ps_for PassesOwn.never rfl (pi_range1 (by rfl) T.n_range (pa_cons (pe_op op_add pe_int (pe_call C__law_taken.G (hr.mono (by decide)) (by rfl) C__law_taken.g C__law_taken.kp C__law_taken.b .nil pass0 (pa_cons (pv 0) (pa_cons pe_int pa_nil)))) pa_nil)) (pg_name (i := 2) sc__law_store.nd rfl (Or.inl rfl)) (pss_cons (ps_set (i := 3) sc__law_store.nd rfl (Or.inl rfl) (pe_ix (kix_list (K := K)) (pe_lst (pa_cons (pe_op op_add pe_int (pe_call C__law_taken.G (hr.mono (by decide)) (by rfl) C__law_taken.g C__law_taken.kp C__law_taken.b .nil pass0 (pa_cons (pv 0) (pa_cons pe_int pa_nil)))) (pa_cons pe_int (pa_cons (pe_call C__law_taken.G (hr.mono (by decide)) (by rfl) C__law_taken.g C__law_taken.kp C__law_taken.b .nil pass0 (pa_cons (pv 0) (pa_cons pe_int pa_nil))) pa_nil)))) (pe_call C__law_taken.G (hr.mono (by decide)) (by rfl) C__law_taken.g C__law_taken.kp C__law_taken.b .nil pass0 (pa_cons (pv 0) (pa_cons pe_int pa_nil))) (fun _ _ => rfl)))
      (pss_one (ps_expr (pe_bm PySem.F.plainAttrs_list PySem.F.slot_list_append PySem.F.type_list_append mt_append (pv 1) (pa_cons (pe_tup (pa_cons (pv 3) (pa_cons (pe_call C__law_taken.G (hr.mono (by decide)) (by rfl) C__law_taken.g C__law_taken.kp C__law_taken.b .nil pass0 (pa_cons (pv 0) (pa_cons (pe_op op_add (pv 3) pe_int) pa_nil))) (pa_cons (pe_callTy call_int1 (by rfl) T.n_int (by decide +kernel) (pa_cons (pe_cmpR op_eq (pe_call C__law_taken.G (hr.mono (by decide)) (by rfl) C__law_taken.g C__law_taken.kp C__law_taken.b .nil pass0 (pa_cons (pv 0) (pa_cons pe_int pa_nil))) pe_int (nomark _)) pa_nil)) pa_nil)))) pa_nil))))))
      (pss_cons (ps_set (i := 4) sc__law_store.nd rfl (Or.inl rfl) (pe_call C__law_taken.G (hr.mono (by decide)) (by rfl) C__law_taken.g C__law_taken.kp C__law_taken.b .nil pass0 (pa_cons (pv 0) (pa_cons (pe_op op_add (pe_callB (klen (K := K)) (by rfl) T.n_len (by decide +kernel) (pa_cons (pv 1) pa_nil)) pe_int) pa_nil))))
      (pss_cons (ps_set (i := 5) sc__law_store.nd rfl (Or.inl rfl) (pe_ix (kix_list (K := K)) (pe_lst (pa_cons (pe_op op_add pe_int (pe_call C__law_taken.G (hr.mono (by decide)) (by rfl) C__law_taken.g C__law_taken.kp C__law_taken.b .nil pass0 (pa_cons (pv 0) (pa_cons pe_int pa_nil)))) (pa_cons (pe_call C__law_taken.G (hr.mono (by decide)) (by rfl) C__law_taken.g C__law_taken.kp C__law_taken.b .nil pass0 (pa_cons (pv 0) (pa_cons pe_int pa_nil))) pa_nil))) (pe_call C__law_taken.G (hr.mono (by decide)) (by rfl) C__law_taken.g C__law_taken.kp C__law_taken.b .nil pass0 (pa_cons (pv 0) (pa_cons pe_int pa_nil))) (fun _ _ => rfl)))
      (C8.pss_cut (ps_if (PW.pt (pw_and (pt_cmpR op_eq (pv 5) pe_int (nomark _)) (pw_and1 (pt_cmpR op_gt (pe_callB (klen (K := K)) (by rfl) T.n_len (by decide +kernel) (pa_cons (pv 1) pa_nil)) pe_int (nomark _))))) (pss_one (ps_set (i := 5) sc__law_store.nd rfl (Or.inl rfl) (pe_op op_add pe_int (pe_callTy call_int1 (by rfl) T.n_int (by decide +kernel) (pa_cons (pe_cmpR op_eq (pe_call C__law_taken.G (hr.mono (by decide)) (by rfl) C__law_taken.g C__law_taken.kp C__law_taken.b .nil pass0 (pa_cons (pv 0) (pa_cons pe_int pa_nil))) pe_int (nomark _)) pa_nil))))) pss_nil)
      (pss_cons (ps_set (i := 6) sc__law_store.nd rfl (Or.inl rfl) (pe_lst pa_nil))
      (pss_cons (ps_for PassesOwn.never rfl (pi_range1 (by rfl) T.n_range (pa_cons (pv 5) pa_nil)) (pg_name (i := 2) sc__law_store.nd rfl (Or.inl rfl)) (pss_one (ps_expr (pe_bm PySem.F.plainAttrs_list PySem.F.slot_list_append PySem.F.type_list_append mt_append (pv 6) (pa_cons (pe_call C__law_wish.G (hr.mono (by decide)) (by rfl) C__law_wish.g C__law_wish.kp C__law_wish.b .nil pass0 (pa_cons (pv 0) (pa_cons (pe_callB (klen (K := K)) (by rfl) T.n_len (by decide +kernel) (pa_cons (pv 1) pa_nil)) (pa_cons (pe_ix (kix_list (K := K)) (pe_lst (pa_cons (pv 2) (pa_cons (pv 5) pa_nil))) (pe_callTy call_int1 (by rfl) T.n_int (by decide +kernel) (pa_cons (pe_cmpR op_eq (pe_call C__law_taken.G (hr.mono (by decide)) (by rfl) C__law_taken.g C__law_taken.kp C__law_taken.b .nil pass0 (pa_cons (pv 0) (pa_cons pe_int pa_nil))) pe_int (nomark _)) pa_nil)) (fun _ _ => rfl)) pa_nil)))) pa_nil)))))
      (pss_one (ps_ret (pe_tup (pa_cons (pv 1) (pa_cons (pv 4) (pa_cons (pv 6) pa_nil))))))))))))), ?_⟩
    -- shelves = []
    refine ⟨small (by simp), fun l nl => ?_⟩
    have A0 : Acc K ρ B B (upd H l (.lst [])) l [] [] := Acc.start (Same.refl _) R nl
    -- for k in range(1 + taken(row, 5))
    refine ⟨_, rfl, ρ, 5, _, rfl, by decide, A0.now, fun z H1 z0 z1 R1 => ⟨1, z, rfl, rfl, _, rfl, by omega, by omega, ?_⟩⟩
    refine for_range (lo := 0) (n := (1 + z).toNat) (fun i σ H' => ∃ (B' : Hp) (xs : List V) (ss : List Shelf) (v2 v3 : Option V), σ = [some (.ref ρ.r), some (.ref l), v2, v3, none, none, none] ∧ Acc K ρ B B' H' l xs (dshelves ss) ∧ (∀ s ∈ ss, ShelfOk s) ∧ ss.length = i)
      ⟨B, [], [], none, none, rfl, A0.back R1, fun s h => absurd h (by simp), rfl⟩ ?_ ?_
    · rintro i σ H2 hi ⟨B2, xs, ss, v2, v3, rfl, A2, hss, hlen⟩
      -- room
      refine ⟨_, rfl, ρ, 3, _, rfl, by decide, A2.now, fun a H3 a0 a1 R3 => ⟨1, a, rfl, rfl, _, rfl, ρ, 10, _, rfl, by decide, R3, fun b H4 b0 b1 R4 => ⟨small (by simp), fun p np => ⟨_, rfl, ρ, 3, _, rfl, by decide, R4.grow np, fun c H5 c0 c1 R5 => ?_⟩⟩⟩⟩
      obtain ⟨v, hv, _, hmem⟩ := atI_mem (xs := [V.int (1 + a), V.int 9, V.int b]) c0 c1
      obtain ⟨room, rfl, hr0, hr9⟩ : ∃ c : Int, v = V.int c ∧ 0 ≤ c ∧ c ≤ 9 := by
        simp only [List.mem_cons, List.not_mem_nil, or_false] at hmem
        rcases hmem with rfl | rfl | rfl
        · exact ⟨_, rfl, by omega, by omega⟩
        · exact ⟨_, rfl, by omega, by omega⟩
        · exact ⟨_, rfl, by omega, by omega⟩
      refine ⟨p, _, c, _, rfl, rfl, SqL.of (R5.same _ _ upd_same), hv, ?_⟩
      have n1 : B2 p = none := (A2.back R4).R.same.free np
      have A5 : Acc K ρ B B2 H5 l xs (dshelves ss) := A2.back (R5.less (same_new (R4.same.free np)) A2.now.scr)
      -- shelves.append((room, taken(row, room + 1), int(taken(row, 9) == 8)))
      refine ⟨_, rfl, .inl ⟨rfl, _, SqL.of A5.el⟩, _, rfl, _, rfl, _, rfl, room, 1, rfl, rfl, ρ, room + 1, _, rfl, by omega, A5.now, fun h H6 h0 h1 R6 => ⟨_, rfl, ρ, 9, _, rfl, by decide, R6, fun t H7 t0 t1 R7 => ⟨rfl, .inr ⟨_, rfl, small (by simp), fun p2 np2 => ?_⟩⟩⟩⟩
      have hst : (if decide (V.int t = V.int 8) = true then (1 : Int) else 0) = 0 ∨ (if decide (V.int t = V.int 8) = true then (1 : Int) else 0) = 1 := by
        split
        · exact .inr rfl
        · exact .inl rfl
      generalize (if decide (V.int t = V.int 8) = true then (1 : Int) else 0) = st at hst
      have A7 := (A5.back R7).grow (o := .tup [.int room, .int h, .int st]) np2
      have A8 := A7.app (v := .ref p2) (d := Shelf.d ⟨room, h, st⟩) (at_shelf (SqT.of upd_same))
      refine ⟨l, xs, _, rfl, rfl, A7.el, ?_, ?_⟩
      · have e := dps_len A7.dx
        have e2 : (dshelves ss).length = ss.length := List.length_map ..
        exact small1000 (by omega)
      · refine ⟨upd B2 p2 (.tup [.int room, .int h, .int st]), xs ++ [.ref p2], ss ++ [⟨room, h, st⟩], _, _, rfl, ?_, ?_, by rw [List.length_append]; exact congrArg (· + 1) hlen⟩
        · have e : dshelves (ss ++ [⟨room, h, st⟩]) = dshelves ss ++ [Shelf.d ⟨room, h, st⟩] := List.map_append ..
          rw [e]
          exact A8
        · intro x hx
          rcases List.mem_append.mp hx with hx | hx
          · exact hss x hx
          · rw [List.mem_singleton] at hx
            subst hx
            exact ⟨h0, by dsimp only; omega, hr9, hst⟩
    · rintro σ H2 ⟨B2, xs, ss, v2, v3, rfl, A2, hss, hlen⟩
      have hxl : xs.length = ss.length := (dps_len A2.dx).trans (List.length_map ..)
      -- aisle = taken(row, len(shelves) + 1)
      refine ⟨_, rfl, _, rfl, l, xs, rfl, .inl (SqL.of A2.el), _, 1, rfl, rfl, ρ, _, _, rfl, by omega, A2.now, fun ai H3 ai0 ai1 R3 => ?_⟩
      -- many = [1 + taken(row, 3), taken(row, 6)][taken(row, 2)]
      refine ⟨_, rfl, ρ, 3, _, rfl, by decide, R3, fun a H4 a0 a1 R4 => ⟨1, a, rfl, rfl, _, rfl, ρ, 6, _, rfl, by decide, R4, fun b H5 b0 b1 R5 => ⟨small (by simp), fun p np => ⟨_, rfl, ρ, 2, _, rfl, by decide, R5.grow np, fun c H6 c0 c1 R6 => ?_⟩⟩⟩⟩
      obtain ⟨v, hv, _, hmem⟩ := atI_mem (xs := [V.int (1 + a), V.int b]) c0 c1
      obtain ⟨many, rfl, hm0, hm5⟩ : ∃ c : Int, v = V.int c ∧ 0 ≤ c ∧ c ≤ 5 := by
        simp only [List.mem_cons, List.not_mem_nil, or_false] at hmem
        rcases hmem with rfl | rfl
        · exact ⟨_, rfl, by omega, by omega⟩
        · exact ⟨_, rfl, by omega, by omega⟩
      refine ⟨p, _, c, _, rfl, rfl, SqL.of (R6.same _ _ upd_same), hv, ?_⟩
      have A6 : Acc K ρ B B2 H6 l xs (dshelves ss) := A2.back (R6.less (same_new (R5.same.free np)) A2.now.scr)
      -- if many == 5 and len(shelves) > 3
      refine ⟨fun σ H' => ∃ (many : Int), σ = [some (.ref ρ.r), some (.ref l), v2, v3, some (.int ai), some (.int many), none] ∧ Acc K ρ B B2 H' l xs (dshelves ss) ∧ 0 ≤ many ∧ many ≤ 5, ?_, ?_⟩
      · refine ⟨_, rfl, rfl, _, rfl, ite2 (fun e => ?_) (fun e => ?_)⟩
        · refine ⟨_, rfl, l, xs, rfl, .inl (SqL.of A6.el), _, 3, rfl, rfl, _, rfl, ite2 (fun e2 => ?_) (fun e2 => ?_)⟩
          · refine ⟨_, rfl, ρ, 4, _, rfl, by decide, A6.now, fun t H7 t0 t1 R7 => ⟨rfl, .inr ⟨_, rfl, 4, _, rfl, rfl, _, rfl, A6.back R7, ?_, ?_⟩⟩⟩
            · have := (b2z (decide (V.int t = V.int 3))).1
              omega
            · have := (b2z (decide (V.int t = V.int 3))).2
              omega
          · exact ⟨many, rfl, A6, hm0, hm5⟩
        · exact ⟨many, rfl, A6, hm0, hm5⟩
      · rintro σ H7 ⟨many, rfl, A7, hm0, hm5⟩
        obtain ⟨R7, s7, l7, d7⟩ := A7.done
        -- wishes = []
        refine ⟨small (by simp), fun m nm => ?_⟩
        have W0 : Acc K ρ (upd B2 l (.lst xs)) (upd B2 l (.lst xs)) (upd H7 m (.lst [])) m [] [] := Acc.start (Same.refl _) R7 nm
        -- for k in range(many)
        refine ⟨_, rfl, many, rfl, by omega, by omega, for_range (lo := 0) (n := many.toNat) (fun i σ H' => ∃ (B' : Hp) (ys : List V) (ws : List Wish) (v2 : Option V), σ = [some (.ref ρ.r), some (.ref l), v2, v3, some (.int ai), some (.int many), some (.ref m)] ∧ Acc K ρ (upd B2 l (.lst xs)) B' H' m ys (dwishes ws) ∧ (∀ x ∈ ws, WishOk ss.length many x) ∧ ws.length = i)
          ⟨_, [], [], v2, rfl, W0, fun s h => absurd h (by simp), rfl⟩ ?_ ?_⟩
        · rintro i σ H8 hi ⟨B8, ys, ws, v2, rfl, A8, hws, hwl⟩
          have l8 : SqL K B8 l xs := Same.l A8.s l7
          -- wishes.append(wish(row, len(shelves), [k, many][int(taken(row, 12) == 11)]))
          refine ⟨_, rfl, .inl ⟨rfl, _, SqL.of A8.el⟩, _, rfl, _, rfl, l, xs, rfl, .inl (Same.l A8.R.same l8), _, rfl, _, rfl, small (by simp), fun p np => ⟨_, rfl, ρ, 12, _, rfl, by decide, A8.now.grow np, fun t H9 t0 t1 R9 => ⟨rfl, .inr ⟨_, rfl, ?_⟩⟩⟩⟩
          obtain ⟨x0, x1⟩ := b2z (decide (V.int t = V.int 11))
          obtain ⟨v, hv, _, hmem⟩ := atI_mem (xs := [V.int (0 + (i : Int)), V.int many]) x0 x1
          obtain ⟨c, rfl, hc0, hc1⟩ : ∃ c : Int, v = V.int c ∧ 0 ≤ c ∧ c ≤ many := by
            simp only [List.mem_cons, List.not_mem_nil, or_false] at hmem
            rcases hmem with rfl | rfl
            · exact ⟨_, rfl, by omega, by omega⟩
            · exact ⟨_, rfl, by omega, by omega⟩
          have A9 : Acc K ρ _ B8 H9 m ys (dwishes ws) := A8.back (R9.less (same_new (A8.now.same.free np)) A8.now.scr)
          refine ⟨p, _, _, _, rfl, rfl, SqL.of (R9.same _ _ upd_same), hv, ρ, xs.length, c, _, rfl, by omega, hc0, by omega, A9.now, fun v B10 H10 x s10 R10 d10 hx => ?_⟩
          have A10 := A9.back2 s10 R10
          have A11 := A10.app (wish_del (s10 _ _ upd_same) d10)
          refine ⟨m, ys, _, rfl, rfl, A10.el, ?_, ?_⟩
          · have e := dps_len A10.dx
            have e2 : (dwishes ws).length = ws.length := List.length_map ..
            exact small1000 (by omega)
          · refine ⟨del1 B10 m, ys ++ [v], ws ++ [x], _, rfl, ?_, ?_, by rw [List.length_append]; exact congrArg (· + 1) hwl⟩
            · have e : dwishes (ws ++ [x]) = dwishes ws ++ [x.d] := List.map_append ..
              rw [e]
              exact A11
            · intro y hy
              rcases List.mem_append.mp hy with hy | hy
              · exact hws y hy
              · rw [List.mem_singleton] at hy
                subst hy
                rw [hxl] at hx
                exact ⟨hx.kind, hx.s0, hx.s1, hx.side, hx.crew, hx.k0, hx.k3, hx.after.more hc1⟩
        · rintro σ H8 ⟨B8, ys, ws, v2, rfl, A8, hws, hwl⟩
          obtain ⟨R8, s8, l8, d8⟩ := A8.done
          -- return (shelves, aisle, wishes)
          refine ⟨_, rfl, _, rfl, _, rfl, small (by simp), fun p np => ?_⟩
          have z := R8.same.free np
          have e1 : Same (upd B2 l (.lst xs)) (upd (upd B8 m (.lst ys)) p (.tup [.ref l, .int ai, .ref m])) := s8.trans (same_new z)
          refine q _ _ _ ⟨ss, ai, ws⟩ (s7.trans e1) (R8.grow np) (StoAt.d (l := l) (m := m) (xs := xs) (ys := ys) ⟨SqT.of upd_same, Same.l e1 l7, dps_mono e1 d7, Same.l (same_new z) l8, dps_mono (same_new z) d8⟩) ?_
          have hws' : ∀ x ∈ ws, WishOk ss.length ws.length x := fun x hx => by
            have e : (ws.length : Int) = many := by omega
            rw [e]
            exact hws x hx
          exact ⟨by dsimp only; omega, by dsimp only; omega, hss, ai0, by dsimp only; omega, by dsimp only; omega, hws'⟩
end

/-! ## stores -/
structure Tc (K : PySem.W.Frag) (mg : Str → Option Value) : Prop where
  c_MOST_SHELVES : ∃ t, mg "MOST_SHELVES" = some (.int 5 t)
  c_MOST_ROOM : ∃ t, mg "MOST_ROOM" = some (.int 9 t)
  c_MOST_WISHES : ∃ t, mg "MOST_WISHES" = some (.int 5 t)
  c_MOST_KEEP : ∃ t, mg "MOST_KEEP" = some (.int 3 t)
  c_KINDS : ∃ a, mg "KINDS" = some (.ref a) ∧ ∀ H, SqT K H a [.str "fetch", .str "bring"]
  c_SIDES : ∃ a, mg "SIDES" = some (.ref a) ∧ ∀ H, SqT K H a [.str "left", .str "right", .str "any"]
structure TSx (K : PySem.W.Frag) (mg : Str → Option Value) (C fI fS fW : Addr) (fdI fdS fdW : FuncData) : Prop where
  cl : Cls K C
  mkS : Mk K C fI
  g : mg "Store" = some (.ref C)
  nS : NoAttr K C "_shelves"
  nW : NoAttr K C "_wishes"
  nA : NoAttr K C "aisle"
  m_shelves : Meth K C "shelves" fS
  m_wishes : Meth K C "wishes" fW
  b_init : Binds K fdI ["self", "shelves", "aisle", "wishes"] []
  b_shelves : Binds K fdS ["self"] []
  b_wishes : Binds K fdW ["self"] []
def fsS (l m : Addr) (a : Int) : List (Str × V) := putF "aisle" (.int a) (putF "_wishes" (.ref m) (putF "_shelves" (.ref l) []))
theorem neWS : ¬ (("_shelves" : Str) = "_wishes") := by decide +kernel
theorem neSA : ¬ (("_shelves" : Str) = "aisle") := by decide +kernel
theorem neWA : ¬ (("_wishes" : Str) = "aisle") := by decide +kernel
theorem nshA : ¬ (("shelves" : Str) = "aisle") := by decide +kernel
theorem nshW : ¬ (("shelves" : Str) = "_wishes") := by decide +kernel
theorem nshS : ¬ (("shelves" : Str) = "_shelves") := by decide +kernel
theorem nwiA : ¬ (("wishes" : Str) = "aisle") := by decide +kernel
theorem nwiW : ¬ (("wishes" : Str) = "_wishes") := by decide +kernel
theorem nwiS : ¬ (("wishes" : Str) = "_shelves") := by decide +kernel
theorem fsS_sh {l m : Addr} {a : Int} : (fsS l m a).lookup ("_shelves" : Str) = some (.ref l) := by
  unfold fsS
  rw [lookup_putF, if_neg neSA, lookup_putF, if_neg neWS, lookup_putF, if_pos rfl]
theorem fsS_wi {l m : Addr} {a : Int} : (fsS l m a).lookup ("_wishes" : Str) = some (.ref m) := by
  unfold fsS
  rw [lookup_putF, if_neg neWA, lookup_putF, if_pos rfl]
theorem fsS_ai {l m : Addr} {a : Int} : (fsS l m a).lookup ("aisle" : Str) = some (.int a) := by
  unfold fsS
  rw [lookup_putF, if_pos rfl]
theorem fsS_m1 {l m : Addr} {a : Int} : (fsS l m a).lookup ("shelves" : Str) = none := by
  unfold fsS
  rw [lookup_putF, if_neg nshA, lookup_putF, if_neg nshW, lookup_putF, if_neg nshS]
  rfl
theorem fsS_m2 {l m : Addr} {a : Int} : (fsS l m a).lookup ("wishes" : Str) = none := by
  unfold fsS
  rw [lookup_putF, if_neg nwiA, lookup_putF, if_neg nwiW, lookup_putF, if_neg nwiS]
  rfl
theorem putF_len (f : Str) (v : V) : ∀ fs : List (Str × V), (putF f v fs).length ≤ fs.length + 1
  | [] => Nat.le_refl _
  | (g, x) :: r => by
    unfold putF
    split
    · exact Nat.le_succ _
    · exact Nat.succ_le_succ (putF_len f v r)
/-- the store's object -/
structure ObAt (K : PySem.W.Frag) (C : Addr) (H : Hp) (p dx l m : Addr) (xs ys : List V) (S : Sto) : Prop where
  o : H p = some (.ins C dx (fsS l m S.aisle))
  l : SqL K H l xs
  dx : DpAll K H xs (dshelves S.shelves)
  m : SqL K H m ys
  dy : DpAll K H ys (dwishes S.wishes)
def Ob (K : PySem.W.Frag) (C : Addr) (H : Hp) (p : Addr) (S : Sto) : Prop := ∃ dx l m xs ys, ObAt K C H p dx l m xs ys S
theorem Ob.mono {K : PySem.W.Frag} {C : Addr} {H H' : Hp} {p : Addr} {S : Sto} (s : Same H H') : Ob K C H p S → Ob K C H' p S := by
  rintro ⟨dx, l, m, xs, ys, h⟩
  exact ⟨dx, l, m, xs, ys, s _ _ h.o, Same.l s h.l, dps_mono s h.dx, Same.l s h.m, dps_mono s h.dy⟩
theorem rising_iff {lo n i : Int} {l : List Int} : Rising lo n (i :: l) ↔ lo ≤ i ∧ i < n ∧ Rising (i + 1) n l := Iff.rfl
section
variable {P : Program} {w : World} {K : PySem.W.Frag} {mg : Str → Option Value} {base : Heap}
def spRising (K : PySem.W.Frag) : Sp := fun vs H Q _ => ∃ (t : Addr) (l : List Int) (m : Int), vs = [.ref t, .int m] ∧ SqT K H t (l.map V.int) ∧ ∀ b, (b = true ↔ Rising 0 m l) → Q (.bl b) H
/-! _is_rising: 0 numbers, 1 many, 2 lowest, 3 number -/
abbrev s__is_rising : Stmt := topS 46
abbrev N__is_rising : List Str := ["numbers", "many", "lowest", "number"]
theorem sc__is_rising : FnScope N__is_rising ["numbers", "many"] (defScope s__is_rising) := ⟨rfl, rfl, rfl, by decide +kernel, rfl, by decide +kernel, by decide +kernel⟩
theorem ok__is_rising {f : Addr} {fd : FuncData} (D : Dfs K mg "_is_rising" s__is_rising ["numbers", "many"] f fd) : Cal P w K mg base 1 "_is_rising" ["numbers", "many"] (spRising K) f fd := by
  refine D.cal (D.F.ok sc__is_rising (fun vs H Q E h => ?_) (fun cdv A outer s H vs Q E hr h => ?_))
  · obtain ⟨t, l, m, rfl, _⟩ := h
    rfl
  · obtain ⟨t, l, m, rfl, ht, q⟩ := h
    refine ⟨_, (pss_cons (ps_set (i := 2) sc__is_rising.nd rfl (Or.inl rfl) pe_int)
      (pss_cons (ps_for PassesOwn.never rfl (pi_tup (pv 0)) (pg_name (i := 3) sc__is_rising.nd rfl (Or.inl rfl)) (pss_cons (ps_if (pt_not (pt_chain op_le op_lt (pv 2) (pv 3) (pv 1))) (pss_one (ps_ret pe_bl)) pss_nil)
      (pss_one (ps_set (i := 2) sc__is_rising.nd rfl (Or.inl rfl) (pe_op op_add (pv 3) pe_int)))))
      (pss_one (ps_ret pe_bl)))), ?_⟩
    refine ⟨_, rfl, t, rfl, ⟨_, ht⟩, for_tup (K := K) (a := t) (xs := l.map V.int) (fun i σ H' => ∃ (lo : Int) (v : Option V), σ = [some (.ref t), some (.int m), some (.int lo), v] ∧ H' = H ∧ (Rising 0 m l ↔ Rising lo m (l.drop i)))
      ⟨0, none, rfl, rfl, Iff.rfl⟩ (fun i σ H' _ ⟨_, _, _, e, _⟩ => by rw [e]; exact ht) ?_ ?_⟩
    · rintro i y σ H' hi ⟨lo, v, rfl, rfl, hri⟩
      obtain ⟨z, hz, rfl⟩ : ∃ z, l[i]? = some z ∧ y = V.int z := by
        rw [List.getElem?_map] at hi
        cases e : l[i]? with
        | none =>
          rw [e] at hi
          cases hi
        | some z =>
          rw [e] at hi
          exact ⟨z, rfl, (Option.some.inj hi).symm⟩
      have hd : l.drop i = z :: l.drop (i + 1) := by
        obtain ⟨h1, h2⟩ := List.getElem?_eq_some_iff.mp hz
        rw [List.drop_eq_getElem_cons h1, h2]
      rw [hd, rising_iff] at hri
      refine ⟨_, rfl, _, rfl, _, _, rfl, rfl, _, rfl, ite2 (fun e => ?_) (fun e => ?_)⟩
      · have e1 := yed e
        refine ⟨_, rfl, _, _, rfl, rfl, _, rfl, ite2 (fun e => ?_) (fun e => ?_)⟩
        · have e2 : ¬ z < m := by
            intro z2
            rw [decide_eq_true z2] at e
            cases e
          exact q false ⟨fun h => absurd h (by decide), fun h => absurd (hri.mp h).2.1 e2⟩
        · have e2 : z < m := by
            by_cases z2 : z < m
            · exact z2
            · rw [decide_eq_false z2] at e
              exact absurd rfl e
          refine ⟨_, rfl, _, _, rfl, rfl, z + 1, some (.int z), rfl, rfl, ?_⟩
          exact hri.trans ⟨fun h => h.2.2, fun h => ⟨e1, e2, h⟩⟩
      · have e1 := nod e
        refine ⟨_, rfl, iteT ?_⟩
        exact q false ⟨fun h => absurd h (by decide), fun h => absurd (hri.mp h).1 e1⟩
    · rintro σ H' ⟨lo, v, rfl, rfl, hri⟩
      rw [List.length_map, List.drop_length] at hri
      exact q true ⟨fun _ => hri.mpr trivial, fun _ => rfl⟩
def spIsShelf (K : PySem.W.Frag) : Sp := fun vs H Q _ => ∃ (v : V) (s : Shelf), vs = [v] ∧ Dp K H v s.d ∧ ∀ b H', (b = true ↔ ShelfOk s) → Same H H' → Q (.bl b) H'
/-! _is_shelf: 0 shelf, 1 room, 2 has, 3 sticks -/
abbrev s__is_shelf : Stmt := topS 44
abbrev N__is_shelf : List Str := ["shelf", "room", "has", "sticks"]
theorem sc__is_shelf : FnScope N__is_shelf ["shelf"] (defScope s__is_shelf) := ⟨rfl, rfl, rfl, by decide +kernel, rfl, by decide +kernel, by decide +kernel⟩
theorem ok__is_shelf {f : Addr} {fd : FuncData} (D : Dfs K mg "_is_shelf" s__is_shelf ["shelf"] f fd) (T : Tx K mg) (Tk : Tc K mg) : Cal P w K mg base 1 "_is_shelf" ["shelf"] (spIsShelf K) f fd := by
  obtain ⟨_, g_MOST_ROOM⟩ := Tk.c_MOST_ROOM
  refine D.cal (D.F.ok sc__is_shelf (fun vs H Q E h => ?_) (fun cdv A outer s H vs Q E hr h => ?_))
  · obtain ⟨v, S, rfl, _⟩ := h
    rfl
  · obtain ⟨v, S, rfl, hv, q⟩ := h
    obtain ⟨a, rfl, ha⟩ := shelf_at hv
    refine ⟨_, (pss_cons (ps_if (PW.pt (pw_or (pt_not (pt_val (pe_callB (kisi (K := K)) (by rfl) T.n_isinstance (by decide +kernel) (pa_cons (pv 0) (pa_cons (pe_bltn (v := .ty "tuple") (by rfl) T.n_tuple boot_tuple rfl) pa_nil))))) (pw_or1 (pt_cmpR op_ne (pe_callB (klen (K := K)) (by rfl) T.n_len (by decide +kernel) (pa_cons (pv 0) pa_nil)) pe_int (nomark _))))) (pss_one (ps_ret pe_bl)) pss_nil)
      (pss_cons (ps_asg (pv 0) (pg_tup (by rfl) (pgs_cons (pg_name (i := 1) sc__is_shelf.nd rfl (Or.inl rfl)) (pgs_cons (pg_name (i := 2) sc__is_shelf.nd rfl (Or.inl rfl)) (pgs_cons (pg_name (i := 3) sc__is_shelf.nd rfl (Or.inl rfl)) pgs_nil)))))
      (pss_one (ps_ret (pe_and (pe_chain3 op_le op_le op_le pe_int (pv 2) (pv 1) (pe_glob (v := .int 9) (by rfl) g_MOST_ROOM ⟨_, rfl⟩)) (pe_one (pe_cmpR (kin_seq (K := K)) (pv 3) (pe_tup (pa_cons pe_int (pa_cons pe_int pa_nil))) (by rfl)))))))), ?_⟩
    refine ⟨_, rfl, _, _, _, _, true, rfl, .ty "tuple", tyx_tup ha, kit_ty (by decide +kernel), _, rfl, iteF ⟨_, rfl, a, _, rfl, .inr ha, rfl, _, rfl, iteF ?_⟩⟩
    refine ⟨_, rfl, a, _, rfl, ha, rfl, _, _, rfl, _, _, rfl, _, _, rfl, rfl, ?_⟩
    refine ⟨_, rfl, _, _, rfl, rfl, _, rfl, ite2 (fun e => ?_) (fun e => ?_)⟩
    · have e1 := yed e
      refine ⟨_, rfl, _, _, rfl, rfl, _, rfl, ite2 (fun e => ?_) (fun e => ?_)⟩
      · have e2 := yed e
        refine ⟨_, _, rfl, rfl, _, rfl, ite2 (fun e => ?_) (fun e => ?_)⟩
        · have e3 := yed e
          refine ⟨_, rfl, small (by simp), fun p np => ⟨p, _, rfl, .inr tup_new, rfl, rfl, ?_⟩⟩
          refine q _ _ ?_ (same_new np)
          show inV (.int S.sticks) [.int 0, .int 1] = true ↔ _
          unfold inV
          simp only [List.any_cons, List.any_nil, Bool.or_false, Bool.or_eq_true]
          constructor
          · intro h
            refine ⟨e1, e2, e3, ?_⟩
            rcases h with h | h
            · exact .inl (by simpa [eqV] using Eq.symm (of_decide_eq_true h))
            · exact .inr (by simpa [eqV] using Eq.symm (of_decide_eq_true h))
          · rintro ⟨_, _, _, h | h⟩
            · exact .inl (by rw [h]; rfl)
            · exact .inr (by rw [h]; rfl)
        · have e3 := nod e
          exact q false _ ⟨fun h => absurd h (by decide), fun h => absurd h.h2 e3⟩ (Same.refl _)
      · have e2 := nod e
        exact ⟨_, rfl, iteF (q false _ ⟨fun h => absurd h (by decide), fun h => absurd h.h1 e2⟩ (Same.refl _))⟩
    · have e1 := nod e
      exact ⟨_, rfl, iteF (q false _ ⟨fun h => absurd h (by decide), fun h => absurd h.h0 e1⟩ (Same.refl _))⟩
end

section
variable {P : Program} {w : World} {K : PySem.W.Frag} {mg : Str → Option Value} {base : Heap}
def spIsWish (K : PySem.W.Frag) : Sp := fun vs H Q _ => ∃ (v : V) (x : Wish) (n m : Int), vs = [v, .int n, .int m] ∧ Dp K H v x.d ∧ ∀ b H', (b = true ↔ WishOk n m x) → Same H H' → Q (.bl b) H'
/-! _is_wish: 0 wish, 1 many_shelves, 2 many_wishes, 3 kind, 4 shelf, 5 side, 6 crew, 7 keep, 8 after -/
abbrev s__is_wish : Stmt := topS 45
abbrev N__is_wish : List Str := ["wish", "many_shelves", "many_wishes", "kind", "shelf", "side", "crew", "keep", "after"]
theorem sc__is_wish : FnScope N__is_wish ["wish", "many_shelves", "many_wishes"] (defScope s__is_wish) := ⟨rfl, rfl, rfl, by decide +kernel, rfl, by decide +kernel, by decide +kernel⟩
theorem ok__is_wish {f f1 : Addr} {fd fd1 : FuncData} (D : Dfs K mg "_is_wish" s__is_wish ["wish", "many_shelves", "many_wishes"] f fd) (T : Tx K mg) (Tk : Tc K mg) (C__is_rising : Cal P w K mg base 1 "_is_rising" ["numbers", "many"] (spRising K) f1 fd1) :
    Cal P w K mg base 2 "_is_wish" ["wish", "many_shelves", "many_wishes"] (spIsWish K) f fd := by
  obtain ⟨_, g_MOST_KEEP⟩ := Tk.c_MOST_KEEP
  obtain ⟨a_KINDS, g_KINDS, hK⟩ := Tk.c_KINDS
  obtain ⟨a_SIDES, g_SIDES, hSd⟩ := Tk.c_SIDES
  refine D.cal (D.F.ok sc__is_wish (fun vs H Q E h => ?_) (fun cdv A outer s H vs Q E hr h => ?_))
  · obtain ⟨v, x, n, m, rfl, _⟩ := h
    rfl
  · obtain ⟨v, x, n, m, rfl, hv, q⟩ := h
    obtain ⟨a, t, rfl, ha, ht⟩ := wish_at hv
    obtain ⟨kind, shelf, side, crew, keep, after⟩ := x
    dsimp only at ha ht
    refine ⟨_, (pss_cons (ps_if (PW.pt (pw_or (pt_not (pt_val (pe_callB (kisi (K := K)) (by rfl) T.n_isinstance (by decide +kernel) (pa_cons (pv 0) (pa_cons (pe_bltn (v := .ty "tuple") (by rfl) T.n_tuple boot_tuple rfl) pa_nil))))) (pw_or1 (pt_cmpR op_ne (pe_callB (klen (K := K)) (by rfl) T.n_len (by decide +kernel) (pa_cons (pv 0) pa_nil)) pe_int (nomark _))))) (pss_one (ps_ret pe_bl)) pss_nil)
      (pss_cons (ps_asg (pv 0) (pg_tup (by rfl) (pgs_cons (pg_name (i := 3) sc__is_wish.nd rfl (Or.inl rfl)) (pgs_cons (pg_name (i := 4) sc__is_wish.nd rfl (Or.inl rfl)) (pgs_cons (pg_name (i := 5) sc__is_wish.nd rfl (Or.inl rfl)) (pgs_cons (pg_name (i := 6) sc__is_wish.nd rfl (Or.inl rfl)) (pgs_cons (pg_name (i := 7) sc__is_wish.nd rfl (Or.inl rfl)) (pgs_cons (pg_name (i := 8) sc__is_wish.nd rfl (Or.inl rfl)) pgs_nil))))))))
      (pss_cons (ps_if (PW.pt (pw_or (pt_cmpR (knotIn_seq (K := K)) (pv 3) (pe_glob (v := .ref a_KINDS) (by rfl) g_KINDS rfl) (by rfl)) (pw_or (pt_cmpR (knotIn_seq (K := K)) (pv 5) (pe_glob (v := .ref a_SIDES) (by rfl) g_SIDES rfl) (by rfl)) (pw_or1 (pt_cmpR (knotIn_seq (K := K)) (pv 6) (pe_tup (pa_cons pe_int (pa_cons pe_int pa_nil))) (by rfl)))))) (pss_one (ps_ret pe_bl)) pss_nil)
      (pss_cons (ps_if (PW.pt (pw_or (pt_not (pt_chain op_le op_lt pe_int (pv 4) (pv 1))) (pw_or1 (pt_not (pt_chain op_le op_le pe_int (pv 7) (pe_glob (v := .int 3) (by rfl) g_MOST_KEEP ⟨_, rfl⟩)))))) (pss_one (ps_ret pe_bl)) pss_nil)
      (pss_one (ps_ret (pe_and (pe_callB (kisi (K := K)) (by rfl) T.n_isinstance (by decide +kernel) (pa_cons (pv 8) (pa_cons (pe_bltn (v := .ty "tuple") (by rfl) T.n_tuple boot_tuple rfl) pa_nil))) (pe_one (pe_call C__is_rising.G (hr.mono (by decide)) (by rfl) C__is_rising.g C__is_rising.kp C__is_rising.b .nil pass0 (pa_cons (pv 8) (pa_cons (pv 2) pa_nil))))))))))), ?_⟩
    refine ⟨_, rfl, _, _, _, _, true, rfl, .ty "tuple", tyx_tup ha, kit_ty (by decide +kernel), _, rfl, iteF ⟨_, rfl, a, _, rfl, .inr ha, rfl, _, rfl, iteF ?_⟩⟩
    refine ⟨_, rfl, a, _, rfl, ha, rfl, _, _, rfl, _, _, rfl, _, _, rfl, _, _, rfl, _, _, rfl, _, _, rfl, rfl, ?_⟩
    have ik : inV (.str kind) [.str "fetch", .str "bring"] = true ↔ kind = "fetch" ∨ kind = "bring" := by
      have e := inV_strs (x := kind) (l := ["fetch", "bring"])
      rw [List.mem_cons, List.mem_singleton] at e
      exact e
    have isd : inV (.str side) [.str "left", .str "right", .str "any"] = true ↔ side = "left" ∨ side = "right" ∨ side = "any" := by
      have e := inV_strs (x := side) (l := ["left", "right", "any"])
      rw [List.mem_cons, List.mem_cons, List.mem_singleton] at e
      exact e
    have ic : inV (.int crew) [.int 0, .int 1] = true ↔ crew = 0 ∨ crew = 1 := by
      have e := inV_ints (x := crew) (l := [0, 1])
      rw [List.mem_cons, List.mem_singleton] at e
      exact e
    refine ⟨_, rfl, a_KINDS, _, rfl, .inr (hK _), rfl, rfl, _, rfl, ite2 (fun e => iteT ?_) (fun e => ?_)⟩
    · have e1 : ¬ (kind = "fetch" ∨ kind = "bring") := fun z => by
        have z2 := ik.mpr z
        rw [if_pos rfl, z2] at e
        cases e
      exact q false _ ⟨fun h => absurd h (by decide), fun h => absurd h.kind e1⟩ (Same.refl _)
    have k1 : kind = "fetch" ∨ kind = "bring" := ik.mp (by
      rw [if_pos rfl] at e
      cases z : inV (.str kind) [.str "fetch", .str "bring"] with
      | true => rfl
      | false => rw [z] at e; exact absurd rfl e)
    refine ⟨_, rfl, a_SIDES, _, rfl, .inr (hSd _), rfl, rfl, _, rfl, ite2 (fun e => iteT ?_) (fun e => ?_)⟩
    · have e1 : ¬ (side = "left" ∨ side = "right" ∨ side = "any") := fun z => by
        have z2 := isd.mpr z
        rw [if_pos rfl, z2] at e
        cases e
      exact q false _ ⟨fun h => absurd h (by decide), fun h => absurd h.side e1⟩ (Same.refl _)
    have s1 : side = "left" ∨ side = "right" ∨ side = "any" := isd.mp (by
      rw [if_pos rfl] at e
      cases z : inV (.str side) [.str "left", .str "right", .str "any"] with
      | true => rfl
      | false => rw [z] at e; exact absurd rfl e)
    refine ⟨_, rfl, small (by simp), fun p np => ⟨p, _, rfl, .inr tup_new, rfl, rfl, _, rfl, ite2 (fun e => ?_) (fun e => ?_)⟩⟩
    · have e1 : ¬ (crew = 0 ∨ crew = 1) := fun z => by
        have z2 := ic.mpr z
        rw [if_pos rfl, z2] at e
        cases e
      exact q false _ ⟨fun h => absurd h (by decide), fun h => absurd h.crew e1⟩ (same_new np)
    have c1 : crew = 0 ∨ crew = 1 := ic.mp (by
      rw [if_pos rfl] at e
      cases z : inV (.int crew) [.int 0, .int 1] with
      | true => rfl
      | false => rw [z] at e; exact absurd rfl e)
    -- 0 <= shelf < many_shelves
    refine ⟨_, rfl, _, _, rfl, rfl, _, rfl, ite2 (fun e => ?_) (fun e => ?_)⟩
    rotate_left
    · have e1 := nod e
      exact ⟨_, rfl, iteT (iteT (q false _ ⟨fun h => absurd h (by decide), fun h => absurd h.s0 e1⟩ (same_new np)))⟩
    have e1 := yed e
    refine ⟨_, rfl, _, _, rfl, rfl, _, rfl, ?_⟩
    by_cases e2 : shelf < n
    rotate_left
    · exact itnF e2 (iteT (q false _ ⟨fun h => absurd h (by decide), fun h => absurd h.s1 e2⟩ (same_new np)))
    refine iteNS e2 ?_
    -- 0 <= keep <= MOST_KEEP
    refine ⟨_, rfl, _, _, rfl, rfl, _, rfl, ite2 (fun e => ?_) (fun e => ?_)⟩
    rotate_left
    · have e3 := nod e
      exact ⟨_, rfl, iteT (q false _ ⟨fun h => absurd h (by decide), fun h => absurd h.k0 e3⟩ (same_new np))⟩
    have e3 := yed e
    refine ⟨_, _, rfl, rfl, _, rfl, ?_⟩
    by_cases e4 : keep ≤ 3
    rotate_left
    · exact itnF e4 (q false _ ⟨fun h => absurd h (by decide), fun h => absurd h.k3 e4⟩ (same_new np))
    refine iteNS e4 ?_
    have ht2 := Same.t (same_new (o := .tup [.int 0, .int 1]) np) ht
    refine ⟨_, rfl, _, _, _, _, true, rfl, .ty "tuple", tyx_tup ht2, kit_ty (by decide +kernel), _, rfl, iteT ?_⟩
    refine ⟨_, rfl, _, rfl, t, after, m, rfl, ht2, fun b hb => q b _ ?_ (same_new np)⟩
    rw [hb]
    exact ⟨fun h => ⟨k1, e1, e2, s1, c1, e3, e4, h⟩, fun h => h.after⟩
end

section
variable {P : Program} {w : World} {K : PySem.W.Frag} {mg : Str → Option Value} {base : Heap}
/-- the store that is handed in is one -/
def spRefuse0 (K : PySem.W.Frag) : Sp := fun vs H Q _ => ∃ (l m : Addr) (xs ys : List V) (S : Sto), vs = [.ref l, .int S.aisle, .ref m] ∧ SqL K H l xs ∧ DpAll K H xs (dshelves S.shelves) ∧ SqL K H m ys ∧ DpAll K H ys (dwishes S.wishes) ∧ StoOk S ∧ ∀ H', Same H H' → Q .non H'
/-! _refuse_no_store: 0 shelves, 1 aisle, 2 wishes, 3 number, 4 shelf, 5 wish -/
abbrev s__refuse_no_store : Stmt := topS 43
abbrev N__refuse_no_store : List Str := ["shelves", "aisle", "wishes", "number", "shelf", "wish"]
theorem sc__refuse_no_store : FnScope N__refuse_no_store ["shelves", "aisle", "wishes"] (defScope s__refuse_no_store) := ⟨rfl, rfl, rfl, by decide +kernel, rfl, by decide +kernel, by decide +kernel⟩
theorem ok__refuse_no_store {f f1 f2 : Addr} {fd fd1 fd2 : FuncData} (D : Dfs K mg "_refuse_no_store" s__refuse_no_store ["shelves", "aisle", "wishes"] f fd) (T : Tx K mg) (Tk : Tc K mg) (C__is_shelf : Cal P w K mg base 1 "_is_shelf" ["shelf"] (spIsShelf K) f1 fd1)
    (C__is_wish : Cal P w K mg base 2 "_is_wish" ["wish", "many_shelves", "many_wishes"] (spIsWish K) f2 fd2) : Cal P w K mg base 3 "_refuse_no_store" ["shelves", "aisle", "wishes"] (spRefuse0 K) f fd := by
  obtain ⟨_, g_MOST_SHELVES⟩ := Tk.c_MOST_SHELVES
  obtain ⟨_, g_MOST_WISHES⟩ := Tk.c_MOST_WISHES
  refine D.cal (D.F.ok sc__refuse_no_store (fun vs H Q E h => ?_) (fun cdv A outer s H vs Q E hr h => ?_))
  · obtain ⟨l, m, xs, ys, S, rfl, _⟩ := h
    rfl
  · obtain ⟨l, m, xs, ys, S, rfl, hl, dl, hm, dm, ok, q⟩ := h
    have lx : xs.length = S.shelves.length := (dps_len dl).trans (List.length_map ..)
    have ly : ys.length = S.wishes.length := (dps_len dm).trans (List.length_map ..)
    have n1 := ok.n1
    have n5 := ok.n5
    have w5 := ok.w5
    have a0 := ok.a0
    have a1 := ok.a1
    refine ⟨_, (pss_cons (ps_if (pt_not (pt_chain op_le op_le pe_int (pe_callB (klen (K := K)) (by rfl) T.n_len (by decide +kernel) (pa_cons (pv 0) pa_nil)) (pe_glob (v := .int 5) (by rfl) g_MOST_SHELVES ⟨_, rfl⟩))) (pss_one ps_never) pss_nil)
      (pss_cons (ps_for PassesOwn.never rfl (pi_enum (by rfl) T.n_enumerate (pa_cons (pv 0) pa_nil)) (pg_tup (by rfl) (pgs_cons (pg_name (i := 3) sc__refuse_no_store.nd rfl (Or.inl rfl)) (pgs_cons (pg_name (i := 4) sc__refuse_no_store.nd rfl (Or.inl rfl)) pgs_nil))) (pss_one (ps_if (pt_not (pt_val (pe_call C__is_shelf.G (hr.mono (by decide)) (by rfl) C__is_shelf.g C__is_shelf.kp C__is_shelf.b .nil pass0 (pa_cons (pv 4) pa_nil)))) (pss_one ps_never) pss_nil)))
      (pss_cons (ps_if (pt_not (pt_chain op_le op_le pe_int (pv 1) (pe_callB (klen (K := K)) (by rfl) T.n_len (by decide +kernel) (pa_cons (pv 0) pa_nil)))) (pss_one ps_never) pss_nil)
      (pss_cons (ps_if (pt_cmpR op_gt (pe_callB (klen (K := K)) (by rfl) T.n_len (by decide +kernel) (pa_cons (pv 2) pa_nil)) (pe_glob (v := .int 5) (by rfl) g_MOST_WISHES ⟨_, rfl⟩) (nomark _)) (pss_one ps_never) pss_nil)
      (pss_one (ps_for PassesOwn.never rfl (pi_enum (by rfl) T.n_enumerate (pa_cons (pv 2) pa_nil)) (pg_tup (by rfl) (pgs_cons (pg_name (i := 3) sc__refuse_no_store.nd rfl (Or.inl rfl)) (pgs_cons (pg_name (i := 5) sc__refuse_no_store.nd rfl (Or.inl rfl)) pgs_nil))) (pss_one (ps_if (pt_not (pt_val (pe_call C__is_wish.G (hr.mono (by decide)) (by rfl) C__is_wish.g C__is_wish.kp C__is_wish.b .nil pass0 (pa_cons (pv 5) (pa_cons (pe_callB (klen (K := K)) (by rfl) T.n_len (by decide +kernel) (pa_cons (pv 0) pa_nil)) (pa_cons (pe_callB (klen (K := K)) (by rfl) T.n_len (by decide +kernel) (pa_cons (pv 2) pa_nil)) pa_nil)))))) (pss_one ps_never) pss_nil)))))))), ?_⟩
    refine ⟨_, rfl, l, xs, rfl, .inl hl, _, _, rfl, rfl, _, rfl, itD (by omega) ⟨_, _, rfl, rfl, _, rfl, iteNS (by omega) ?_⟩⟩
    -- the shelves
    refine ⟨_, rfl, l, xs, rfl, hl, for_enum (K := K) (a := l) (xs := xs) (fun i σ H' => Same H H' ∧ ∃ v3 v4 : Option V, σ = [some (.ref l), some (.int S.aisle), some (.ref m), v3, v4, none]) ⟨Same.refl _, none, none, rfl⟩ (fun i σ H' _ h => Same.l h.1 hl) ?_ ?_⟩
    · rintro i x σ H' p hx ⟨s, v3, v4, rfl⟩ np
      obtain ⟨d, hd, dx⟩ := dps_of_get dl hx
      obtain ⟨sh, hsh, rfl⟩ : ∃ sh, S.shelves[i]? = some sh ∧ d = sh.d := by
        unfold dshelves at hd
        rw [List.getElem?_map] at hd
        cases e : S.shelves[i]? with
        | none =>
          rw [e] at hd
          cases hd
        | some z =>
          rw [e] at hd
          exact ⟨z, rfl, (Option.some.inj hd).symm⟩
      have s2 := Same.new (o := .tup [.int (i : Nat), x]) s np
      refine ⟨p, _, rfl, tup_new, rfl, _, _, rfl, _, _, rfl, rfl, ?_⟩
      refine ⟨_, rfl, x, sh, rfl, dp_mono s2 dx, fun b H2 hb s3 => ⟨_, rfl, itnB (hb.mpr (ok.sh _ (List.mem_of_getElem? hsh))) ⟨s2.trans s3, _, _, rfl⟩⟩⟩
    · rintro σ H1 ⟨s, v3, v4, rfl⟩
      have hl1 := Same.l s hl
      have hm1 := Same.l s hm
      refine ⟨_, rfl, _, _, rfl, rfl, _, rfl, itD (by omega) ⟨_, rfl, l, xs, rfl, .inl hl1, _, _, rfl, rfl, _, rfl, iteNS (by omega) ?_⟩⟩
      refine ⟨_, rfl, m, ys, rfl, .inl hm1, _, _, rfl, rfl, _, rfl, itF (by omega) ?_⟩
      refine ⟨_, rfl, m, ys, rfl, hm1, for_enum (K := K) (a := m) (xs := ys) (fun i σ H' => Same H H' ∧ ∃ v3 v5 : Option V, σ = [some (.ref l), some (.int S.aisle), some (.ref m), v3, v4, v5]) ⟨s, v3, none, rfl⟩ (fun i σ H' _ h => Same.l h.1 hm) ?_ ?_⟩
      · rintro i x σ H' p hx ⟨s, v3, v5, rfl⟩ np
        obtain ⟨d, hd, dx⟩ := dps_of_get dm hx
        obtain ⟨sh, hsh, rfl⟩ : ∃ sh, S.wishes[i]? = some sh ∧ d = sh.d := by
          unfold dwishes at hd
          rw [List.getElem?_map] at hd
          cases e : S.wishes[i]? with
          | none =>
            rw [e] at hd
            cases hd
          | some z =>
            rw [e] at hd
            exact ⟨z, rfl, (Option.some.inj hd).symm⟩
        have s2 := Same.new (o := .tup [.int (i : Nat), x]) s np
        refine ⟨p, _, rfl, tup_new, rfl, _, _, rfl, _, _, rfl, rfl, ?_⟩
        refine ⟨_, rfl, _, rfl, l, xs, rfl, .inl (Same.l s2 hl), _, rfl, m, ys, rfl, .inl (Same.l s2 hm), x, sh, _, _, rfl, dp_mono s2 dx, fun b H2 hb s3 => ⟨_, rfl, itnB (hb.mpr ?_) ⟨s2.trans s3, _, _, rfl⟩⟩⟩
        rw [lx, ly]
        exact ok.ws _ (List.mem_of_getElem? hsh)
      · rintro σ H2 ⟨s, v3, v5, rfl⟩
        exact q H2 s
def spInit (K : PySem.W.Frag) (C : Addr) : Sp := fun vs H Q _ => ∃ (p dx l m : Addr) (xs ys : List V) (S : Sto) (B : Hp), vs = [.ref p, .ref l, .int S.aisle, .ref m] ∧ H p = some (.ins C dx []) ∧ Same B H ∧ B p = none ∧
  SqL K B l xs ∧ DpAll K B xs (dshelves S.shelves) ∧ SqL K B m ys ∧ DpAll K B ys (dwishes S.wishes) ∧ StoOk S ∧ ∀ H', Same B H' → Ob K C H' p S → Q .non H'
/-! Store.__init__: 0 self, 1 shelves, 2 aisle, 3 wishes -/
abbrev s_Store___init__ : Stmt := inClass (topS 42) 0
abbrev N_Store___init__ : List Str := ["self", "shelves", "aisle", "wishes"]
theorem sc_Store___init__ : FnScope N_Store___init__ ["self", "shelves", "aisle", "wishes"] (defScope s_Store___init__) := ⟨rfl, rfl, rfl, by decide +kernel, rfl, by decide +kernel, by decide +kernel⟩
theorem ok_Store_init {f f1 C fS fW : Addr} {fd fd1 fdS fdW : FuncData} (F : Fun K "__init__" "Store.__init__" s_Store___init__ f fd) (T : Tx K mg) (TS : TSx K mg C f fS fW fd fdS fdW) (C__refuse_no_store : Cal P w K mg base 3 "_refuse_no_store" ["shelves", "aisle", "wishes"] (spRefuse0 K) f1 fd1) :
    FnOk P w K mg base CX0 4 f fd ["self", "shelves", "aisle", "wishes"] (spInit K C) := by
  refine F.ok sc_Store___init__ (fun vs H Q E h => ?_) (fun cdv A outer s H vs Q E hr h => ?_)
  · obtain ⟨p, dx, l, m, xs, ys, S, B, rfl, _⟩ := h
    rfl
  · obtain ⟨p, dx, l, m, xs, ys, S, B, rfl, hp, s, bp, hl, dl, hm, dm, ok, q⟩ := h
    refine ⟨_, (pss_cons (ps_expr (pe_call C__refuse_no_store.G (hr.mono (by decide)) (by rfl) C__refuse_no_store.g C__refuse_no_store.kp C__refuse_no_store.b .nil pass0 (pa_cons (pv 1) (pa_cons (pv 2) (pa_cons (pv 3) pa_nil)))))
      (pss_cons (ps_fld (pv 0) (pe_callTy (klist_of (K := K)) (by rfl) T.n_list (by decide +kernel) (pa_cons (pv 1) pa_nil)) rfl)
      (pss_cons (ps_fld (pv 0) (pe_callTy (klist_of (K := K)) (by rfl) T.n_list (by decide +kernel) (pa_cons (pv 3) pa_nil)) rfl)
      (pss_one (ps_fld (pv 0) (pv 2) rfl))))), ?_⟩
    refine ⟨_, rfl, _, rfl, _, rfl, l, m, xs, ys, S, rfl, Same.l s hl, dps_mono s dl, Same.l s hm, dps_mono s dm, ok, fun H1 s1 => ?_⟩
    have s01 := s.trans s1
    -- self._shelves = list(shelves)
    refine ⟨_, rfl, l, xs, rfl, .inl (Same.l s01 hl), fun l2 nl2 => ?_⟩
    have hp1 := s1 _ _ hp
    have np2 : p ≠ l2 := ne_of_none hp1 nl2
    have hp2 : (upd H1 l2 (.lst xs)) p = some (.ins C dx []) := by
      rw [upd_ne np2]
      exact hp1
    refine ⟨_, rfl, p, C, dx, [], rfl, hp2, TS.cl, TS.nS, by simp, ?_⟩
    have s2 : Same (upd B l2 (.lst xs)) (upd H1 l2 (.lst xs)) := Same.grow s01 nl2
    have bp2 : (upd B l2 (.lst xs)) p = none := by
      rw [upd_ne np2]
      exact bp
    have s3 : Same (upd B l2 (.lst xs)) (upd (upd H1 l2 (.lst xs)) p (.ins C dx (putF "_shelves" (.ref l2) []))) := Same.put s2 bp2
    have hp3 : (upd (upd H1 l2 (.lst xs)) p (.ins C dx (putF "_shelves" (.ref l2) []))) p = _ := upd_same
    have sB2 : Same B (upd B l2 (.lst xs)) := same_new (s01.free nl2)
    generalize upd (upd H1 l2 (.lst xs)) p (.ins C dx (putF "_shelves" (.ref l2) [])) = H3 at s3 hp3
    have hB2 : SqL K (upd B l2 (.lst xs)) l2 xs := lst_new
    generalize upd B l2 (.lst xs) = B2 at s3 bp2 sB2 hB2
    -- self._wishes = list(wishes)
    refine ⟨_, rfl, m, ys, rfl, .inl (Same.l (sB2.trans s3) hm), fun m2 nm2 => ?_⟩
    have np4 : p ≠ m2 := ne_of_none hp3 nm2
    have hp4 : (upd H3 m2 (.lst ys)) p = some (.ins C dx (putF "_shelves" (.ref l2) [])) := by
      rw [upd_ne np4]
      exact hp3
    refine ⟨_, rfl, p, C, dx, _, rfl, hp4, TS.cl, TS.nW, Nat.lt_of_le_of_lt (putF_len _ _ _) (by simp), ?_⟩
    have s5 : Same (upd B2 m2 (.lst ys)) (upd H3 m2 (.lst ys)) := Same.grow s3 nm2
    have bp5 : (upd B2 m2 (.lst ys)) p = none := by
      rw [upd_ne np4]
      exact bp2
    have sB5 : Same B2 (upd B2 m2 (.lst ys)) := same_new (s3.free nm2)
    have hB5 : SqL K (upd B2 m2 (.lst ys)) m2 ys := lst_new
    have s6 : Same (upd B2 m2 (.lst ys)) (upd (upd H3 m2 (.lst ys)) p (.ins C dx (putF "_wishes" (.ref m2) (putF "_shelves" (.ref l2) [])))) := Same.put s5 bp5
    have hp6 : (upd (upd H3 m2 (.lst ys)) p (.ins C dx (putF "_wishes" (.ref m2) (putF "_shelves" (.ref l2) [])))) p = _ := upd_same
    generalize upd (upd H3 m2 (.lst ys)) p (.ins C dx (putF "_wishes" (.ref m2) (putF "_shelves" (.ref l2) []))) = H6 at s6 hp6
    generalize upd B2 m2 (.lst ys) = B5 at s6 bp5 sB5 hB5
    -- self.aisle = aisle
    refine ⟨_, rfl, _, rfl, p, C, dx, _, rfl, hp6, TS.cl, TS.nA, Nat.lt_of_le_of_lt (putF_len _ _ _) (Nat.lt_of_le_of_lt (Nat.succ_le_succ (putF_len _ _ _)) (by simp)), ?_⟩
    have s7 := Same.put (o := .ins C dx (fsS l2 m2 S.aisle)) s6 bp5
    have sB := sB2.trans sB5
    exact q _ (sB.trans s7) ⟨dx, l2, m2, xs, ys, upd_same, Same.l (sB5.trans s7) hB2, dps_mono (sB.trans s7) dl, Same.l s7 hB5, dps_mono (sB.trans s7) dm⟩
end

section
variable {P : Program} {w : World} {K : PySem.W.Frag} {mg : Str → Option Value} {base : Heap}
def spShelvesM (K : PySem.W.Frag) (C : Addr) : Sp := fun vs H Q _ => ∃ (p : Addr) (S : Sto), vs = [.ref p] ∧ Ob K C H p S ∧ ∀ q xs, H q = none → DpAll K H xs (dshelves S.shelves) → Q (.ref q) (upd H q (.lst xs))
def spWishesM (K : PySem.W.Frag) (C : Addr) : Sp := fun vs H Q _ => ∃ (p : Addr) (S : Sto), vs = [.ref p] ∧ Ob K C H p S ∧ ∀ q xs, H q = none → DpAll K H xs (dwishes S.wishes) → Q (.ref q) (upd H q (.lst xs))
/-! Store.shelves: 0 self -/
abbrev s_Store_shelves : Stmt := inClass (topS 42) 1
abbrev N_Store_shelves : List Str := ["self"]
theorem sc_Store_shelves : FnScope N_Store_shelves ["self"] (defScope s_Store_shelves) := ⟨rfl, rfl, rfl, by decide +kernel, rfl, by decide +kernel, by decide +kernel⟩
theorem ok_Store_shelves {f C fI fW : Addr} {fd fdI fdW : FuncData} (F : Fun K "shelves" "Store.shelves" s_Store_shelves f fd) (T : Tx K mg) (TS : TSx K mg C fI f fW fdI fd fdW) : FnOk P w K mg base CX0 1 f fd ["self"] (spShelvesM K C) := by
  refine F.ok sc_Store_shelves (fun vs H Q E h => ?_) (fun cdv A outer s H vs Q E hr h => ?_)
  · obtain ⟨p, S, rfl, _⟩ := h
    rfl
  · obtain ⟨p, S, rfl, ⟨dx, l, m, xs, ys, ob⟩, q⟩ := h
    refine ⟨_, (pss_one (ps_ret (pe_callTy (klist_of (K := K)) (by rfl) T.n_list (by decide +kernel) (pa_cons (pe_fld (pv 0) rfl) pa_nil)))), ?_⟩
    exact ⟨_, rfl, p, C, dx, _, _, rfl, ob.o, TS.cl, TS.nS, fsS_sh, l, xs, rfl, .inl ob.l, fun r nr => q r xs nr ob.dx⟩
/-! Store.wishes: 0 self -/
abbrev s_Store_wishes : Stmt := inClass (topS 42) 2
abbrev N_Store_wishes : List Str := ["self"]
theorem sc_Store_wishes : FnScope N_Store_wishes ["self"] (defScope s_Store_wishes) := ⟨rfl, rfl, rfl, by decide +kernel, rfl, by decide +kernel, by decide +kernel⟩
theorem ok_Store_wishes {f C fI fS : Addr} {fd fdI fdS : FuncData} (F : Fun K "wishes" "Store.wishes" s_Store_wishes f fd) (T : Tx K mg) (TS : TSx K mg C fI fS f fdI fdS fd) : FnOk P w K mg base CX0 1 f fd ["self"] (spWishesM K C) := by
  refine F.ok sc_Store_wishes (fun vs H Q E h => ?_) (fun cdv A outer s H vs Q E hr h => ?_)
  · obtain ⟨p, S, rfl, _⟩ := h
    rfl
  · obtain ⟨p, S, rfl, ⟨dx, l, m, xs, ys, ob⟩, q⟩ := h
    refine ⟨_, (pss_one (ps_ret (pe_callTy (klist_of (K := K)) (by rfl) T.n_list (by decide +kernel) (pa_cons (pe_fld (pv 0) rfl) pa_nil)))), ?_⟩
    exact ⟨_, rfl, p, C, dx, _, _, rfl, ob.o, TS.cl, TS.nW, fsS_wi, m, ys, rfl, .inl ob.m, fun r nr => q r ys nr ob.dy⟩
end

section
variable {P : Program} {w : World} {K : PySem.W.Frag} {mg : Str → Option Value} {base : Heap}
def spMade (K : PySem.W.Frag) (C : Addr) : Sp := fun vs H Q _ => ∃ (v : V) (S : Sto), vs = [v] ∧ Dp K H v S.d ∧ StoOk S ∧ ∀ p H', Same H H' → H p = none → Ob K C H' p S → Q (.ref p) H'
/-! _law_made: 0 _law_store_here -/
abbrev s__law_made : Stmt := topS 51
abbrev N__law_made : List Str := ["_law_store_here"]
theorem sc__law_made : FnScope N__law_made ["_law_store_here"] (defScope s__law_made) := ⟨rfl, rfl, rfl, by decide +kernel, rfl, by decide +kernel, by decide +kernel⟩
theorem ok__law_made {f C fI fS fW : Addr} {fd fdI fdS fdW : FuncData} (D : Dfs K mg "_law_made" s__law_made ["_law_store_here"] f fd) (T : Tx K mg) (TS : TSx K mg C fI fS fW fdI fdS fdW) (G_init : FnOk P w K mg base CX0 4 fI fdI ["self", "shelves", "aisle", "wishes"] (spInit K C)) :
    Cal P w K mg base 6 "_law_made" ["_law_store_here"] (spMade K C) f fd := by
  refine D.cal (D.F.ok sc__law_made (fun vs H Q E h => ?_) (fun cdv A outer s H vs Q E hr h => ?_))
  · obtain ⟨v, S, rfl, _⟩ := h
    rfl
  · obtain ⟨v, S, rfl, hv, ok, q⟩ := h
    obtain ⟨a, l, m, xs, ys, rfl, st⟩ := sto_at hv
    refine ⟨_, (pss_one (ps_ret (pe_make TS.mkS G_init (hr.mono (by decide)) rfl TS.g TS.b_init .nil pass0 (pa_cons (pe_callTy (klist_of (K := K)) (by rfl) T.n_list (by decide +kernel) (pa_cons (pe_ix (kix_tup (K := K)) (pv 0) pe_int (fun _ _ => rfl)) pa_nil)) (pa_cons (pe_ix (kix_tup (K := K)) (pv 0) pe_int (fun _ _ => rfl)) (pa_cons (pe_callTy (klist_of (K := K)) (by rfl) T.n_list (by decide +kernel) (pa_cons (pe_ix (kix_tup (K := K)) (pv 0) pe_int (fun _ _ => rfl)) pa_nil)) pa_nil)))))), ?_⟩
    refine ⟨_, rfl, a, _, 0, .ref l, rfl, rfl, st.t, rfl, l, xs, rfl, .inl st.l, fun l2 nl2 => ?_⟩
    have s1 := same_new (o := .lst xs) nl2
    have st1 := st.mono s1
    refine ⟨_, rfl, a, _, 1, .int S.aisle, rfl, rfl, st1.t, rfl, _, rfl, a, _, 2, .ref m, rfl, rfl, st1.t, rfl, m, ys, rfl, .inl st1.m, fun m2 nm2 => ?_⟩
    have s2 := same_new (o := .lst ys) nm2
    have st2 := st1.mono s2
    intro p dx np ndx nex
    have s3 := (same_new (o := .own p) ndx).trans (Same.new (p := p) (o := .ins C dx []) (Same.refl _) (by rw [upd_ne (fun z => nex z.symm)]; exact np))
    refine ⟨p, dx, l2, m2, xs, ys, S, _, rfl, upd_same, s3, np, Same.l s2 lst_new, st2.dx, lst_new, st2.dy, ok, fun H' s4 o => ⟨rfl, q p H' ((s1.trans s2).trans s4) ((s1.trans s2).free np) o⟩⟩
end

theorem room65 {k : Nat} {A : Around} (hr : Room k A) : A.units + 65 < cLine := by
  have := hr.un
  omega
/-! ### data that are laid flat enough to be compared -/
def Lay (n : Nat) (d : PyData) : Prop := d.canLay0 = true ∧ d.depth ≤ n
def Lays (n : Nat) (ds : List PyData) : Prop := PyData.canLayAll0 ds = true ∧ PyData.depthAll ds ≤ n
theorem Lay.shaped {n : Nat} {d : PyData} (h : Lay n d) (hn : n ≤ 64 := by decide) : SeqAt.shaped d = true := by
  unfold SeqAt.shaped
  rw [h.1, Bool.true_and]
  exact decide_eq_true (Nat.le_trans h.2 hn)
theorem Lay.refl {n : Nat} {d : PyData} (h : Lay n d) : PyData.eqv d d = true := SeqAt.eqv_refl d h.1
theorem lays_nil {n : Nat} : Lays n [] := ⟨rfl, Nat.zero_le _⟩
theorem Lays.cons {n : Nat} {d : PyData} {ds : List PyData} (h : Lay n d) (g : Lays n ds) : Lays n (d :: ds) :=
  ⟨by unfold PyData.canLayAll0; rw [h.1, g.1]; rfl, by unfold PyData.depthAll; exact Nat.max_le.mpr ⟨h.2, g.2⟩⟩
theorem Lays.tup {n : Nat} {ds : List PyData} (h : Lays n ds) : Lay (n + 1) (.tuple ds) := ⟨by unfold PyData.canLay0; exact h.1, by unfold PyData.depth; exact Nat.succ_le_succ h.2⟩
theorem Lays.lst {n : Nat} {ds : List PyData} (h : Lays n ds) : Lay (n + 1) (.list ds) := ⟨by unfold PyData.canLay0; exact h.1, by unfold PyData.depth; exact Nat.succ_le_succ h.2⟩
theorem lay_int {n : Nat} {i : Int} : Lay n (.int i) := ⟨by unfold PyData.canLay0; rfl, by unfold PyData.depth; exact Nat.zero_le _⟩
theorem lay_none {n : Nat} : Lay n .none := ⟨by unfold PyData.canLay0; rfl, by unfold PyData.depth; exact Nat.zero_le _⟩
theorem lay_str {n : Nat} {x : Str} (h : PyData.strOk x = true) : Lay n (.str x) := ⟨by unfold PyData.canLay0; exact h, by unfold PyData.depth; exact Nat.zero_le _⟩
theorem Lays.all {n : Nat} {ds : List PyData} (h : ∀ d ∈ ds, Lay n d) : Lays n ds := by
  induction ds with
  | nil => exact lays_nil
  | cons d ds ih => exact .cons (h d List.mem_cons_self) (ih fun e he => h e (List.mem_cons_of_mem _ he))
theorem Lay.more {n m : Nat} {d : PyData} (h : Lay n d) (e : n ≤ m) : Lay m d := ⟨h.1, Nat.le_trans h.2 e⟩
theorem lays_ints {n : Nat} (l : List Int) : Lays n (dints l) := .all fun d hd => by
  obtain ⟨i, _, rfl⟩ := List.mem_map.mp hd
  exact lay_int
theorem Shelf.lay (s : Shelf) : Lay 1 s.d := (Lays.cons lay_int (Lays.cons lay_int (Lays.cons lay_int lays_nil))).tup
theorem ok_fetch : PyData.strOk "fetch" = true := by decide +kernel
theorem ok_bring : PyData.strOk "bring" = true := by decide +kernel
theorem ok_left : PyData.strOk "left" = true := by decide +kernel
theorem ok_right : PyData.strOk "right" = true := by decide +kernel
theorem ok_any : PyData.strOk "any" = true := by decide +kernel
theorem Wish.lay {n m : Int} {x : Wish} (h : WishOk n m x) : Lay 2 x.d := by
  have h1 : PyData.strOk x.kind = true := by
    rcases h.kind with e | e
    · rw [e]; exact ok_fetch
    · rw [e]; exact ok_bring
  have h2 : PyData.strOk x.side = true := by
    rcases h.side with e | e | e
    · rw [e]; exact ok_left
    · rw [e]; exact ok_right
    · rw [e]; exact ok_any
  exact (Lays.cons (lay_str h1) (Lays.cons lay_int (Lays.cons (lay_str h2) (Lays.cons lay_int (Lays.cons lay_int (Lays.cons (lays_ints _).tup lays_nil)))))).tup
theorem shelves_lay (l : List Shelf) : Lay 2 (.list (dshelves l)) := (Lays.all fun d hd => by
  obtain ⟨i, _, rfl⟩ := List.mem_map.mp hd
  exact i.lay).lst
theorem wishes_lay {n m : Int} {l : List Wish} (h : ∀ x ∈ l, WishOk n m x) : Lay 3 (.list (dwishes l)) := (Lays.all fun d hd => by
  obtain ⟨i, hi, rfl⟩ := List.mem_map.mp hd
  exact Wish.lay (h i hi)).lst
/-! ### a list that grows, without the draws -/
structure Acq (K : PySem.W.Frag) (B0 B H : Hp) (l : Addr) (xs : List V) (ds : List PyData) : Prop where
  s : Same B0 B
  R : Same B H
  bl : B l = none
  el : H l = some (.lst xs)
  dx : DpAll K B xs ds
section
variable {K : PySem.W.Frag} {B0 B H H' : Hp} {l p : Addr} {xs : List V} {ds : List PyData} {o : HO}
theorem Acq.start (s : Same B0 B) (R : Same B H) (h : H l = none) : Acq K B0 B (upd H l (.lst [])) l [] [] := ⟨s, Same.new R h, R.free h, upd_same, .nil⟩
theorem Acq.grow (A : Acq K B0 B H l xs ds) (h : H p = none) : Acq K B0 (upd B p o) (upd H p o) l xs ds := by
  have n : l ≠ p := ne_of_none A.el h
  have z := A.R.free h
  exact ⟨A.s.trans (same_new z), Same.grow A.R h, by rw [upd_ne n]; exact A.bl, by rw [upd_ne n]; exact A.el, dps_mono (same_new z) A.dx⟩
theorem Acq.app {v : V} {d : PyData} (A : Acq K B0 B H l xs ds) (h : Dp K B v d) : Acq K B0 B (upd H l (.lst (xs ++ [v]))) l (xs ++ [v]) (ds ++ [d]) :=
  ⟨A.s, Same.put A.R A.bl, A.bl, upd_same, dps_app A.dx (.cons h .nil)⟩
/-- what a pure def made beside it -/
theorem Acq.pure (A : Acq K B0 B H l xs ds) (s : Same H H') : Acq K B0 (del1 H' l) H' l xs ds := by
  have s1 : Same B (del1 H' l) := same_del (A.R.trans s) A.bl
  exact ⟨A.s.trans s1, fun b o e => by
    by_cases hb : b = l
    · rw [hb, del1_same] at e
      cases e
    · rw [del1_ne hb] at e
      exact e, del1_same, s _ _ A.el, dps_mono s1 A.dx⟩
theorem Acq.keep (A : Acq K B0 B H l xs ds) (s : Same H H') : Acq K B0 B H' l xs ds := ⟨A.s, A.R.trans s, A.bl, s _ _ A.el, A.dx⟩
theorem Acq.all (A : Acq K B0 B H l xs ds) : Same B0 H ∧ SqL K H l xs ∧ DpAll K H xs ds := ⟨A.s.trans A.R, SqL.of A.el, dps_mono A.R A.dx⟩
end
/-! ### in, not in, of a list of ints -/
section
variable {z : Int} {l : List Int} {A B : Prop}
theorem in_y (h : z ∈ l) (q : A) : if (if false = true then !inV (V.int z) (l.map V.int) else inV (V.int z) (l.map V.int)) = true then A else B := by
  rw [inV_ints.mpr h]
  exact iteT q
theorem inF {l : List Int} {z : Int} (h : z ∉ l) : inV (V.int z) (l.map V.int) = false := by
  cases e : inV (V.int z) (l.map V.int) with
  | false => rfl
  | true => exact absurd (inV_ints.mp e) h
theorem in_n (h : z ∉ l) (q : B) : if (if false = true then !inV (V.int z) (l.map V.int) else inV (V.int z) (l.map V.int)) = true then A else B := by
  rw [inF h]
  exact iteF q
theorem ni_y (h : z ∉ l) (q : A) : if (if true = true then !inV (V.int z) (l.map V.int) else inV (V.int z) (l.map V.int)) = true then A else B := by
  rw [inF h]
  exact iteT q
theorem ni_n (h : z ∈ l) (q : B) : if (if true = true then !inV (V.int z) (l.map V.int) else inV (V.int z) (l.map V.int)) = true then A else B := by
  rw [inV_ints.mpr h]
  exact iteF q
end
theorem sne {a b : Str} (h : ¬ a = b) : ¬ (V.str a = V.str b) := fun z => h (V.str.inj z)
theorem ine {a b : Int} (h : ¬ a = b) : ¬ (V.int a = V.int b) := fun z => h (V.int.inj z)
theorem int_item {l : List Int} {i : Nat} {y : V} (h : (l.map V.int)[i]? = some y) : ∃ z, l[i]? = some z ∧ y = V.int z := by
  rw [List.getElem?_map] at h
  cases e : l[i]? with
  | none =>
    rw [e] at h
    cases h
  | some z =>
    rw [e] at h
    exact ⟨z, rfl, (Option.some.inj h).symm⟩
theorem take_snoc {α : Type} {l : List α} {i : Nat} {z : α} (h : l[i]? = some z) : l.take (i + 1) = l.take i ++ [z] := by
  rw [List.take_add_one, h]
  rfl
theorem two_dp {K : PySem.W.Frag} {H : Hp} {a : Addr} {r : Str} {n : Int} (h : SqT K H a [.str r, .int n]) : Dp K H (.ref a) (.tuple [.str r, .int n]) := .tup h (.cons (.str _) (.cons (.int _) .nil))
theorem pair1 {K : PySem.W.Frag} {H : Hp} {a : Addr} {r : Str} (h : SqT K H a [.str r]) : Dp K H (.ref a) (.tuple [.str r]) := .tup h (.cons (.str _) .nil)
theorem filter_snoc {α : Type} {p : α → Bool} {l : List α} {i : Nat} {t : α} (h : l[i]? = some t) : (l.take (i + 1)).filter p = (l.take i).filter p ++ (if p t = true then [t] else []) := by
  rw [take_snoc h, List.filter_append]
  cases e : p t <;> simp [List.filter, e]
theorem Rising.len {lo n : Int} {l : List Int} (h : Rising lo n l) : l.length ≤ (n - lo).toNat := by
  induction l generalizing lo with
  | nil => exact Nat.zero_le _
  | cons i r ih =>
    obtain ⟨a, b, c⟩ := h
    have := ih c
    rw [List.length_cons]
    omega

/-! ## states, steps, and what bars a step -/
structure Sta where
  aisle : Int
  done : List Int
  inside : List Int
  kept : Int
inductive Stp where
  | wait
  | shift (by_ : Int)
  | cin (c : Int)
  | cout (c : Int)
  | wish (n : Int)
def Sta.d (s : Sta) : PyData := .tuple [.int s.aisle, .tuple (dints s.done), .tuple (dints s.inside), .int s.kept]
def Stp.d : Stp → PyData
  | .wait => .tuple [.str "wait"]
  | .shift b => .tuple [.str "shift", .int b]
  | .cin c => .tuple [.str "in", .int c]
  | .cout c => .tuple [.str "out", .int c]
  | .wish n => .tuple [.str "do", .int n]
def StpOk (m : Int) : Stp → Prop
  | .wait => True
  | .shift b => b = -1 ∨ b = 1
  | .cin c => c = 0 ∨ c = 1
  | .cout c => c = 0 ∨ c = 1
  | .wish n => 0 ≤ n ∧ n < m
def InsideOk (l : List Int) : Prop := l = [] ∨ l = [0] ∨ l = [1] ∨ l = [0, 1]
/-- what a wish that is done changes at the shelf k -/
def delta (S : Sto) (k z : Int) : Int := match S.wishes[z.toNat]? with
  | some x => if x.shelf = k then (if x.kind = "fetch" then -1 else 1) else 0
  | none => 0
def hasAt (S : Sto) (k : Int) : Int := match S.shelves[k.toNat]? with
  | some x => x.has
  | none => 0
def roomAt (S : Sto) (k : Int) : Int := match S.shelves[k.toNat]? with
  | some x => x.room
  | none => 0
def goods (S : Sto) (done : List Int) (k : Int) : Int := hasAt S k + (done.map (delta S k)).sum
/-- a state of the store's form -/
structure StaOk (S : Sto) (s : Sta) : Prop where
  a0 : 0 ≤ s.aisle
  a1 : s.aisle ≤ S.shelves.length
  done : Rising 0 S.wishes.length s.done
  inside : InsideOk s.inside
  k0 : 0 ≤ s.kept
  k3 : s.kept ≤ 3
  has : ∀ k : Int, 0 ≤ k → k < S.shelves.length → 0 ≤ goods S s.done k ∧ goods S s.done k ≤ roomAt S k
def barShift (S : Sto) (s : Sta) (b : Int) : Option (Str × Int) :=
  let sh := if b = 1 then s.aisle else s.aisle - 1
  if 0 ≤ sh ∧ sh < S.shelves.length then
    match S.shelves[sh.toNat]? with
    | none => none
    | some x => if x.sticks = 1 then some ("sticks", sh) else match s.inside with
      | c :: _ => some ("in", c)
      | [] => if s.kept > 0 then some ("kept", s.kept) else none
  else some ("end", s.aisle)
def beside (aisle shelf : Int) (side : Str) : Bool := if side = "left" then decide (aisle = shelf) else if side = "right" then decide (aisle = shelf + 1) else decide (aisle = shelf ∨ aisle = shelf + 1)
def barLoad (S : Sto) (done : List Int) (kind : Str) (k : Int) : Option (Str × Int) :=
  if kind = "fetch" ∧ goods S done k = 0 then some ("empty", k) else if kind = "bring" ∧ goods S done k = roomAt S k then some ("full", k) else none
def barWish (S : Sto) (s : Sta) (n : Int) : Option (Str × Int) := match S.wishes[n.toNat]? with
  | none => none
  | some x =>
    if n ∈ s.done then some ("done", n) else match x.after.find? (fun z => decide (z ∉ s.done)) with
      | some z => some ("after", z)
      | none => if x.crew ∉ s.inside then some ("crew", x.crew) else if beside s.aisle x.shelf x.side = false then some ("aisle", s.aisle) else barLoad S s.done x.kind x.shelf
def bar (S : Sto) (s : Sta) : Stp → Option (Str × Int)
  | .wait => none
  | .shift b => barShift S s b
  | .cin c => if c ∈ s.inside then some ("is", c) else none
  | .cout c => if c ∈ s.inside then none else some ("isnt", c)
  | .wish n => barWish S s n
def dbar : Option (Str × Int) → PyData
  | none => .none
  | some (r, n) => .tuple [.str r, .int n]
theorem sta_at {K : PySem.W.Frag} {H : Hp} {v : V} {s : Sta} (h : Dp K H v s.d) : ∃ a d i, v = .ref a ∧ SqT K H a [.int s.aisle, .ref d, .ref i, .int s.kept] ∧ SqT K H d (s.done.map V.int) ∧ SqT K H i (s.inside.map V.int) := by
  obtain ⟨a, xs, rfl, h1, h2⟩ := dp_tup h
  obtain ⟨x1, r1, rfl, e1, k1⟩ := dps_cons h2
  obtain ⟨x2, r2, rfl, e2, k2⟩ := dps_cons k1
  obtain ⟨x3, r3, rfl, e3, k3⟩ := dps_cons k2
  obtain ⟨x4, r4, rfl, e4, k4⟩ := dps_cons k3
  obtain ⟨d, rfl, hd⟩ := dp_ints e2
  obtain ⟨i, rfl, hi⟩ := dp_ints e3
  obtain rfl := dps_nil k4
  rw [dp_int e1, dp_int e4] at h1
  exact ⟨a, d, i, rfl, h1, hd, hi⟩
theorem at_sta {K : PySem.W.Frag} {H : Hp} {s : Sta} {a d i : Addr} (h : SqT K H a [.int s.aisle, .ref d, .ref i, .int s.kept]) (hd : SqT K H d (s.done.map V.int)) (hi : SqT K H i (s.inside.map V.int)) : Dp K H (.ref a) s.d :=
  .tup h (.cons (.int _) (.cons (.tup hd (ints_dps _)) (.cons (.tup hi (ints_dps _)) (.cons (.int _) .nil))))
theorem dp_one {K : PySem.W.Frag} {H : Hp} {v : V} {r : Str} (h : Dp K H v (.tuple [.str r])) : ∃ a, v = .ref a ∧ SqT K H a [.str r] := by
  obtain ⟨a, xs, rfl, h1, h2⟩ := dp_tup h
  obtain ⟨x1, r1, rfl, e1, k1⟩ := dps_cons h2
  obtain rfl := dps_nil k1
  rw [dp_str e1] at h1
  exact ⟨a, rfl, h1⟩
theorem dp_two {K : PySem.W.Frag} {H : Hp} {v : V} {r : Str} {n : Int} (h : Dp K H v (.tuple [.str r, .int n])) : ∃ a, v = .ref a ∧ SqT K H a [.str r, .int n] := by
  obtain ⟨a, xs, rfl, h1, h2⟩ := dp_tup h
  obtain ⟨x1, r1, rfl, e1, k1⟩ := dps_cons h2
  obtain ⟨x2, r2, rfl, e2, k2⟩ := dps_cons k1
  obtain rfl := dps_nil k2
  rw [dp_str e1, dp_int e2] at h1
  exact ⟨a, rfl, h1⟩
theorem two_new {K : PySem.W.Frag} {H : Hp} {a : Addr} {r : Str} {n : Int} : Dp K (upd H a (.tup [.str r, .int n])) (.ref a) (dbar (some (r, n))) := two_dp tup_new
/-- an item of a list of ints -/
theorem shelf_at_k {S : Sto} {k : Int} (h0 : 0 ≤ k) (h1 : k < S.shelves.length) : ∃ x, S.shelves[k.toNat]? = some x ∧ x ∈ S.shelves ∧ hasAt S k = x.has ∧ roomAt S k = x.room := by
  have hl : k.toNat < S.shelves.length := by omega
  have e := List.getElem?_eq_getElem hl
  exact ⟨_, e, List.getElem_mem hl, by unfold hasAt; rw [e], by unfold roomAt; rw [e]⟩
theorem wish_at_k {S : Sto} {k : Int} (h0 : 0 ≤ k) (h1 : k < S.wishes.length) : ∃ x, S.wishes[k.toNat]? = some x ∧ x ∈ S.wishes := by
  have hl : k.toNat < S.wishes.length := by omega
  exact ⟨_, List.getElem?_eq_getElem hl, List.getElem_mem hl⟩
theorem Rising.upto {lo m : Int} {i : Int} : ∀ {l : List Int}, Rising lo m l → l.filter (fun z => decide (z < i + 1)) = l.filter (fun z => decide (z < i)) ++ (if i ∈ l then [i] else [])
  | [], _ => by simp
  | j :: r, h => by
    have hr : Rising (j + 1) m r := h.2.2
    have ih := Rising.upto (i := i) hr
    rcases Int.lt_trichotomy j i with e | e | e
    · rw [List.filter_cons_of_pos (p := fun z => decide (z < i + 1)) (show decide (j < i + 1) = true from decide_eq_true (by omega)), List.filter_cons_of_pos (p := fun z => decide (z < i)) (show decide (j < i) = true from decide_eq_true e), ih]
      have q : (i ∈ j :: r) ↔ i ∈ r := by
        rw [List.mem_cons]
        exact ⟨fun h => h.resolve_left (by omega), .inr⟩
      by_cases z : i ∈ r
      · rw [if_pos z, if_pos (q.mpr z)]
        rfl
      · rw [if_neg z, if_neg (fun y => z (q.mp y))]
        rfl
    · subst e
      have n1 : r.filter (fun z => decide (z < j + 1)) = [] := List.filter_eq_nil_iff.mpr fun z hz => by
        have := (hr.mem hz).1
        simp only [decide_eq_true_eq]
        omega
      have n2 : r.filter (fun z => decide (z < j)) = [] := List.filter_eq_nil_iff.mpr fun z hz => by
        have := (hr.mem hz).1
        simp only [decide_eq_true_eq]
        omega
      rw [List.filter_cons_of_pos (p := fun z => decide (z < j + 1)) (show decide (j < j + 1) = true from decide_eq_true (by omega)), List.filter_cons_of_neg (p := fun z => decide (z < j)) (show ¬ decide (j < j) = true by simp), n1, n2, if_pos List.mem_cons_self]
      rfl
    · have n1 : ∀ b : Int, b ≤ j → (j :: r).filter (fun z => decide (z < b)) = [] := fun b hb => List.filter_eq_nil_iff.mpr fun z hz => by
        simp only [decide_eq_true_eq]
        rcases List.mem_cons.mp hz with rfl | hz
        · omega
        · have := (hr.mem hz).1
          omega
      rw [n1 _ (by omega), n1 _ (by omega), if_neg]
      · rfl
      · intro hz
        rcases List.mem_cons.mp hz with rfl | hz
        · omega
        · have := (hr.mem hz).1
          omega
def goodsTo (S : Sto) (done : List Int) (k i : Int) : Int := goods S (done.filter fun z => decide (z < i)) k
theorem goodsTo_zero {S : Sto} {done : List Int} {k m : Int} (h : Rising 0 m done) : goodsTo S done k 0 = hasAt S k := by
  unfold goodsTo goods
  rw [List.filter_eq_nil_iff.mpr, List.map_nil, List.sum_nil, Int.add_zero]
  intro z hz
  have := (h.mem hz).1
  simp only [decide_eq_true_eq]
  omega
theorem goodsTo_all {S : Sto} {done : List Int} {k m : Int} (h : Rising 0 m done) : goodsTo S done k m = goods S done k := by
  unfold goodsTo
  rw [List.filter_eq_self.mpr]
  intro z hz
  exact decide_eq_true (h.mem hz).2
theorem goodsTo_succ {S : Sto} {done : List Int} {k i m : Int} (h : Rising 0 m done) : goodsTo S done k (i + 1) = goodsTo S done k i + (if i ∈ done then delta S k i else 0) := by
  unfold goodsTo goods
  rw [h.upto, List.map_append, List.sum_append]
  by_cases e : i ∈ done
  · rw [if_pos e, if_pos e]
    simp only [List.map_cons, List.map_nil, List.sum_cons, List.sum_nil]
    omega
  · rw [if_neg e, if_neg e]
    simp only [List.map_nil, List.sum_nil]
    omega
section
variable {P : Program} {w : World} {K : PySem.W.Frag} {mg : Str → Option Value} {base : Heap}
def spHasNow (K : PySem.W.Frag) (C : Addr) : Sp := fun vs H Q _ => ∃ (p d : Addr) (k : Int) (S : Sto) (done : List Int), vs = [.ref p, .ref d, .int k] ∧ Ob K C H p S ∧ SqT K H d (done.map V.int) ∧ 0 ≤ k ∧ k < S.shelves.length ∧ Rising 0 S.wishes.length done ∧
  ∀ H', Same H H' → Q (.int (goods S done k)) H'
/-! _has_now: 0 store, 1 done, 2 shelf, 3 _, 4 has, 5 number, 6 kind, 7 place -/
abbrev s__has_now : Stmt := topS 24
abbrev N__has_now : List Str := ["store", "done", "shelf", "_", "has", "number", "kind", "place"]
theorem sc__has_now : FnScope N__has_now ["store", "done", "shelf"] (defScope s__has_now) := ⟨rfl, rfl, rfl, by decide +kernel, rfl, by decide +kernel, by decide +kernel⟩
theorem ok__has_now {f C fI fS fW : Addr} {fd fdI fdS fdW : FuncData} (D : Dfs K mg "_has_now" s__has_now ["store", "done", "shelf"] f fd) (T : Tx K mg) (TS : TSx K mg C fI fS fW fdI fdS fdW) (G_shelves : FnOk P w K mg base CX0 1 fS fdS ["self"] (spShelvesM K C)) (G_wishes : FnOk P w K mg base CX0 1 fW fdW ["self"] (spWishesM K C)) :
    Cal P w K mg base 2 "_has_now" ["store", "done", "shelf"] (spHasNow K C) f fd := by
  refine D.cal (D.F.ok sc__has_now (fun vs H Q E h => ?_) (fun cdv A outer s H vs Q E hr h => ?_))
  · obtain ⟨p, d, k, S, done, rfl, _⟩ := h
    rfl
  · obtain ⟨p, d, k, S, done, rfl, ob, hd, k0, k1, hz, q⟩ := h
    obtain ⟨dx, l, m, xs, ys, o⟩ := id ob
    obtain ⟨sh, hsh, _, ehas, _⟩ := shelf_at_k k0 k1
    refine ⟨_, (pss_cons (ps_asg (pe_ix (kix_list (K := K)) (pe_meth0 (pv 0) TS.cl TS.m_shelves G_shelves (hr.mono (by decide)) TS.b_shelves .nil pass0) (pv 2) (fun _ _ => rfl)) (pg_tup (by rfl) (pgs_cons (pg_name (i := 3) sc__has_now.nd rfl (Or.inl rfl)) (pgs_cons (pg_name (i := 4) sc__has_now.nd rfl (Or.inl rfl)) (pgs_cons (pg_name (i := 3) sc__has_now.nd rfl (Or.inl rfl)) pgs_nil)))))
      (pss_cons (ps_for PassesOwn.never rfl (pi_enum (by rfl) T.n_enumerate (pa_cons (pe_meth0 (pv 0) TS.cl TS.m_wishes G_wishes (hr.mono (by decide)) TS.b_wishes .nil pass0) pa_nil)) (pg_tup (by rfl) (pgs_cons (pg_name (i := 5) sc__has_now.nd rfl (Or.inl rfl)) (pgs_cons (pg_tup (by rfl) (pgs_cons (pg_name (i := 6) sc__has_now.nd rfl (Or.inl rfl)) (pgs_cons (pg_name (i := 7) sc__has_now.nd rfl (Or.inl rfl)) (pgs_cons (pg_name (i := 3) sc__has_now.nd rfl (Or.inl rfl)) (pgs_cons (pg_name (i := 3) sc__has_now.nd rfl (Or.inl rfl)) (pgs_cons (pg_name (i := 3) sc__has_now.nd rfl (Or.inl rfl)) (pgs_cons (pg_name (i := 3) sc__has_now.nd rfl (Or.inl rfl)) pgs_nil))))))) pgs_nil))) (pss_one (ps_if (PW.pt (pw_and (pt_cmpR (kin_seq (K := K)) (pv 5) (pv 1) (by rfl)) (pw_and1 (pt_cmpR op_eq (pv 7) (pv 2) (nomark _))))) (pss_one (ps_set (i := 4) sc__has_now.nd rfl (Or.inl rfl) (pe_ifExp (pt_cmpR op_eq (pv 6) pe_str (nomark _)) (pe_op op_sub (pv 4) pe_int) (pe_op op_add (pv 4) pe_int)))) pss_nil)))
      (pss_one (ps_ret (pv 4))))), ?_⟩
    -- _, has, _ = store.shelves()[shelf]
    refine ⟨_, rfl, p, dx, _, rfl, o.o, fsS_m1, p, S, rfl, ob, fun r zs nr dzs => ?_⟩
    obtain ⟨a, ha, hT⟩ := shelf_get dzs hsh
    have s1 := same_new (o := .lst zs) nr
    refine ⟨_, rfl, r, zs, k, .ref a, rfl, rfl, lst_new, at_of (j := k.toNat) (by omega) ha, a, _, rfl, Same.t s1 hT, rfl, _, _, rfl, _, _, rfl, _, _, rfl, rfl, ?_⟩
    -- for number, (kind, place, ..) in enumerate(store.wishes())
    refine ⟨_, rfl, p, dx, _, rfl, s1 _ _ o.o, fsS_m2, p, S, rfl, ob.mono s1, fun r2 us nr2 dus => ?_⟩
    have s2 := s1.trans (same_new (o := .lst us) nr2)
    have hus : SqL K (upd (upd H r (.lst zs)) r2 (.lst us)) r2 us := lst_new
    have dus2 := dps_mono (same_new (o := .lst us) nr2) dus
    have lus : us.length = S.wishes.length := (dps_len dus).trans (List.length_map ..)
    generalize upd (upd H r (.lst zs)) r2 (.lst us) = H2 at s2 hus dus2
    refine ⟨r2, us, rfl, hus, for_enum (K := K) (a := r2) (xs := us) (fun i σ H' => Same H2 H' ∧ ∃ v3 v5 v6 v7 : Option V, σ = [some (.ref p), some (.ref d), some (.int k), v3, some (.int (goodsTo S done k (i : Nat))), v5, v6, v7])
      ⟨Same.refl _, some (.int sh.sticks), none, none, none, ?_⟩ (fun i σ H' _ h => Same.l h.1 hus) ?_ ?_⟩
    · rw [show ((0 : Nat) : Int) = 0 from rfl, goodsTo_zero hz, ehas]
      rfl
    · rintro i y σ H' pt hy ⟨sH, v3, v5, v6, v7, rfl⟩ npt
      have hi : i < us.length := (List.getElem?_eq_some_iff.mp hy).1
      have z0 : (0 : Int) ≤ (i : Nat) := Int.natCast_nonneg _
      have z1 : ((i : Nat) : Int) < S.wishes.length := by omega
      obtain ⟨x, hx, _⟩ := wish_at_k z0 z1
      obtain ⟨b, t, hb, hbT, _⟩ := wish_get dus2 hx
      rw [Int.toNat_natCast, hy] at hb
      cases hb
      have sHp := sH.trans (same_new (o := .tup [.int (i : Nat), .ref b]) npt)
      have eg := goodsTo_succ (S := S) (k := k) (i := (i : Nat)) hz
      have ed : delta S k (i : Nat) = if x.shelf = k then (if x.kind = "fetch" then -1 else 1) else 0 := by
        unfold delta
        rw [hx]
      rw [ed] at eg
      have fin : ∀ g : Int, g = goodsTo S done k ((i : Nat) + 1) → Same H2 (upd H' pt (.tup [.int (i : Nat), .ref b])) ∧ ∃ v3 v5 v6 v7 : Option V, [some (V.ref p), some (.ref d), some (.int k), some (.ref t), some (.int g), some (.int (i : Nat)), some (.str x.kind), some (.int x.shelf)] = [some (.ref p), some (.ref d), some (.int k), v3, some (.int (goodsTo S done k ((i + 1 : Nat) : Int))), v5, v6, v7] := by
        rintro g rfl
        exact ⟨sHp, _, _, _, _, by rw [Int.natCast_succ]⟩
      refine ⟨pt, _, rfl, tup_new, rfl, _, _, rfl, _, _, rfl, b, _, rfl, Same.t sHp hbT, rfl, _, _, rfl, _, _, rfl, _, _, rfl, _, _, rfl, _, _, rfl, _, _, rfl, rfl, rfl, ?_⟩
      refine ⟨_, rfl, _, rfl, d, _, rfl, .inr (Same.t (s2.trans sHp) hd), rfl, flat_ints done, _, rfl, ?_⟩
      rw [show (if false = true then !inV (V.int (i : Nat)) (done.map V.int) else inV (V.int (i : Nat)) (done.map V.int)) = decide (((i : Nat) : Int) ∈ done) from (if_neg Bool.false_ne_true).trans (Bool.eq_iff_iff.mpr (inV_ints.trans decide_eq_true_iff.symm))]
      by_cases h0 : ((i : Nat) : Int) ∈ done
      · rw [if_pos h0] at eg
        refine itD h0 ⟨_, rfl, _, rfl, rfl, _, rfl, ?_⟩
        by_cases h1 : x.shelf = k
        · rw [if_pos h1] at eg
          refine itD (by rw [h1]) ⟨_, rfl, rfl, _, rfl, ?_⟩
          by_cases h2 : x.kind = "fetch"
          · rw [if_pos h2] at eg
            exact itD (by rw [h2]) ⟨_, rfl, _, 1, rfl, rfl, fin _ (by omega)⟩
          · rw [if_neg h2] at eg
            exact itF (sne h2) ⟨_, rfl, _, 1, rfl, rfl, fin _ (by omega)⟩
        · rw [if_neg h1] at eg
          exact itF (ine h1) (fin _ (by omega))
      · rw [if_neg h0] at eg
        exact itF h0 (iteF (fin _ (by omega)))
    · rintro σ H' ⟨sH, v3, v5, v6, v7, rfl⟩
      rw [lus, goodsTo_all hz]
      exact ⟨_, rfl, q _ (s2.trans sH)⟩
def spBeside : Sp := fun vs H Q _ => ∃ (a k : Int) (side : Str), vs = [.int a, .int k, .str side] ∧ ∀ H', Same H H' → Q (.bl (beside a k side)) H'
/-! _is_beside: 0 aisle, 1 shelf, 2 side -/
abbrev s__is_beside : Stmt := topS 23
abbrev N__is_beside : List Str := ["aisle", "shelf", "side"]
theorem sc__is_beside : FnScope N__is_beside ["aisle", "shelf", "side"] (defScope s__is_beside) := ⟨rfl, rfl, rfl, by decide +kernel, rfl, by decide +kernel, by decide +kernel⟩
theorem ok__is_beside {f : Addr} {fd : FuncData} (D : Dfs K mg "_is_beside" s__is_beside ["aisle", "shelf", "side"] f fd) : Cal P w K mg base 1 "_is_beside" ["aisle", "shelf", "side"] spBeside f fd := by
  refine D.cal (D.F.ok sc__is_beside (fun vs H Q E h => ?_) (fun cdv A outer s H vs Q E hr h => ?_))
  · obtain ⟨a, k, side, rfl, _⟩ := h
    rfl
  · obtain ⟨a, k, side, rfl, q⟩ := h
    refine ⟨_, (pss_cons (ps_if (pt_cmpR op_eq (pv 2) pe_str (nomark _)) (pss_one (ps_ret (pe_cmpR op_eq (pv 0) (pv 1) (nomark _)))) pss_nil)
      (pss_cons (ps_if (pt_cmpR op_eq (pv 2) pe_str (nomark _)) (pss_one (ps_ret (pe_cmpR op_eq (pv 0) (pe_op op_add (pv 1) pe_int) (nomark _)))) pss_nil)
      (pss_one (ps_ret (pe_cmpR (kin_seq (K := K)) (pv 0) (pe_tup (pa_cons (pv 1) (pa_cons (pe_op op_add (pv 1) pe_int) pa_nil))) (by rfl)))))), ?_⟩
    refine ⟨_, rfl, rfl, _, rfl, ?_⟩
    by_cases h1 : side = "left"
    · refine itD (by rw [h1]) ⟨_, rfl, _, rfl, rfl, ?_⟩
      have e : decide (V.int a = V.int k) = beside a k side := by
        unfold beside
        rw [if_pos h1]
        exact decide_eq_decide.mpr ⟨V.int.inj, congrArg V.int⟩
      show Q (.bl (decide (V.int a = V.int k))) H
      rw [e]
      exact q H (Same.refl H)
    refine itF (sne h1) ⟨_, rfl, rfl, _, rfl, ?_⟩
    by_cases h2 : side = "right"
    · refine itD (by rw [h2]) ⟨_, rfl, _, rfl, _, _, rfl, rfl, rfl, ?_⟩
      have e : decide (V.int a = V.int (k + 1)) = beside a k side := by
        unfold beside
        rw [if_neg h1, if_pos h2]
        exact decide_eq_decide.mpr ⟨V.int.inj, congrArg V.int⟩
      show Q (.bl (decide (V.int a = V.int (k + 1)))) H
      rw [e]
      exact q H (Same.refl H)
    refine itF (sne h2) ⟨_, rfl, _, rfl, _, rfl, _, _, rfl, rfl, small (by simp), fun p np => ⟨p, _, rfl, .inr tup_new, rfl, rfl, ?_⟩⟩
    have e : (if false = true then !inV (V.int a) [V.int k, V.int (k + 1)] else inV (V.int a) [V.int k, V.int (k + 1)]) = beside a k side := by
      rw [if_neg Bool.false_ne_true]
      unfold beside
      rw [if_neg h1, if_neg h2]
      have e := inV_ints (x := a) (l := [k, k + 1])
      rw [List.mem_cons, List.mem_singleton] at e
      have e' : inV (V.int a) [V.int k, V.int (k + 1)] = true ↔ a = k ∨ a = k + 1 := e
      rw [Bool.eq_iff_iff, e', decide_eq_true_iff]
    show Q (.bl (if false = true then !inV (V.int a) [V.int k, V.int (k + 1)] else inV (V.int a) [V.int k, V.int (k + 1)])) _
    rw [e]
    exact q _ (same_new np)
end

theorem ok_wait : PyData.strOk "wait" = true := by decide +kernel
theorem ok_shift : PyData.strOk "shift" = true := by decide +kernel
theorem ok_in : PyData.strOk "in" = true := by decide +kernel
theorem ok_out : PyData.strOk "out" = true := by decide +kernel
theorem ok_do : PyData.strOk "do" = true := by decide +kernel
theorem Stp.lay : ∀ t : Stp, Lay 1 t.d
  | .wait => (Lays.cons (lay_str ok_wait) lays_nil).tup
  | .shift _ => (Lays.cons (lay_str ok_shift) (Lays.cons lay_int lays_nil)).tup
  | .cin _ => (Lays.cons (lay_str ok_in) (Lays.cons lay_int lays_nil)).tup
  | .cout _ => (Lays.cons (lay_str ok_out) (Lays.cons lay_int lays_nil)).tup
  | .wish _ => (Lays.cons (lay_str ok_do) (Lays.cons lay_int lays_nil)).tup
theorem Sta.lay (s : Sta) : Lay 2 s.d := (Lays.cons lay_int (Lays.cons (lays_ints _).tup (Lays.cons (lays_ints _).tup (Lays.cons lay_int lays_nil)))).tup
def dsteps (l : List Stp) : List PyData := l.map Stp.d
theorem steps_lays (l : List Stp) : Lays 1 (dsteps l) := .all fun d hd => by
  obtain ⟨i, _, rfl⟩ := List.mem_map.mp hd
  exact i.lay
def fixedSteps : List Stp := [.wait, .shift (-1), .shift 1, .cin 0, .cin 1, .cout 0, .cout 1]
def allSteps (m : Nat) : List Stp := fixedSteps ++ (List.range m).map fun (k : Nat) => Stp.wish (k : Int)
theorem mem_allSteps {m : Nat} {t : Stp} (h : StpOk m t) : t ∈ allSteps m := by
  unfold allSteps fixedSteps
  cases t with
  | wait => simp
  | shift b => rcases h with rfl | rfl <;> simp
  | cin c => rcases h with rfl | rfl <;> simp
  | cout c => rcases h with rfl | rfl <;> simp
  | wish n =>
    obtain ⟨h0, h1⟩ := h
    refine List.mem_append_right _ (List.mem_map.mpr ⟨n.toNat, List.mem_range.mpr (by omega), ?_⟩)
    rw [Int.toNat_of_nonneg h0]
theorem allSteps_ok {m : Nat} {t : Stp} (h : t ∈ allSteps m) : StpOk m t := by
  rcases List.mem_append.mp h with h | h
  · simp only [fixedSteps, List.mem_cons, List.not_mem_nil, or_false] at h
    rcases h with rfl | rfl | rfl | rfl | rfl | rfl | rfl
    · trivial
    · exact .inl rfl
    · exact .inr rfl
    · exact .inl rfl
    · exact .inr rfl
    · exact .inl rfl
    · exact .inr rfl
  · obtain ⟨k, hk, rfl⟩ := List.mem_map.mp h
    exact ⟨Int.natCast_nonneg _, by have := List.mem_range.mp hk; omega⟩
theorem find_take {l : List Int} {p : Int → Bool} {i : Nat} {z : Int} (h : ∀ y ∈ l.take i, p y = false) (hi : l[i]? = some z) (hz : p z = true) : l.find? p = some z := by
  obtain ⟨h1, h2⟩ := List.getElem?_eq_some_iff.mp hi
  have e : l = l.take i ++ z :: l.drop (i + 1) := by
    have e := List.drop_eq_getElem_cons h1
    rw [h2] at e
    rw [← e, List.take_append_drop]
  rw [e, List.find?_append, List.find?_eq_none.mpr (fun y hy => by rw [h y hy]; decide), Option.none_or, List.find?_cons_of_pos hz]
section
variable {P : Program} {w : World} {K : PySem.W.Frag} {mg : Str → Option Value} {base : Heap}
def spBarLoad (K : PySem.W.Frag) (C : Addr) : Sp := fun vs H Q _ => ∃ (p d : Addr) (kind : Str) (k : Int) (S : Sto) (done : List Int), vs = [.ref p, .ref d, .str kind, .int k] ∧ Ob K C H p S ∧ SqT K H d (done.map V.int) ∧ 0 ≤ k ∧ k < S.shelves.length ∧ Rising 0 S.wishes.length done ∧
  Ret K H Q (dbar (barLoad S done kind k))
/-! _bar_of_load: 0 store, 1 done, 2 kind, 3 shelf, 4 room, 5 _, 6 has -/
abbrev s__bar_of_load : Stmt := topS 22
abbrev N__bar_of_load : List Str := ["store", "done", "kind", "shelf", "room", "_", "has"]
theorem sc__bar_of_load : FnScope N__bar_of_load ["store", "done", "kind", "shelf"] (defScope s__bar_of_load) := ⟨rfl, rfl, rfl, by decide +kernel, rfl, by decide +kernel, by decide +kernel⟩
theorem ok__bar_of_load {f f1 C fI fS fW : Addr} {fd fd1 fdI fdS fdW : FuncData} (D : Dfs K mg "_bar_of_load" s__bar_of_load ["store", "done", "kind", "shelf"] f fd) (TS : TSx K mg C fI fS fW fdI fdS fdW) (G_shelves : FnOk P w K mg base CX0 1 fS fdS ["self"] (spShelvesM K C))
    (C__has_now : Cal P w K mg base 2 "_has_now" ["store", "done", "shelf"] (spHasNow K C) f1 fd1) : Cal P w K mg base 3 "_bar_of_load" ["store", "done", "kind", "shelf"] (spBarLoad K C) f fd := by
  refine D.cal (D.F.ok sc__bar_of_load (fun vs H Q E h => ?_) (fun cdv A outer s H vs Q E hr h => ?_))
  · obtain ⟨p, d, kind, k, S, done, rfl, _⟩ := h
    rfl
  · obtain ⟨p, d, kind, k, S, done, rfl, ob, hd, k0, k1, hz, q⟩ := h
    obtain ⟨dx, l, m, xs, ys, o⟩ := id ob
    obtain ⟨sh, hsh, _, _, eroom⟩ := shelf_at_k k0 k1
    refine ⟨_, (pss_cons (ps_asg (pe_ix (kix_list (K := K)) (pe_meth0 (pv 0) TS.cl TS.m_shelves G_shelves (hr.mono (by decide)) TS.b_shelves .nil pass0) (pv 3) (fun _ _ => rfl)) (pg_tup (by rfl) (pgs_cons (pg_name (i := 4) sc__bar_of_load.nd rfl (Or.inl rfl)) (pgs_cons (pg_name (i := 5) sc__bar_of_load.nd rfl (Or.inl rfl)) (pgs_cons (pg_name (i := 5) sc__bar_of_load.nd rfl (Or.inl rfl)) pgs_nil)))))
      (pss_cons (ps_set (i := 6) sc__bar_of_load.nd rfl (Or.inl rfl) (pe_call C__has_now.G (hr.mono (by decide)) (by rfl) C__has_now.g C__has_now.kp C__has_now.b .nil pass0 (pa_cons (pv 0) (pa_cons (pv 1) (pa_cons (pv 3) pa_nil)))))
      (pss_cons (ps_if (PW.pt (pw_and (pt_cmpR op_eq (pv 2) pe_str (nomark _)) (pw_and1 (pt_cmpR op_eq (pv 6) pe_int (nomark _))))) (pss_one (ps_ret (pe_tup (pa_cons pe_str (pa_cons (pv 3) pa_nil))))) pss_nil)
      (pss_cons (ps_if (PW.pt (pw_and (pt_cmpR op_eq (pv 2) pe_str (nomark _)) (pw_and1 (pt_cmpR op_eq (pv 6) (pv 4) (nomark _))))) (pss_one (ps_ret (pe_tup (pa_cons pe_str (pa_cons (pv 3) pa_nil))))) pss_nil)
      (pss_one (ps_ret pe_non)))))), ?_⟩
    refine ⟨_, rfl, p, dx, _, rfl, o.o, fsS_m1, p, S, rfl, ob, fun r zs nr dzs => ?_⟩
    obtain ⟨a, ha, hT⟩ := shelf_get dzs hsh
    have s1 := same_new (o := .lst zs) nr
    refine ⟨_, rfl, r, zs, k, .ref a, rfl, rfl, lst_new, at_of (j := k.toNat) (by omega) ha, a, _, rfl, Same.t s1 hT, rfl, _, _, rfl, _, _, rfl, _, _, rfl, rfl, ?_⟩
    refine ⟨_, rfl, _, rfl, _, rfl, p, d, k, S, done, rfl, ob.mono s1, Same.t s1 hd, k0, k1, hz, fun H2 s2 => ?_⟩
    have s12 := s1.trans s2
    refine ⟨_, rfl, rfl, _, rfl, ?_⟩
    unfold barLoad at q
    rw [eroom] at q
    by_cases e1 : kind = "fetch"
    · refine itD (by rw [e1]) ⟨_, rfl, rfl, _, rfl, ?_⟩
      by_cases e2 : goods S done k = 0
      · rw [if_pos ⟨e1, e2⟩] at q
        exact itD (by rw [e2]) ⟨_, rfl, small (by simp), fun pt npt => q _ _ (Same.new s12 npt) two_new⟩
      · rw [if_neg (fun z => e2 z.2), if_neg (fun z => by rw [e1] at z; exact absurd z.1 (by decide +kernel))] at q
        refine itF (ine e2) ⟨_, rfl, rfl, _, rfl, itF (sne (by rw [e1]; decide +kernel)) (iteF ?_)⟩
        exact q _ _ s12 .non
    · rw [if_neg (fun z => e1 z.1)] at q
      refine itF (sne e1) (iteF ⟨_, rfl, rfl, _, rfl, ?_⟩)
      by_cases e3 : kind = "bring"
      · refine itD (by rw [e3]) ⟨_, rfl, _, rfl, rfl, _, rfl, ?_⟩
        by_cases e2 : goods S done k = sh.room
        · rw [if_pos ⟨e3, e2⟩] at q
          exact itD (by rw [e2]) ⟨_, rfl, small (by simp), fun pt npt => q _ _ (Same.new s12 npt) two_new⟩
        · rw [if_neg (fun z => e2 z.2)] at q
          exact itF (ine e2) (q _ _ s12 .non)
      · rw [if_neg (fun z => e3 z.1)] at q
        exact itF (sne e3) (iteF (q _ _ s12 .non))
def spBarWish (K : PySem.W.Frag) (C : Addr) : Sp := fun vs H Q _ => ∃ (p : Addr) (v : V) (n : Int) (S : Sto) (s : Sta), vs = [.ref p, v, .int n] ∧ Ob K C H p S ∧ Dp K H v s.d ∧ StoOk S ∧ Rising 0 S.wishes.length s.done ∧ 0 ≤ n ∧ n < S.wishes.length ∧
  Ret K H Q (dbar (barWish S s n))
/-! _bar_of_wish: 0 store, 1 state, 2 wish, 3 aisle, 4 done, 5 inside, 6 _, 7 kind, 8 shelf, 9 side, 10 crew, 11 after, 12 earlier -/
abbrev s__bar_of_wish : Stmt := topS 21
abbrev N__bar_of_wish : List Str := ["store", "state", "wish", "aisle", "done", "inside", "_", "kind", "shelf", "side", "crew", "after", "earlier"]
theorem sc__bar_of_wish : FnScope N__bar_of_wish ["store", "state", "wish"] (defScope s__bar_of_wish) := ⟨rfl, rfl, rfl, by decide +kernel, rfl, by decide +kernel, by decide +kernel⟩
theorem ok__bar_of_wish {f f1 f2 C fI fS fW : Addr} {fd fd1 fd2 fdI fdS fdW : FuncData} (D : Dfs K mg "_bar_of_wish" s__bar_of_wish ["store", "state", "wish"] f fd) (TS : TSx K mg C fI fS fW fdI fdS fdW) (G_wishes : FnOk P w K mg base CX0 1 fW fdW ["self"] (spWishesM K C))
    (C__bar_of_load : Cal P w K mg base 3 "_bar_of_load" ["store", "done", "kind", "shelf"] (spBarLoad K C) f1 fd1) (C__is_beside : Cal P w K mg base 1 "_is_beside" ["aisle", "shelf", "side"] spBeside f2 fd2) :
    Cal P w K mg base 4 "_bar_of_wish" ["store", "state", "wish"] (spBarWish K C) f fd := by
  refine D.cal (D.F.ok sc__bar_of_wish (fun vs H Q E h => ?_) (fun cdv A outer s H vs Q E hr h => ?_))
  · obtain ⟨p, v, n, S, s, rfl, _⟩ := h
    rfl
  · obtain ⟨p, v, n, S, st, rfl, ob, hv, ok, hz, n0, n1, q⟩ := h
    obtain ⟨dx, l, m, xs, ys, o⟩ := id ob
    obtain ⟨x, hx, hmem⟩ := wish_at_k n0 n1
    have okx := ok.ws x hmem
    obtain ⟨sa, d, i, rfl, hsa, hd, hi⟩ := sta_at hv
    refine ⟨_, (pss_cons (ps_asg (pv 1) (pg_tup (by rfl) (pgs_cons (pg_name (i := 3) sc__bar_of_wish.nd rfl (Or.inl rfl)) (pgs_cons (pg_name (i := 4) sc__bar_of_wish.nd rfl (Or.inl rfl)) (pgs_cons (pg_name (i := 5) sc__bar_of_wish.nd rfl (Or.inl rfl)) (pgs_cons (pg_name (i := 6) sc__bar_of_wish.nd rfl (Or.inl rfl)) pgs_nil))))))
      (pss_cons (ps_asg (pe_ix (kix_list (K := K)) (pe_meth0 (pv 0) TS.cl TS.m_wishes G_wishes (hr.mono (by decide)) TS.b_wishes .nil pass0) (pv 2) (fun _ _ => rfl)) (pg_tup (by rfl) (pgs_cons (pg_name (i := 7) sc__bar_of_wish.nd rfl (Or.inl rfl)) (pgs_cons (pg_name (i := 8) sc__bar_of_wish.nd rfl (Or.inl rfl)) (pgs_cons (pg_name (i := 9) sc__bar_of_wish.nd rfl (Or.inl rfl)) (pgs_cons (pg_name (i := 10) sc__bar_of_wish.nd rfl (Or.inl rfl)) (pgs_cons (pg_name (i := 6) sc__bar_of_wish.nd rfl (Or.inl rfl)) (pgs_cons (pg_name (i := 11) sc__bar_of_wish.nd rfl (Or.inl rfl)) pgs_nil))))))))
      (pss_cons (ps_if (pt_cmpR (kin_seq (K := K)) (pv 2) (pv 4) (by rfl)) (pss_one (ps_ret (pe_tup (pa_cons pe_str (pa_cons (pv 2) pa_nil))))) pss_nil)
      (pss_cons (ps_for PassesOwn.never rfl (pi_tup (pv 11)) (pg_name (i := 12) sc__bar_of_wish.nd rfl (Or.inl rfl)) (pss_one (ps_if (pt_cmpR (knotIn_seq (K := K)) (pv 12) (pv 4) (by rfl)) (pss_one (ps_ret (pe_tup (pa_cons pe_str (pa_cons (pv 12) pa_nil))))) pss_nil)))
      (pss_cons (ps_if (pt_cmpR (knotIn_seq (K := K)) (pv 10) (pv 5) (by rfl)) (pss_one (ps_ret (pe_tup (pa_cons pe_str (pa_cons (pv 10) pa_nil))))) pss_nil)
      (pss_cons (ps_if (pt_not (pt_val (pe_call C__is_beside.G (hr.mono (by decide)) (by rfl) C__is_beside.g C__is_beside.kp C__is_beside.b .nil pass0 (pa_cons (pv 3) (pa_cons (pv 8) (pa_cons (pv 9) pa_nil)))))) (pss_one (ps_ret (pe_tup (pa_cons pe_str (pa_cons (pv 3) pa_nil))))) pss_nil)
      (pss_one (ps_ret (pe_call C__bar_of_load.G (hr.mono (by decide)) (by rfl) C__bar_of_load.g C__bar_of_load.kp C__bar_of_load.b .nil pass0 (pa_cons (pv 0) (pa_cons (pv 4) (pa_cons (pv 7) (pa_cons (pv 8) pa_nil))))))))))))), ?_⟩
    refine ⟨_, rfl, sa, _, rfl, hsa, rfl, _, _, rfl, _, _, rfl, _, _, rfl, _, _, rfl, rfl, ?_⟩
    refine ⟨_, rfl, p, dx, _, rfl, o.o, fsS_m2, p, S, rfl, ob, fun r zs nr dzs => ?_⟩
    obtain ⟨a, t, ha, hT, ht⟩ := wish_get dzs hx
    have s1 := same_new (o := .lst zs) nr
    replace hT := Same.t s1 hT
    replace ht := Same.t s1 ht
    refine ⟨_, rfl, r, zs, n, .ref a, rfl, rfl, lst_new, at_of (j := n.toNat) (by omega) ha, a, _, rfl, hT, rfl, _, _, rfl, _, _, rfl, _, _, rfl, _, _, rfl, _, _, rfl, _, _, rfl, rfl, ?_⟩
    have hd1 := Same.t s1 hd
    have hi1 := Same.t s1 hi
    have ob1 := ob.mono s1
    unfold barWish at q
    rw [hx] at q
    dsimp only at q
    generalize upd H r (.lst zs) = H1 at s1 hd1 hi1 ob1 hT ht
    refine ⟨_, rfl, _, rfl, d, _, rfl, .inr hd1, rfl, flat_ints _, _, rfl, ?_⟩
    by_cases e1 : n ∈ st.done
    · rw [if_pos e1] at q
      exact in_y e1 ⟨_, rfl, small (by simp), fun pt npt => q _ _ (Same.new s1 npt) two_new⟩
    rw [if_neg e1] at q
    refine in_n e1 ?_
    -- for earlier in after
    refine ⟨_, rfl, t, rfl, ⟨_, ht⟩, for_tup (K := K) (a := t) (xs := x.after.map V.int) (fun j σ H' => H' = H1 ∧ (∀ z ∈ x.after.take j, z ∈ st.done) ∧ ∃ v12 : Option V, σ = [some (.ref p), some (.ref sa), some (.int n), some (.int st.aisle), some (.ref d), some (.ref i), some (.int x.keep), some (.str x.kind), some (.int x.shelf), some (.str x.side), some (.int x.crew), some (.ref t), v12])
      ⟨rfl, fun z hz => absurd hz (by simp), none, rfl⟩ (fun j σ H' _ h => by rw [h.1]; exact ht) ?_ ?_⟩
    · rintro j y σ H' hj ⟨rfl, hall, v12, rfl⟩
      obtain ⟨z, hzj, rfl⟩ := int_item hj
      refine ⟨_, rfl, _, rfl, d, _, rfl, .inr hd1, rfl, flat_ints _, _, rfl, ?_⟩
      by_cases e2 : z ∈ st.done
      · refine ni_n e2 ⟨rfl, ?_, _, rfl⟩
        intro y hy
        rw [take_snoc hzj] at hy
        rcases List.mem_append.mp hy with hy | hy
        · exact hall y hy
        · rw [List.mem_singleton] at hy
          rw [hy]
          exact e2
      · have ef : x.after.find? (fun z => decide (z ∉ st.done)) = some z := find_take (fun y hy => by rw [decide_eq_false (fun h => h (hall y hy))]) hzj (decide_eq_true e2)
        rw [ef] at q
        exact ni_y e2 ⟨_, rfl, small (by simp), fun pt npt => q _ _ (Same.new s1 npt) two_new⟩
    · rintro σ H' ⟨rfl, hall, v12, rfl⟩
      rw [List.length_map, List.take_length] at hall
      have ef : x.after.find? (fun z => decide (z ∉ st.done)) = none := List.find?_eq_none.mpr fun y hy => by
        rw [decide_eq_false (fun h => h (hall y hy))]
        decide
      rw [ef] at q
      dsimp only at q
      refine ⟨_, rfl, _, rfl, i, _, rfl, .inr hi1, rfl, flat_ints _, _, rfl, ?_⟩
      by_cases e3 : x.crew ∈ st.inside
      · rw [if_neg (fun h => h e3)] at q
        refine ni_n e3 ⟨_, rfl, _, rfl, _, rfl, st.aisle, x.shelf, x.side, rfl, fun H2 s2 => ⟨_, rfl, ?_⟩⟩
        have s12 := s1.trans s2
        cases e4 : beside st.aisle x.shelf x.side with
        | false =>
          rw [e4, if_pos rfl] at q
          exact iteT ⟨_, rfl, small (by simp), fun pt npt => q _ _ (Same.new s12 npt) two_new⟩
        | true =>
          rw [e4, if_neg (by decide)] at q
          exact iteF ⟨_, rfl, _, rfl, _, rfl, _, rfl, p, d, x.kind, x.shelf, S, st.done, rfl, ob1.mono s2, Same.t s2 hd1, okx.s0, okx.s1, hz, fun v H3 s3 h3 => q v H3 (s12.trans s3) h3⟩
      · rw [if_pos e3] at q
        exact ni_y e3 ⟨_, rfl, small (by simp), fun pt npt => q _ _ (Same.new s1 npt) two_new⟩
def spBarIn (K : PySem.W.Frag) : Sp := fun vs H Q _ => ∃ (v : V) (c : Int) (s : Sta), vs = [v, .int c] ∧ Dp K H v s.d ∧ Ret K H Q (dbar (if c ∈ s.inside then some ("is", c) else none))
/-! _bar_of_going_in: 0 state, 1 crew, 2 _, 3 inside -/
abbrev s__bar_of_going_in : Stmt := topS 19
abbrev N__bar_of_going_in : List Str := ["state", "crew", "_", "inside"]
theorem sc__bar_of_going_in : FnScope N__bar_of_going_in ["state", "crew"] (defScope s__bar_of_going_in) := ⟨rfl, rfl, rfl, by decide +kernel, rfl, by decide +kernel, by decide +kernel⟩
theorem ok__bar_of_going_in {f : Addr} {fd : FuncData} (D : Dfs K mg "_bar_of_going_in" s__bar_of_going_in ["state", "crew"] f fd) : Cal P w K mg base 1 "_bar_of_going_in" ["state", "crew"] (spBarIn K) f fd := by
  refine D.cal (D.F.ok sc__bar_of_going_in (fun vs H Q E h => ?_) (fun cdv A outer s H vs Q E hr h => ?_))
  · obtain ⟨v, c, s, rfl, _⟩ := h
    rfl
  · obtain ⟨v, c, st, rfl, hv, q⟩ := h
    obtain ⟨sa, d, i, rfl, hsa, hd, hi⟩ := sta_at hv
    refine ⟨_, (pss_cons (ps_asg (pv 0) (pg_tup (by rfl) (pgs_cons (pg_name (i := 2) sc__bar_of_going_in.nd rfl (Or.inl rfl)) (pgs_cons (pg_name (i := 2) sc__bar_of_going_in.nd rfl (Or.inl rfl)) (pgs_cons (pg_name (i := 3) sc__bar_of_going_in.nd rfl (Or.inl rfl)) (pgs_cons (pg_name (i := 2) sc__bar_of_going_in.nd rfl (Or.inl rfl)) pgs_nil))))))
      (pss_cons (ps_if (pt_cmpR (kin_seq (K := K)) (pv 1) (pv 3) (by rfl)) (pss_one (ps_ret (pe_tup (pa_cons pe_str (pa_cons (pv 1) pa_nil))))) pss_nil)
      (pss_one (ps_ret pe_non)))), ?_⟩
    refine ⟨_, rfl, sa, _, rfl, hsa, rfl, _, _, rfl, _, _, rfl, _, _, rfl, _, _, rfl, rfl, ?_⟩
    refine ⟨_, rfl, _, rfl, i, _, rfl, .inr hi, rfl, flat_ints _, _, rfl, ?_⟩
    by_cases e1 : c ∈ st.inside
    · rw [if_pos e1] at q
      exact in_y e1 ⟨_, rfl, small (by simp), fun pt npt => q _ _ (same_new npt) two_new⟩
    · rw [if_neg e1] at q
      exact in_n e1 (q _ _ (Same.refl _) .non)
def spBarOut (K : PySem.W.Frag) : Sp := fun vs H Q _ => ∃ (v : V) (c : Int) (s : Sta), vs = [v, .int c] ∧ Dp K H v s.d ∧ Ret K H Q (dbar (if c ∈ s.inside then none else some ("isnt", c)))
/-! _bar_of_going_out: 0 state, 1 crew, 2 _, 3 inside -/
abbrev s__bar_of_going_out : Stmt := topS 20
abbrev N__bar_of_going_out : List Str := ["state", "crew", "_", "inside"]
theorem sc__bar_of_going_out : FnScope N__bar_of_going_out ["state", "crew"] (defScope s__bar_of_going_out) := ⟨rfl, rfl, rfl, by decide +kernel, rfl, by decide +kernel, by decide +kernel⟩
theorem ok__bar_of_going_out {f : Addr} {fd : FuncData} (D : Dfs K mg "_bar_of_going_out" s__bar_of_going_out ["state", "crew"] f fd) : Cal P w K mg base 1 "_bar_of_going_out" ["state", "crew"] (spBarOut K) f fd := by
  refine D.cal (D.F.ok sc__bar_of_going_out (fun vs H Q E h => ?_) (fun cdv A outer s H vs Q E hr h => ?_))
  · obtain ⟨v, c, s, rfl, _⟩ := h
    rfl
  · obtain ⟨v, c, st, rfl, hv, q⟩ := h
    obtain ⟨sa, d, i, rfl, hsa, hd, hi⟩ := sta_at hv
    refine ⟨_, (pss_cons (ps_asg (pv 0) (pg_tup (by rfl) (pgs_cons (pg_name (i := 2) sc__bar_of_going_out.nd rfl (Or.inl rfl)) (pgs_cons (pg_name (i := 2) sc__bar_of_going_out.nd rfl (Or.inl rfl)) (pgs_cons (pg_name (i := 3) sc__bar_of_going_out.nd rfl (Or.inl rfl)) (pgs_cons (pg_name (i := 2) sc__bar_of_going_out.nd rfl (Or.inl rfl)) pgs_nil))))))
      (pss_cons (ps_if (pt_cmpR (knotIn_seq (K := K)) (pv 1) (pv 3) (by rfl)) (pss_one (ps_ret (pe_tup (pa_cons pe_str (pa_cons (pv 1) pa_nil))))) pss_nil)
      (pss_one (ps_ret pe_non)))), ?_⟩
    refine ⟨_, rfl, sa, _, rfl, hsa, rfl, _, _, rfl, _, _, rfl, _, _, rfl, _, _, rfl, rfl, ?_⟩
    refine ⟨_, rfl, _, rfl, i, _, rfl, .inr hi, rfl, flat_ints _, _, rfl, ?_⟩
    by_cases e1 : c ∈ st.inside
    · rw [if_pos e1] at q
      exact ni_n e1 (q _ _ (Same.refl _) .non)
    · rw [if_neg e1] at q
      exact ni_y e1 ⟨_, rfl, small (by simp), fun pt npt => q _ _ (same_new npt) two_new⟩
def spBarShift (K : PySem.W.Frag) (C : Addr) : Sp := fun vs H Q _ => ∃ (p : Addr) (v : V) (b : Int) (S : Sto) (s : Sta), vs = [.ref p, v, .int b] ∧ Ob K C H p S ∧ Dp K H v s.d ∧ Ret K H Q (dbar (barShift S s b))
/-! _bar_of_shift: 0 store, 1 state, 2 by, 3 aisle, 4 _, 5 inside, 6 kept, 7 shelves, 8 shelf, 9 sticks -/
abbrev s__bar_of_shift : Stmt := topS 18
abbrev N__bar_of_shift : List Str := ["store", "state", "by", "aisle", "_", "inside", "kept", "shelves", "shelf", "sticks"]
theorem sc__bar_of_shift : FnScope N__bar_of_shift ["store", "state", "by"] (defScope s__bar_of_shift) := ⟨rfl, rfl, rfl, by decide +kernel, rfl, by decide +kernel, by decide +kernel⟩
theorem ok__bar_of_shift {f C fI fS fW : Addr} {fd fdI fdS fdW : FuncData} (D : Dfs K mg "_bar_of_shift" s__bar_of_shift ["store", "state", "by"] f fd) (T : Tx K mg) (TS : TSx K mg C fI fS fW fdI fdS fdW) (G_shelves : FnOk P w K mg base CX0 1 fS fdS ["self"] (spShelvesM K C)) :
    Cal P w K mg base 2 "_bar_of_shift" ["store", "state", "by"] (spBarShift K C) f fd := by
  refine D.cal (D.F.ok sc__bar_of_shift (fun vs H Q E h => ?_) (fun cdv A outer s H vs Q E hr h => ?_))
  · obtain ⟨p, v, b, S, s, rfl, _⟩ := h
    rfl
  · obtain ⟨p, v, b, S, st, rfl, ob, hv, q⟩ := h
    obtain ⟨dx, l, m, xs, ys, o⟩ := id ob
    obtain ⟨sa, d, i, rfl, hsa, hd, hi⟩ := sta_at hv
    refine ⟨_, (pss_cons (ps_asg (pv 1) (pg_tup (by rfl) (pgs_cons (pg_name (i := 3) sc__bar_of_shift.nd rfl (Or.inl rfl)) (pgs_cons (pg_name (i := 4) sc__bar_of_shift.nd rfl (Or.inl rfl)) (pgs_cons (pg_name (i := 5) sc__bar_of_shift.nd rfl (Or.inl rfl)) (pgs_cons (pg_name (i := 6) sc__bar_of_shift.nd rfl (Or.inl rfl)) pgs_nil))))))
      (pss_cons (ps_set (i := 7) sc__bar_of_shift.nd rfl (Or.inl rfl) (pe_meth0 (pv 0) TS.cl TS.m_shelves G_shelves (hr.mono (by decide)) TS.b_shelves .nil pass0))
      (C8.pss_cut (ps_set (i := 8) sc__bar_of_shift.nd rfl (Or.inl rfl) (pe_ifExp (pt_cmpR op_eq (pv 2) pe_int (nomark _)) (pv 3) (pe_op op_sub (pv 3) pe_int)))
      (pss_cons (ps_if (pt_not (pt_chain op_le op_lt pe_int (pv 8) (pe_callB (klen (K := K)) (by rfl) T.n_len (by decide +kernel) (pa_cons (pv 7) pa_nil)))) (pss_one (ps_ret (pe_tup (pa_cons pe_str (pa_cons (pv 3) pa_nil))))) pss_nil)
      (pss_cons (ps_asg (pe_ix (kix_list (K := K)) (pv 7) (pv 8) (fun _ _ => rfl)) (pg_tup (by rfl) (pgs_cons (pg_name (i := 4) sc__bar_of_shift.nd rfl (Or.inl rfl)) (pgs_cons (pg_name (i := 4) sc__bar_of_shift.nd rfl (Or.inl rfl)) (pgs_cons (pg_name (i := 9) sc__bar_of_shift.nd rfl (Or.inl rfl)) pgs_nil)))))
      (pss_cons (ps_if (pt_cmpR op_eq (pv 9) pe_int (nomark _)) (pss_one (ps_ret (pe_tup (pa_cons pe_str (pa_cons (pv 8) pa_nil))))) pss_nil)
      (pss_cons (ps_if (pt_cmpR op_gt (pe_callB (klen (K := K)) (by rfl) T.n_len (by decide +kernel) (pa_cons (pv 5) pa_nil)) pe_int (nomark _)) (pss_one (ps_ret (pe_tup (pa_cons pe_str (pa_cons (pe_ix (kix_tup (K := K)) (pv 5) pe_int (fun _ _ => rfl)) pa_nil))))) pss_nil)
      (pss_cons (ps_if (pt_cmpR op_gt (pv 6) pe_int (nomark _)) (pss_one (ps_ret (pe_tup (pa_cons pe_str (pa_cons (pv 6) pa_nil))))) pss_nil)
      (pss_one (ps_ret pe_non)))))))))), ?_⟩
    refine ⟨_, rfl, sa, _, rfl, hsa, rfl, _, _, rfl, _, _, rfl, _, _, rfl, _, _, rfl, rfl, ?_⟩
    refine ⟨_, rfl, p, dx, _, rfl, o.o, fsS_m1, p, S, rfl, ob, fun r zs nr dzs => ?_⟩
    have s1 := same_new (o := .lst zs) nr
    have hr1 : SqL K (upd H r (.lst zs)) r zs := lst_new
    have hi1 := Same.t s1 hi
    have lz : zs.length = S.shelves.length := (dps_len dzs).trans (List.length_map ..)
    have dz1 := dps_mono s1 dzs
    generalize upd H r (.lst zs) = H1 at s1 hr1 hi1 dz1
    refine ⟨fun σ H' => H' = H1 ∧ σ = [some (.ref p), some (.ref sa), some (.int b), some (.int st.aisle), some (.ref d), some (.ref i), some (.int st.kept), some (.ref r), some (.int (if b = 1 then st.aisle else st.aisle - 1)), none], ?_, ?_⟩
    · refine ⟨_, rfl, rfl, _, rfl, ?_⟩
      by_cases e : b = 1
      · refine itD (by rw [e]) ⟨_, rfl, rfl, ?_⟩
        rw [if_pos e]
        rfl
      · refine itF (ine e) ⟨_, rfl, _, 1, rfl, rfl, rfl, ?_⟩
        rw [if_neg e]
        rfl
    · rintro σ H' ⟨rfl, rfl⟩
      unfold barShift at q
      dsimp only at q
      generalize (if b = 1 then st.aisle else st.aisle - 1) = sh at q
      refine ⟨_, rfl, _, _, rfl, rfl, _, rfl, ?_⟩
      by_cases e0 : 0 ≤ sh
      rotate_left
      · rw [if_neg (fun z => e0 z.1)] at q
        exact itF e0 ⟨_, rfl, iteT ⟨_, rfl, small (by simp), fun pt npt => q _ _ (Same.new s1 npt) two_new⟩⟩
      refine itD e0 ⟨_, rfl, r, zs, rfl, .inl hr1, _, _, rfl, rfl, _, rfl, ?_⟩
      by_cases e1 : sh < S.shelves.length
      rotate_left
      · rw [if_neg (fun z => e1 z.2)] at q
        exact itnF (by omega) ⟨_, rfl, small (by simp), fun pt npt => q _ _ (Same.new s1 npt) two_new⟩
      rw [if_pos ⟨e0, e1⟩] at q
      refine iteNS (by omega) ?_
      obtain ⟨x, hx, _⟩ := shelf_at_k e0 e1
      rw [hx] at q
      dsimp only at q
      obtain ⟨a, ha, hT⟩ := shelf_get dz1 hx
      refine ⟨_, rfl, _, rfl, r, zs, sh, .ref a, rfl, rfl, hr1, at_of (j := sh.toNat) (by omega) ha, a, _, rfl, hT, rfl, _, _, rfl, _, _, rfl, _, _, rfl, rfl, ?_⟩
      refine ⟨_, rfl, rfl, _, rfl, ?_⟩
      by_cases e2 : x.sticks = 1
      · rw [if_pos e2] at q
        exact itD (by rw [e2]) ⟨_, rfl, small (by simp), fun pt npt => q _ _ (Same.new s1 npt) two_new⟩
      rw [if_neg e2] at q
      refine itF (ine e2) ⟨_, rfl, i, _, rfl, .inr hi1, _, _, rfl, rfl, _, rfl, ?_⟩
      cases e3 : st.inside with
      | cons c cs =>
        rw [e3] at q hi1
        refine itD (by simp) ⟨_, rfl, i, _, 0, .int c, rfl, rfl, hi1, at_of (j := 0) rfl rfl, small (by simp), fun pt npt => q _ _ (Same.new s1 npt) two_new⟩
      | nil =>
        rw [e3] at q
        dsimp only at q
        refine itF (by simp) ⟨_, rfl, _, _, rfl, rfl, _, rfl, ?_⟩
        by_cases e4 : st.kept > 0
        · rw [if_pos e4] at q
          exact itD e4 ⟨_, rfl, small (by simp), fun pt npt => q _ _ (Same.new s1 npt) two_new⟩
        · rw [if_neg e4] at q
          exact itF e4 (q _ _ s1 .non)
end

structure Ts (K : PySem.W.Frag) (mg : Str → Option Value) : Prop where
  c_STEPS : ∃ (a : Addr) (xs : List V), mg "STEPS_OF_ANY_STORE" = some (.ref a) ∧ ∀ H, SqT K H a xs ∧ DpAll K H xs (dsteps fixedSteps)
section
variable {P : Program} {w : World} {K : PySem.W.Frag} {mg : Str → Option Value} {base : Heap}
def spBar (K : PySem.W.Frag) (C : Addr) : Sp := fun vs H Q _ => ∃ (p : Addr) (v u : V) (S : Sto) (s : Sta) (t : Stp), vs = [.ref p, v, u] ∧ Ob K C H p S ∧ Dp K H v s.d ∧ Dp K H u t.d ∧ StoOk S ∧ Rising 0 S.wishes.length s.done ∧ StpOk S.wishes.length t ∧
  Ret K H Q (dbar (bar S s t))
/-! _bar: 0 store, 1 state, 2 step, 3 word -/
abbrev s__bar : Stmt := topS 17
abbrev N__bar : List Str := ["store", "state", "step", "word"]
theorem sc__bar : FnScope N__bar ["store", "state", "step"] (defScope s__bar) := ⟨rfl, rfl, rfl, by decide +kernel, rfl, by decide +kernel, by decide +kernel⟩
theorem ok__bar {f f1 f2 f3 f4 C : Addr} {fd fd1 fd2 fd3 fd4 : FuncData} (D : Dfs K mg "_bar" s__bar ["store", "state", "step"] f fd) (C__bar_of_shift : Cal P w K mg base 2 "_bar_of_shift" ["store", "state", "by"] (spBarShift K C) f1 fd1)
    (C__bar_of_going_in : Cal P w K mg base 1 "_bar_of_going_in" ["state", "crew"] (spBarIn K) f2 fd2) (C__bar_of_going_out : Cal P w K mg base 1 "_bar_of_going_out" ["state", "crew"] (spBarOut K) f3 fd3) (C__bar_of_wish : Cal P w K mg base 4 "_bar_of_wish" ["store", "state", "wish"] (spBarWish K C) f4 fd4) :
    Cal P w K mg base 5 "_bar" ["store", "state", "step"] (spBar K C) f fd := by
  refine D.cal (D.F.ok sc__bar (fun vs H Q E h => ?_) (fun cdv A outer s H vs Q E hr h => ?_))
  · obtain ⟨p, v, u, S, s, t, rfl, _⟩ := h
    rfl
  · obtain ⟨p, v, u, S, st, t, rfl, ob, hv, hu, ok, hz, ht, q⟩ := h
    refine ⟨_, (pss_cons (ps_set (i := 3) sc__bar.nd rfl (Or.inl rfl) (pe_ix (kix_tup (K := K)) (pv 2) pe_int (fun _ _ => rfl)))
      (pss_cons (ps_if (pt_cmpR op_eq (pv 3) pe_str (nomark _)) (pss_one (ps_ret (pe_call C__bar_of_shift.G (hr.mono (by decide)) (by rfl) C__bar_of_shift.g C__bar_of_shift.kp C__bar_of_shift.b .nil pass0 (pa_cons (pv 0) (pa_cons (pv 1) (pa_cons (pe_ix (kix_tup (K := K)) (pv 2) pe_int (fun _ _ => rfl)) pa_nil)))))) pss_nil)
      (pss_cons (ps_if (pt_cmpR op_eq (pv 3) pe_str (nomark _)) (pss_one (ps_ret (pe_call C__bar_of_going_in.G (hr.mono (by decide)) (by rfl) C__bar_of_going_in.g C__bar_of_going_in.kp C__bar_of_going_in.b .nil pass0 (pa_cons (pv 1) (pa_cons (pe_ix (kix_tup (K := K)) (pv 2) pe_int (fun _ _ => rfl)) pa_nil))))) pss_nil)
      (pss_cons (ps_if (pt_cmpR op_eq (pv 3) pe_str (nomark _)) (pss_one (ps_ret (pe_call C__bar_of_going_out.G (hr.mono (by decide)) (by rfl) C__bar_of_going_out.g C__bar_of_going_out.kp C__bar_of_going_out.b .nil pass0 (pa_cons (pv 1) (pa_cons (pe_ix (kix_tup (K := K)) (pv 2) pe_int (fun _ _ => rfl)) pa_nil))))) pss_nil)
      (pss_cons (ps_if (pt_cmpR op_eq (pv 3) pe_str (nomark _)) (pss_one (ps_ret (pe_call C__bar_of_wish.G (hr.mono (by decide)) (by rfl) C__bar_of_wish.g C__bar_of_wish.kp C__bar_of_wish.b .nil pass0 (pa_cons (pv 0) (pa_cons (pv 1) (pa_cons (pe_ix (kix_tup (K := K)) (pv 2) pe_int (fun _ _ => rfl)) pa_nil)))))) pss_nil)
      (pss_one (ps_ret pe_non))))))), ?_⟩
    cases t with
    | wait =>
      obtain ⟨a, rfl, ha⟩ := dp_one hu
      refine ⟨_, rfl, a, _, 0, .str "wait", rfl, rfl, ha, rfl, ?_⟩
      refine ⟨_, rfl, rfl, _, rfl, itF (sne (by decide +kernel)) ⟨_, rfl, rfl, _, rfl, itF (sne (by decide +kernel)) ⟨_, rfl, rfl, _, rfl, itF (sne (by decide +kernel)) ⟨_, rfl, rfl, _, rfl, itF (sne (by decide +kernel)) ?_⟩⟩⟩⟩
      exact q _ _ (Same.refl _) .non
    | shift b =>
      obtain ⟨a, rfl, ha⟩ := dp_two hu
      refine ⟨_, rfl, a, _, 0, .str "shift", rfl, rfl, ha, rfl, ?_⟩
      refine ⟨_, rfl, rfl, _, rfl, itD rfl ⟨_, rfl, _, rfl, _, rfl, a, _, 1, .int b, rfl, rfl, ha, rfl, p, v, b, S, st, rfl, ob, hv, q⟩⟩
    | cin c =>
      obtain ⟨a, rfl, ha⟩ := dp_two hu
      refine ⟨_, rfl, a, _, 0, .str "in", rfl, rfl, ha, rfl, ?_⟩
      refine ⟨_, rfl, rfl, _, rfl, itF (sne (by decide +kernel)) ⟨_, rfl, rfl, _, rfl, itD rfl ⟨_, rfl, _, rfl, a, _, 1, .int c, rfl, rfl, ha, rfl, v, c, st, rfl, hv, q⟩⟩⟩
    | cout c =>
      obtain ⟨a, rfl, ha⟩ := dp_two hu
      refine ⟨_, rfl, a, _, 0, .str "out", rfl, rfl, ha, rfl, ?_⟩
      refine ⟨_, rfl, rfl, _, rfl, itF (sne (by decide +kernel)) ⟨_, rfl, rfl, _, rfl, itF (sne (by decide +kernel)) ⟨_, rfl, rfl, _, rfl, itD rfl ⟨_, rfl, _, rfl, a, _, 1, .int c, rfl, rfl, ha, rfl, v, c, st, rfl, hv, q⟩⟩⟩⟩
    | wish n =>
      obtain ⟨a, rfl, ha⟩ := dp_two hu
      refine ⟨_, rfl, a, _, 0, .str "do", rfl, rfl, ha, rfl, ?_⟩
      refine ⟨_, rfl, rfl, _, rfl, itF (sne (by decide +kernel)) ⟨_, rfl, rfl, _, rfl, itF (sne (by decide +kernel)) ⟨_, rfl, rfl, _, rfl, itF (sne (by decide +kernel)) ⟨_, rfl, rfl, _, rfl, itD rfl ?_⟩⟩⟩⟩
      exact ⟨_, rfl, _, rfl, _, rfl, a, _, 1, .int n, rfl, rfl, ha, rfl, p, v, n, S, st, rfl, ob, hv, ok, hz, ht.1, ht.2, q⟩
def sta0 (S : Sto) : Sta := ⟨S.aisle, [], [], 0⟩
def spBegin (K : PySem.W.Frag) (C : Addr) : Sp := fun vs H Q _ => ∃ (p : Addr) (S : Sto), vs = [.ref p] ∧ Ob K C H p S ∧ Ret K H Q (sta0 S).d
/-! begin: 0 store -/
abbrev s_begin : Stmt := topS 8
abbrev N_begin : List Str := ["store"]
theorem sc_begin : FnScope N_begin ["store"] (defScope s_begin) := ⟨rfl, rfl, rfl, by decide +kernel, rfl, by decide +kernel, by decide +kernel⟩
theorem ok_begin {f C fI fS fW : Addr} {fd fdI fdS fdW : FuncData} (D : Dfs K mg "begin" s_begin ["store"] f fd) (TS : TSx K mg C fI fS fW fdI fdS fdW) : Cal P w K mg base 1 "begin" ["store"] (spBegin K C) f fd := by
  refine D.cal (D.F.ok sc_begin (fun vs H Q E h => ?_) (fun cdv A outer s H vs Q E hr h => ?_))
  · obtain ⟨p, S, rfl, _⟩ := h
    rfl
  · obtain ⟨p, S, rfl, ⟨dx, l, m, xs, ys, o⟩, q⟩ := h
    refine ⟨_, (pss_one (ps_ret (pe_tup (pa_cons (pe_fld (pv 0) rfl) (pa_cons (pe_tup pa_nil) (pa_cons (pe_tup pa_nil) (pa_cons pe_int pa_nil))))))), ?_⟩
    refine ⟨_, rfl, p, C, dx, _, _, rfl, o.o, TS.cl, TS.nA, fsS_ai, small (by simp), fun p1 np1 => ⟨small (by simp), fun p2 np2 => ⟨small (by simp), fun p3 np3 => ?_⟩⟩⟩
    have s1 := same_new (o := .tup []) np1
    have s2 := same_new (o := .tup []) np2
    have s3 := same_new (o := .tup [.int S.aisle, .ref p1, .ref p2, .int 0]) np3
    exact q _ _ ((s1.trans s2).trans s3) (at_sta (s := sta0 S) tup_new (Same.t (s2.trans s3) tup_new) (Same.t s3 tup_new))
def spAllSteps (K : PySem.W.Frag) (C : Addr) : Sp := fun vs H Q _ => ∃ (p : Addr) (S : Sto), vs = [.ref p] ∧ Ob K C H p S ∧ StoOk S ∧ ∀ q xs H', Same H H' → H q = none → H' q = some (.lst xs) → DpAll K H' xs (dsteps (allSteps S.wishes.length)) → Q (.ref q) H'
/-! _all_steps: 0 store, 1 number -/
abbrev s__all_steps : Stmt := topS 16
abbrev N__all_steps : List Str := ["store", "number"]
theorem sc__all_steps : FnScope N__all_steps ["store"] (defScope s__all_steps) := ⟨rfl, rfl, rfl, by decide +kernel, rfl, by decide +kernel, by decide +kernel⟩
theorem ok__all_steps {f C fI fS fW : Addr} {fd fdI fdS fdW : FuncData} (D : Dfs K mg "_all_steps" s__all_steps ["store"] f fd) (T : Tx K mg) (Tp : Ts K mg) (TS : TSx K mg C fI fS fW fdI fdS fdW) (G_wishes : FnOk P w K mg base CX0 1 fW fdW ["self"] (spWishesM K C)) :
    Cal P w K mg base 2 "_all_steps" ["store"] (spAllSteps K C) f fd := by
  obtain ⟨a_STEPS_OF_ANY_STORE, fx, g_STEPS_OF_ANY_STORE, hF⟩ := Tp.c_STEPS
  refine D.cal (D.F.ok sc__all_steps (fun vs H Q E h => ?_) (fun cdv A outer s H vs Q E hr h => ?_))
  · obtain ⟨p, S, rfl, _⟩ := h
    rfl
  · obtain ⟨p, S, rfl, ob, ok, q⟩ := h
    obtain ⟨dx, l, m, xs, ys, o⟩ := id ob
    have w5 := ok.w5
    refine ⟨_, (pss_one (ps_ret (pe_op op_cat (pe_callTy (klist_of (K := K)) (by rfl) T.n_list (by decide +kernel) (pa_cons (pe_glob (v := .ref a_STEPS_OF_ANY_STORE) (by rfl) g_STEPS_OF_ANY_STORE rfl) pa_nil)) (pe_lc (own := [("number", 1)]) (g := gName 1) rfl sc__all_steps.nd (pi_range1 (by rfl) T.n_range (pa_cons (pe_callB (klen (K := K)) (by rfl) T.n_len (by decide +kernel) (pa_cons (pe_meth0 (pv 0) TS.cl TS.m_wishes G_wishes (hr.mono (by decide)) TS.b_wishes .nil pass0) pa_nil)) pa_nil)) (blkOk_by (own := [("number", 1)]) (N := N__all_steps) (sc := defScope s__all_steps) (by decide +kernel)) (fun _ _ _ _ _ => (pg_name (i := 1) sc__all_steps.nd rfl (Or.inl rfl))) (fun _ _ _ _ _ => pts_nil) (fun _ _ _ _ _ => by exact (pe_tup (pa_cons pe_str (pa_cons (pv 1) pa_nil)))))))), ?_⟩
    refine ⟨a_STEPS_OF_ANY_STORE, fx, rfl, .inr (hF _).1, fun l1 nl1 => ?_⟩
    have s1 := same_new (o := .lst fx) nl1
    refine ⟨_, rfl, p, dx, _, rfl, s1 _ _ o.o, fsS_m2, p, S, rfl, ob.mono s1, fun r us nr dus => ?_⟩
    have s2 := same_new (o := .lst us) nr
    have lu : us.length = S.wishes.length := (dps_len dus).trans (List.length_map ..)
    refine ⟨r, us, rfl, .inl lst_new, _, rfl, by omega, by omega, fun D nD => ?_⟩
    have e1 : (upd (upd H l1 (.lst fx)) r (.lst us)) l1 = some (.lst fx) := s2 _ _ upd_same
    have s12 := s1.trans s2
    generalize upd (upd H l1 (.lst fx)) r (.lst us) = H2 at nD e1 s12
    refine lc_range (lo := 0) (n := (us.length : Int).toNat) (fun i H' => ∃ B zs, Acq K H2 B H' D zs (dsteps ((List.range i).map fun (k : Nat) => Stp.wish (k : Int)))) ⟨H2, [], Acq.start (Same.refl _) (Same.refl _) nD⟩ ?_ ?_
    · rintro i H3 hi ⟨B, zs, A⟩
      refine ⟨rfl, _, rfl, small (by simp), fun p3 np3 => ?_⟩
      have A2 := A.grow (o := .tup [.str "do", .int (0 + (i : Int))]) np3
      refine ⟨zs, A2.el, ?_, ?_⟩
      · have e := dps_len A.dx
        have e2 : (dsteps ((List.range i).map fun (k : Nat) => Stp.wish (k : Int))).length = i := by
          unfold dsteps
          rw [List.length_map, List.length_map, List.length_range]
        exact small1000 (by omega)
      · refine ⟨upd B p3 (.tup [.str "do", .int (0 + (i : Int))]), zs ++ [.ref p3], ?_⟩
        · have A3 := A2.app (v := .ref p3) (d := (Stp.wish (0 + (i : Int))).d) (two_dp tup_new)
          have e : dsteps ((List.range (i + 1)).map fun (k : Nat) => Stp.wish (k : Int)) = dsteps ((List.range i).map fun (k : Nat) => Stp.wish (k : Int)) ++ [(Stp.wish (0 + (i : Int))).d] := by
            unfold dsteps
            rw [List.range_succ, List.map_append, List.map_append, Int.zero_add]
            rfl
          rw [e]
          exact A3
    · rintro H3 ⟨B, zs, A⟩
      obtain ⟨s3, _, dz⟩ := A.all
      have lz : zs.length = us.length := by
        have e := dps_len dz
        unfold dsteps at e
        rw [List.length_map, List.length_map, List.length_range] at e
        omega
      have lf : fx.length = 7 := dps_len (hF H).2
      refine ⟨l1, D, fx, zs, rfl, rfl, s3 _ _ e1, A.el, small (by omega), fun pq npq => ?_⟩
      have s4 := same_new (o := .lst (fx ++ zs)) npq
      refine q pq _ _ ((s12.trans s3).trans s4) ((s12.trans s3).free npq) upd_same ?_
      have e : dsteps (allSteps S.wishes.length) = dsteps fixedSteps ++ dsteps ((List.range S.wishes.length).map fun (k : Nat) => Stp.wish (k : Int)) := List.map_append ..
      rw [e]
      have en : (us.length : Int).toNat = S.wishes.length := by omega
      rw [en] at dz
      exact dps_app (hF _).2 (dps_mono s4 dz)
theorem any_mem {l : List Stp} {t : Stp} (h : t ∈ l) : ((dsteps l).any fun z => PyData.eqv z t.d) = true := List.any_eq_true.mpr ⟨t.d, List.mem_map.mpr ⟨t, h, rfl⟩, t.lay.refl⟩
theorem step_item {ts : List Stp} {i : Nat} {d : PyData} (h : (dsteps ts)[i]? = some d) : ∃ t, ts[i]? = some t ∧ d = t.d := by
  unfold dsteps at h
  rw [List.getElem?_map] at h
  cases e : ts[i]? with
  | none =>
    rw [e] at h
    cases h
  | some z =>
    rw [e] at h
    exact ⟨z, rfl, (Option.some.inj h).symm⟩
def openSteps (S : Sto) (s : Sta) : List Stp := (allSteps S.wishes.length).filter fun t => (bar S s t).isNone
theorem dbar_none {K : PySem.W.Frag} {H : Hp} {v : V} {o : Option (Str × Int)} (h : Dp K H v (dbar o)) : decide (v = .non) = o.isNone := by
  cases o with
  | none =>
    rw [dp_none h]
    rfl
  | some rn =>
    obtain ⟨a, rfl, _⟩ := dp_two h
    exact decide_eq_false (fun z => by cases z)
theorem allSteps_len (m : Nat) : (allSteps m).length = m + 7 := by
  unfold allSteps fixedSteps
  rw [List.length_append, List.length_map, List.length_range]
  show 7 + m = m + 7
  omega
end

/-! ## the state behind a step, plans -/
def insI (x : Int) : List Int → List Int
  | [] => [x]
  | y :: r => if x ≤ y then x :: y :: r else y :: insI x r
def sortI : List Int → List Int
  | [] => []
  | x :: r => insI x (sortI r)
theorem insI_perm (x : Int) : ∀ l : List Int, (insI x l).Perm (x :: l)
  | [] => List.Perm.refl _
  | y :: r => by
    unfold insI
    split
    · exact List.Perm.refl _
    · exact ((insI_perm x r).cons y).trans (List.Perm.swap x y r)
theorem sortI_perm : ∀ l : List Int, (sortI l).Perm l
  | [] => List.Perm.refl _
  | x :: r => (insI_perm x (sortI r)).trans ((sortI_perm r).cons x)
theorem insI_sorted {x : Int} : ∀ {l : List Int}, l.Pairwise (· ≤ ·) → (insI x l).Pairwise (· ≤ ·)
  | [], _ => List.pairwise_singleton _ _
  | y :: r, h => by
    obtain ⟨h1, h2⟩ := List.pairwise_cons.mp h
    unfold insI
    split
    · rename_i e
      refine List.pairwise_cons.mpr ⟨fun z hz => ?_, h⟩
      rcases List.mem_cons.mp hz with rfl | hz
      · exact e
      · exact Int.le_trans e (h1 z hz)
    · rename_i e
      refine List.pairwise_cons.mpr ⟨fun z hz => ?_, insI_sorted h2⟩
      rcases List.mem_cons.mp ((insI_perm x r).mem_iff.mp hz) with rfl | hz
      · omega
      · exact h1 z hz
theorem sortI_sorted : ∀ l : List Int, (sortI l).Pairwise (· ≤ ·)
  | [] => List.Pairwise.nil
  | x :: r => insI_sorted (sortI_sorted r)
theorem sortI_of {l m : List Int} (h1 : m.Perm l) (h2 : m.Pairwise (· ≤ ·)) : m = sortI l :=
  (h1.trans (sortI_perm l).symm).eq_of_pairwise (fun x y _ _ a b => Int.le_antisymm a b) h2 (sortI_sorted l)
theorem sortI_congr {l m : List Int} (h : l.Perm m) : sortI l = sortI m := sortI_of ((sortI_perm l).trans h) (sortI_sorted l)
theorem mem_sortI {l : List Int} {z : Int} : z ∈ sortI l ↔ z ∈ l := (sortI_perm l).mem_iff
theorem maxI {i j : Int} : (if j > i then j else i) = max i j := by
  split <;> omega
def keepAt (S : Sto) (n : Int) : Int := match S.wishes[n.toNat]? with
  | some x => x.keep
  | none => 0
def behindS (S : Sto) (s : Sta) : Stp → Sta
  | .wait => ⟨s.aisle, s.done, s.inside, max (s.kept - 1) 0⟩
  | .shift b => ⟨s.aisle + b, s.done, s.inside, max (s.kept - 1) 0⟩
  | .cin c => ⟨s.aisle, s.done, sortI (s.inside ++ [c]), max (s.kept - 1) 0⟩
  | .cout c => ⟨s.aisle, s.done, s.inside.filter (fun z => decide (z ≠ c)), max (s.kept - 1) 0⟩
  | .wish n => ⟨s.aisle, sortI (s.done ++ [n]), s.inside, max (max (s.kept - 1) 0) (keepAt S n)⟩
def runS (S : Sto) (s : Sta) (ts : List Stp) : Sta := ts.foldl (behindS S) s
def playS (S : Sto) : Sta → List Stp → List Sta
  | s, [] => [s]
  | s, t :: r => s :: playS S (behindS S s t) r
def OpenPlan (S : Sto) : Sta → List Stp → Prop
  | _, [] => True
  | s, t :: r => bar S s t = none ∧ OpenPlan S (behindS S s t) r
def DoneOk (S : Sto) (s : Sta) : Prop := Rising 0 S.wishes.length s.done
def dstates (l : List Sta) : List PyData := l.map Sta.d
theorem states_lays (l : List Sta) : Lays 2 (dstates l) := .all fun d hd => by
  obtain ⟨i, _, rfl⟩ := List.mem_map.mp hd
  exact i.lay
theorem runS_snoc {S : Sto} {s : Sta} {ts : List Stp} {t : Stp} : runS S s (ts ++ [t]) = behindS S (runS S s ts) t := by
  unfold runS
  rw [List.foldl_append]
  rfl
theorem playS_snoc {S : Sto} : ∀ {s : Sta} {ts : List Stp} {t : Stp}, playS S s (ts ++ [t]) = playS S s ts ++ [runS S s (ts ++ [t])]
  | s, [], t => rfl
  | s, u :: r, t => by
    show s :: playS S (behindS S s u) (r ++ [t]) = s :: (playS S (behindS S s u) r ++ [runS S (behindS S s u) (r ++ [t])])
    rw [playS_snoc]
theorem playS_len {S : Sto} : ∀ {s : Sta} {ts : List Stp}, (playS S s ts).length = ts.length + 1
  | s, [] => rfl
  | s, u :: r => by
    show (playS S (behindS S s u) r).length + 1 = _
    rw [playS_len, List.length_cons]
theorem Rising.sorted {lo m : Int} : ∀ {l : List Int}, Rising lo m l → l.Pairwise (· ≤ ·) ∧ ∀ z ∈ l, lo ≤ z
  | [], _ => ⟨List.Pairwise.nil, fun z h => absurd h (by simp)⟩
  | i :: r, ⟨a, b, c⟩ => by
    obtain ⟨h1, h2⟩ := Rising.sorted (l := r) c
    refine ⟨List.pairwise_cons.mpr ⟨fun z hz => ?_, h1⟩, fun z hz => ?_⟩
    · have := h2 z hz
      omega
    · rcases List.mem_cons.mp hz with rfl | hz
      · exact a
      · have := h2 z hz
        omega
theorem Rising.ins {lo m n : Int} : ∀ {l : List Int}, Rising lo m l → n ∉ l → lo ≤ n → n < m → Rising lo m (insI n l)
  | [], _, _, a, b => ⟨a, b, trivial⟩
  | i :: r, ⟨h1, h2, h3⟩, hn, a, b => by
    have ne : ¬ n = i := fun z => hn (by rw [z]; exact List.mem_cons_self)
    unfold insI
    split
    · exact ⟨a, b, by omega, h2, h3⟩
    · exact ⟨h1, h2, Rising.ins (l := r) h3 (fun z => hn (List.mem_cons_of_mem _ z)) (by omega) b⟩
theorem sort_ins {lo m n : Int} {l : List Int} (h : Rising lo m l) : sortI (l ++ [n]) = insI n l :=
  (sortI_of ((insI_perm n l).trans (List.perm_append_comm (l₁ := [n]) (l₂ := l))) (insI_sorted h.sorted.1)).symm
theorem barWish_none {S : Sto} {s : Sta} {n : Int} {x : Wish} (hx : S.wishes[n.toNat]? = some x) (h : barWish S s n = none) :
    n ∉ s.done ∧ (∀ z ∈ x.after, z ∈ s.done) ∧ x.crew ∈ s.inside ∧ beside s.aisle x.shelf x.side = true ∧ barLoad S s.done x.kind x.shelf = none := by
  unfold barWish at h
  rw [hx] at h
  dsimp only at h
  by_cases e1 : n ∈ s.done
  · rw [if_pos e1] at h
    cases h
  rw [if_neg e1] at h
  cases e2 : x.after.find? (fun z => decide (z ∉ s.done)) with
  | some z =>
    rw [e2] at h
    cases h
  | none =>
    rw [e2] at h
    dsimp only at h
    by_cases e3 : x.crew ∈ s.inside
    · rw [if_neg (fun y => y e3)] at h
      cases e4 : beside s.aisle x.shelf x.side with
      | false =>
        rw [e4, if_pos rfl] at h
        cases h
      | true =>
        rw [e4, if_neg (by decide)] at h
        refine ⟨e1, fun z hz => ?_, e3, rfl, h⟩
        have q := List.find?_eq_none.mp e2 z hz
        by_cases e5 : z ∈ s.done
        · exact e5
        · exact absurd (decide_eq_true e5) q
    · rw [if_pos e3] at h
      cases h
theorem DoneOk.step {S : Sto} {s : Sta} {t : Stp} (h : DoneOk S s) (ht : StpOk S.wishes.length t) (hb : bar S s t = none) : DoneOk S (behindS S s t) := by
  cases t with
  | wish n =>
    obtain ⟨x, hx, _⟩ := wish_at_k ht.1 ht.2
    obtain ⟨e1, _⟩ := barWish_none hx hb
    show Rising 0 _ (sortI (s.done ++ [n]))
    rw [sort_ins h]
    exact Rising.ins h e1 ht.1 ht.2
  | _ => exact h
theorem DoneOk.run {S : Sto} : ∀ {ts : List Stp} {s : Sta}, DoneOk S s → (∀ t ∈ ts, StpOk S.wishes.length t) → OpenPlan S s ts → DoneOk S (runS S s ts)
  | [], s, h, _, _ => h
  | t :: r, s, h, ht, op => DoneOk.run (ts := r) (h.step (ht t List.mem_cons_self) op.1) (fun u hu => ht u (List.mem_cons_of_mem _ hu)) op.2
theorem OpenPlan.take {S : Sto} : ∀ {ts : List Stp} {s : Sta} (i : Nat), OpenPlan S s ts → OpenPlan S s (ts.take i)
  | _, _, 0, _ => trivial
  | [], _, _ + 1, h => h
  | t :: r, s, i + 1, h => ⟨h.1, OpenPlan.take (ts := r) i h.2⟩
theorem OpenPlan.at {S : Sto} : ∀ {ts : List Stp} {s : Sta} {i : Nat} {t : Stp}, OpenPlan S s ts → ts[i]? = some t → bar S (runS S s (ts.take i)) t = none
  | [], s, i, t, _, h => by simp at h
  | u :: r, s, 0, t, h, e => by
    have e' : u = t := Option.some.inj e
    rw [← e']
    exact h.1
  | u :: r, s, i + 1, t, h, e => OpenPlan.at (ts := r) h.2 e
theorem OpenPlan.snoc {S : Sto} : ∀ {ts : List Stp} {s : Sta} {t : Stp}, OpenPlan S s ts → bar S (runS S s ts) t = none → OpenPlan S s (ts ++ [t])
  | [], s, t, _, h => ⟨h, trivial⟩
  | u :: r, s, t, h, e => ⟨h.1, OpenPlan.snoc (ts := r) h.2 e⟩
section
variable {P : Program} {w : World} {K : PySem.W.Frag} {mg : Str → Option Value} {base : Heap}
def spBehind (K : PySem.W.Frag) (C : Addr) : Sp := fun vs H Q _ => ∃ (p : Addr) (v u : V) (S : Sto) (s : Sta) (t : Stp), vs = [.ref p, v, u] ∧ Ob K C H p S ∧ Dp K H v s.d ∧ Dp K H u t.d ∧ StpOk S.wishes.length t ∧ s.done.length < 60 ∧ s.inside.length < 60 ∧ Ret K H Q (behindS S s t).d
/-! behind: 0 store, 1 state, 2 step, 3 aisle, 4 done, 5 inside, 6 kept, 7 word, 8 _, 9 keep, 10 crew -/
abbrev s_behind : Stmt := topS 13
abbrev N_behind : List Str := ["store", "state", "step", "aisle", "done", "inside", "kept", "word", "_", "keep", "crew"]
theorem sc_behind : FnScope N_behind ["store", "state", "step"] (defScope s_behind) := ⟨rfl, rfl, rfl, by decide +kernel, rfl, by decide +kernel, by decide +kernel⟩
theorem ok_behind {f C fI fS fW : Addr} {fd fdI fdS fdW : FuncData} (D : Dfs K mg "behind" s_behind ["store", "state", "step"] f fd) (T : Tx K mg) (TS : TSx K mg C fI fS fW fdI fdS fdW) (G_wishes : FnOk P w K mg base CX0 1 fW fdW ["self"] (spWishesM K C)) :
    Cal P w K mg base 2 "behind" ["store", "state", "step"] (spBehind K C) f fd := by
  refine D.cal (D.F.ok sc_behind (fun vs H Q E h => ?_) (fun cdv A outer s H vs Q E hr h => ?_))
  · obtain ⟨p, v, u, S, s, t, rfl, _⟩ := h
    rfl
  · obtain ⟨p, v, u, S, st, t, rfl, ob, hv, hu, ht, hl1, hl2, q⟩ := h
    obtain ⟨sa, d, i, rfl, hsa, hd, hi⟩ := sta_at hv
    obtain ⟨dx, l, m, xs, ys, o⟩ := id ob
    refine ⟨_, (pss_cons (ps_asg (pv 1) (pg_tup (by rfl) (pgs_cons (pg_name (i := 3) sc_behind.nd rfl (Or.inl rfl)) (pgs_cons (pg_name (i := 4) sc_behind.nd rfl (Or.inl rfl)) (pgs_cons (pg_name (i := 5) sc_behind.nd rfl (Or.inl rfl)) (pgs_cons (pg_name (i := 6) sc_behind.nd rfl (Or.inl rfl)) pgs_nil))))))
      (C8.pss_cut (ps_set (i := 6) sc_behind.nd rfl (Or.inl rfl) (pe_callB (call_max2 rfl) (by rfl) T.n_max (by decide +kernel) (pa_cons (pe_op op_sub (pv 6) pe_int) (pa_cons pe_int pa_nil))))
      (C8.pss_cut (ps_set (i := 7) sc_behind.nd rfl (Or.inl rfl) (pe_ix (kix_tup (K := K)) (pv 2) pe_int (fun _ _ => rfl)))
      (C8.pss_cut (ps_if (pt_cmpR op_eq (pv 7) pe_str (nomark _)) (pss_one (ps_set (i := 3) sc_behind.nd rfl (Or.inl rfl) (pe_op op_add (pv 3) (pe_ix (kix_tup (K := K)) (pv 2) pe_int (fun _ _ => rfl))))) (pss_one (ps_if (pt_cmpR op_eq (pv 7) pe_str (nomark _)) (pss_one (ps_set (i := 5) sc_behind.nd rfl (Or.inl rfl) (pe_callTy (ktuple_of (K := K)) (by rfl) T.n_tuple (by decide +kernel) (pa_cons (pe_callB (ksorted (K := K)) (by rfl) T.n_sorted (by decide +kernel) (pa_cons (pe_lst (StX.pa_star (pv 5) (pa_cons (pe_ix (kix_tup (K := K)) (pv 2) pe_int (fun _ _ => rfl)) pa_nil))) pa_nil)) pa_nil)))) (pss_one (ps_if (pt_cmpR op_eq (pv 7) pe_str (nomark _)) (pss_one (ps_set (i := 5) sc_behind.nd rfl (Or.inl rfl) (pe_callTy (ktuple_of (K := K)) (by rfl) T.n_tuple (by decide +kernel) (pa_cons (pe_lc (own := [("crew", 10)]) (g := gName 10) rfl sc_behind.nd (pi_tup (pv 5)) (blkOk_by (own := [("crew", 10)]) (N := N_behind) (sc := defScope s_behind) (by decide +kernel)) (fun _ _ _ _ _ => (pg_name (i := 10) sc_behind.nd rfl (Or.inl rfl))) (fun _ _ _ _ _ => (pts_one (pt_cmpR op_ne (pv 10) (pe_ix (kix_tup (K := K)) (pv 2) pe_int (fun _ _ => rfl)) (nomark _)))) (fun _ _ _ _ _ => (pv 10))) pa_nil)))) (pss_one (ps_if (pt_cmpR op_eq (pv 7) pe_str (nomark _)) (pss_cons (ps_asg (pe_ix (kix_list (K := K)) (pe_meth0 (pv 0) TS.cl TS.m_wishes G_wishes (hr.mono (by decide)) TS.b_wishes .nil pass0) (pe_ix (kix_tup (K := K)) (pv 2) pe_int (fun _ _ => rfl)) (fun _ _ => rfl)) (pg_tup (by rfl) (pgs_cons (pg_name (i := 8) sc_behind.nd rfl (Or.inl rfl)) (pgs_cons (pg_name (i := 8) sc_behind.nd rfl (Or.inl rfl)) (pgs_cons (pg_name (i := 8) sc_behind.nd rfl (Or.inl rfl)) (pgs_cons (pg_name (i := 8) sc_behind.nd rfl (Or.inl rfl)) (pgs_cons (pg_name (i := 9) sc_behind.nd rfl (Or.inl rfl)) (pgs_cons (pg_name (i := 8) sc_behind.nd rfl (Or.inl rfl)) pgs_nil))))))))
      (pss_cons (ps_set (i := 4) sc_behind.nd rfl (Or.inl rfl) (pe_callTy (ktuple_of (K := K)) (by rfl) T.n_tuple (by decide +kernel) (pa_cons (pe_callB (ksorted (K := K)) (by rfl) T.n_sorted (by decide +kernel) (pa_cons (pe_lst (StX.pa_star (pv 4) (pa_cons (pe_ix (kix_tup (K := K)) (pv 2) pe_int (fun _ _ => rfl)) pa_nil))) pa_nil)) pa_nil)))
      (pss_one (ps_set (i := 6) sc_behind.nd rfl (Or.inl rfl) (pe_callB (call_max2 rfl) (by rfl) T.n_max (by decide +kernel) (pa_cons (pv 6) (pa_cons (pv 9) pa_nil))))))) pss_nil)))))))
      (pss_one (ps_ret (pe_tup (pa_cons (pv 3) (pa_cons (pv 4) (pa_cons (pv 5) (pa_cons (pv 6) pa_nil))))))))))), ?_⟩
    refine ⟨_, rfl, sa, _, rfl, hsa, rfl, _, _, rfl, _, _, rfl, _, _, rfl, _, _, rfl, rfl, ?_⟩
    refine ⟨fun σ H' => H = H' ∧ σ = [some (.ref p), some (.ref sa), some u, some (.int st.aisle), some (.ref d), some (.ref i), some (.int (max (st.kept - 1) 0)), none, none, none, none], ?_, ?_⟩
    · refine ⟨_, rfl, _, _, rfl, rfl, _, _, rfl, rfl, ?_⟩
      rw [maxI]
      rfl
    rintro σ _ ⟨rfl, rfl⟩
    generalize hk1 : max (st.kept - 1) 0 = k1
    have ret : ∀ (d2 i2 : Addr) (st2 : Sta) (H2 : Hp), Same H H2 → SqT K H2 d2 (st2.done.map V.int) → SqT K H2 i2 (st2.inside.map V.int) → st2 = behindS S st t → ∀ p2, H2 p2 = none → Q (.ref p2) (upd H2 p2 (.tup [.int st2.aisle, .ref d2, .ref i2, .int st2.kept])) := by
      intro d2 i2 st2 H2 s2 h1 h2 e p2 np2
      have z := same_new (o := .tup [.int st2.aisle, .ref d2, .ref i2, .int st2.kept]) np2
      exact q _ _ (s2.trans z) (by rw [← e]; exact at_sta tup_new (Same.t z h1) (Same.t z h2))
    -- what is read off the step
    obtain ⟨w0, c, hc, hw⟩ : ∃ (w0 : Str) (c : Addr), u = .ref c ∧ (∃ r, SqT K H c (.str w0 :: r) ∧ Stp.d t = .tuple (.str w0 :: (match t with | .wait => [] | .shift b => [.int b] | .cin b => [.int b] | .cout b => [.int b] | .wish b => [.int b])) ∧ r = (match t with | .wait => [] | .shift b => [.int b] | .cin b => [.int b] | .cout b => [.int b] | .wish b => [.int b])) := by
      cases t with
      | wait =>
        obtain ⟨c, e, h⟩ := dp_one hu
        exact ⟨_, c, e, _, h, rfl, rfl⟩
      | _ =>
        obtain ⟨c, e, h⟩ := dp_two hu
        exact ⟨_, c, e, _, h, rfl, rfl⟩
    obtain ⟨r, hcT, ed, er⟩ := hw
    subst hc
    refine ⟨fun σ H' => H = H' ∧ σ = [some (.ref p), some (.ref sa), some (.ref c), some (.int st.aisle), some (.ref d), some (.ref i), some (.int k1), some (.str w0), none, none, none], ?_, ?_⟩
    · exact ⟨_, rfl, c, _, 0, .str w0, rfl, rfl, hcT, at_of (j := 0) rfl rfl, rfl, rfl⟩
    rintro σ _ ⟨rfl, rfl⟩
    refine ⟨fun σ H' => ∃ (d2 i2 : Addr) (st2 : Sta) (v8 v9 : Option V), σ = [some (.ref p), some (.ref sa), some (.ref c), some (.int st2.aisle), some (.ref d2), some (.ref i2), some (.int st2.kept), some (.str w0), v8, v9, none] ∧ Same H H' ∧ SqT K H' d2 (st2.done.map V.int) ∧ SqT K H' i2 (st2.inside.map V.int) ∧ st2 = behindS S st t, ?_, ?_⟩
    rotate_left
    · rintro σ H2 ⟨d2, i2, st2, v8, v9, rfl, s2, h1, h2, e⟩
      exact ⟨_, rfl, _, rfl, _, rfl, _, rfl, small (by simp), fun p2 np2 => ret d2 i2 st2 H2 s2 h1 h2 e p2 np2⟩
    cases t with
    | wait =>
      cases ed
      refine ⟨_, rfl, rfl, _, rfl, itF (sne (by decide +kernel)) ⟨_, rfl, rfl, _, rfl, itF (sne (by decide +kernel)) ⟨_, rfl, rfl, _, rfl, itF (sne (by decide +kernel)) ⟨_, rfl, rfl, _, rfl, itF (sne (by decide +kernel)) ?_⟩⟩⟩⟩
      exact ⟨d, i, ⟨st.aisle, st.done, st.inside, k1⟩, none, none, rfl, Same.refl _, hd, hi, by rw [← hk1]; rfl⟩
    | shift b =>
      cases ed
      subst er
      refine ⟨_, rfl, rfl, _, rfl, itD rfl ⟨_, rfl, _, rfl, c, _, 1, .int b, rfl, rfl, hcT, rfl, _, _, rfl, rfl, ?_⟩⟩
      exact ⟨d, i, ⟨st.aisle + b, st.done, st.inside, k1⟩, none, none, rfl, Same.refl _, hd, hi, by rw [← hk1]; rfl⟩
    | cin b =>
      cases ed
      subst er
      refine ⟨_, rfl, rfl, _, rfl, itF (sne (by decide +kernel)) ⟨_, rfl, rfl, _, rfl, itD rfl ?_⟩⟩
      refine ⟨_, rfl, i, _, rfl, .inl hi, _, rfl, c, _, 1, .int b, rfl, rfl, hcT, rfl, small (by simp; omega), fun p1 np1 => ?_⟩
      have z1 := same_new (o := .lst (st.inside.map V.int ++ [.int b])) np1
      refine ⟨p1, st.inside ++ [b], rfl, by rw [List.map_append]; exact lst_new, by simp; omega, fun ns p2 hp hs np2 => ?_⟩
      rw [sortI_of hp hs]
      have z2 := same_new (o := .lst ((sortI (st.inside ++ [b])).map V.int)) np2
      refine ⟨p2, _, rfl, .inl ⟨lst_new, fun p3 np3 => ?_⟩⟩
      have z3 := same_new (o := .tup ((sortI (st.inside ++ [b])).map V.int)) np3
      exact ⟨d, p3, ⟨st.aisle, st.done, sortI (st.inside ++ [b]), k1⟩, none, none, rfl, (z1.trans z2).trans z3, Same.t ((z1.trans z2).trans z3) hd, tup_new, by rw [← hk1]; rfl⟩
    | cout b =>
      cases ed
      subst er
      refine ⟨_, rfl, rfl, _, rfl, itF (sne (by decide +kernel)) ⟨_, rfl, rfl, _, rfl, itF (sne (by decide +kernel)) ⟨_, rfl, rfl, _, rfl, itD rfl ?_⟩⟩⟩
      refine ⟨_, rfl, i, rfl, ⟨_, hi⟩, fun D1 nD1 => ?_⟩
      refine lc_tup (K := K) (a := i) (xs := st.inside.map V.int) (fun j H' => Same H H' ∧ H' D1 = some (.lst (((st.inside.take j).filter fun z => decide (z ≠ b)).map V.int))) ⟨same_new nD1, ?_⟩ (fun j H' _ h => Same.t h.1 hi) ?_ ?_
      · rw [List.take_zero, upd_same]
        rfl
      · rintro j y H' hj ⟨s1, eD⟩
        obtain ⟨z, hzj, rfl⟩ := int_item hj
        have ef := filter_snoc (p := fun z => decide (z ≠ b)) hzj
        rw [ef]
        refine ⟨rfl, _, rfl, _, rfl, c, _, 1, .int b, rfl, rfl, Same.t s1 hcT, rfl, rfl, _, rfl, ?_⟩
        by_cases e2 : z = b
        · rw [decide_eq_false (fun h => h e2), if_neg Bool.false_ne_true, List.append_nil]
          exact iteNS (by rw [e2]) ⟨s1, eD⟩
        · rw [decide_eq_true e2, if_pos rfl]
          refine itnF (ine e2) ⟨_, rfl, _, eD, ?_, ?_, ?_⟩
          · rw [List.length_map]
            refine small1000 (Nat.le_trans (List.length_filter_le _ _) ?_)
            rw [List.length_take]
            omega
          · intro b' o' h
            rw [upd_ne (ne_of_none h nD1)]
            exact s1 b' o' h
          · rw [upd_same, List.map_append]
            rfl
      · rintro H1 ⟨s1, eD⟩
        rw [List.length_map, List.take_length] at eD
        refine ⟨D1, _, rfl, .inl ⟨SqL.of eD, fun p3 np3 => ?_⟩⟩
        have z3 := same_new (o := .tup ((st.inside.filter fun z => decide (z ≠ b)).map V.int)) np3
        exact ⟨d, p3, ⟨st.aisle, st.done, st.inside.filter (fun z => decide (z ≠ b)), k1⟩, none, none, rfl, s1.trans z3, Same.t (s1.trans z3) hd, tup_new, by rw [← hk1]; rfl⟩
    | wish n =>
      cases ed
      subst er
      obtain ⟨x, hx, _⟩ := wish_at_k ht.1 ht.2
      have ek : keepAt S n = x.keep := by
        unfold keepAt
        rw [hx]
      refine ⟨_, rfl, rfl, _, rfl, itF (sne (by decide +kernel)) ⟨_, rfl, rfl, _, rfl, itF (sne (by decide +kernel)) ⟨_, rfl, rfl, _, rfl, itF (sne (by decide +kernel)) ⟨_, rfl, rfl, _, rfl, itD rfl ?_⟩⟩⟩⟩
      refine ⟨_, rfl, p, dx, _, rfl, o.o, fsS_m2, p, S, rfl, ob, fun r2 zs nr2 dzs => ?_⟩
      have s1 := same_new (o := .lst zs) nr2
      obtain ⟨a, t, ha, hT, _⟩ := wish_get (dps_mono s1 dzs) hx
      refine ⟨_, rfl, c, _, 1, .int n, rfl, rfl, Same.t s1 hcT, rfl, r2, zs, n, .ref a, rfl, rfl, lst_new, at_of (j := n.toNat) (by have := ht.1; omega) ha, a, _, rfl, hT, rfl, _, _, rfl, _, _, rfl, _, _, rfl, _, _, rfl, _, _, rfl, _, _, rfl, rfl, ?_⟩
      refine ⟨_, rfl, d, _, rfl, .inl (Same.t s1 hd), _, rfl, c, _, 1, .int n, rfl, rfl, Same.t s1 hcT, rfl, small (by simp; omega), fun p1 np1 => ?_⟩
      have z1 := same_new (o := .lst (st.done.map V.int ++ [.int n])) np1
      refine ⟨p1, st.done ++ [n], rfl, by rw [List.map_append]; exact lst_new, by simp; omega, fun ns p2 hp hs np2 => ?_⟩
      rw [sortI_of hp hs]
      have z2 := same_new (o := .lst ((sortI (st.done ++ [n])).map V.int)) np2
      refine ⟨p2, _, rfl, .inl ⟨lst_new, fun p3 np3 => ?_⟩⟩
      have z3 := same_new (o := .tup ((sortI (st.done ++ [n])).map V.int)) np3
      refine ⟨_, rfl, _, rfl, _, _, rfl, ?_⟩
      have sall := ((s1.trans z1).trans z2).trans z3
      refine ⟨p3, i, ⟨st.aisle, sortI (st.done ++ [n]), st.inside, max k1 x.keep⟩, some (.ref t), some (.int x.keep), by rw [maxI]; rfl, sall, tup_new, Same.t sall hi, by rw [← hk1, ← ek]; rfl⟩
theorem run_len {S : Sto} : ∀ {ts : List Stp} {s : Sta}, (runS S s ts).done.length ≤ s.done.length + ts.length ∧ (runS S s ts).inside.length ≤ s.inside.length + ts.length
  | [], s => ⟨Nat.le_refl _, Nat.le_refl _⟩
  | t :: r, s => by
    have h := run_len (S := S) (ts := r) (s := behindS S s t)
    have e : (behindS S s t).done.length ≤ s.done.length + 1 ∧ (behindS S s t).inside.length ≤ s.inside.length + 1 := by
      cases t with
      | wait => exact ⟨Nat.le_succ _, Nat.le_succ _⟩
      | shift b => exact ⟨Nat.le_succ _, Nat.le_succ _⟩
      | cin c =>
        refine ⟨Nat.le_succ _, ?_⟩
        show (sortI (s.inside ++ [c])).length ≤ _
        rw [(sortI_perm _).length_eq, List.length_append]
        exact Nat.le_refl _
      | cout c => exact ⟨Nat.le_succ _, Nat.le_trans (List.length_filter_le _ _) (Nat.le_succ _)⟩
      | wish n =>
        refine ⟨?_, Nat.le_succ _⟩
        show (sortI (s.done ++ [n])).length ≤ _
        rw [(sortI_perm _).length_eq, List.length_append]
        exact Nat.le_refl _
    show (runS S (behindS S s t) r).done.length ≤ _ ∧ (runS S (behindS S s t) r).inside.length ≤ _
    rw [List.length_cons]
    omega
end

/-- the wish z stands at the shelf k, and is of this kind -/
def isK (S : Sto) (k : Int) (kd : Str) (z : Int) : Bool := match S.wishes[z.toNat]? with
  | some x => decide (x.shelf = k ∧ x.kind = kd)
  | none => false
theorem isK_eq {S : Sto} {k z : Int} {kd : Str} {x : Wish} (hx : S.wishes[z.toNat]? = some x) : isK S k kd z = decide (x.shelf = k ∧ x.kind = kd) := by
  unfold isK
  rw [hx]
theorem delta_eq {S : Sto} {k z : Int} {x : Wish} (hx : S.wishes[z.toNat]? = some x) : delta S k z = if x.shelf = k then (if x.kind = "fetch" then -1 else 1) else 0 := by
  unfold delta
  rw [hx]
theorem nfb : ¬ (("bring" : Str) = "fetch") := by decide +kernel
theorem nbf : ¬ (("fetch" : Str) = "bring") := by decide +kernel
theorem goods_law {S : Sto} {done : List Int} {k : Int} (hz : ∀ z ∈ done, 0 ≤ z ∧ z < S.wishes.length) (ok : StoOk S) :
    goods S done k = hasAt S k - ((done.filter (isK S k "fetch")).length : Int) + ((done.filter (isK S k "bring")).length : Int) := by
  unfold goods
  induction done with
  | nil => simp
  | cons z r ih =>
    have ih' := ih fun y hy => hz y (List.mem_cons_of_mem _ hy)
    obtain ⟨z0, z1⟩ := hz z List.mem_cons_self
    obtain ⟨x, hx, hm⟩ := wish_at_k z0 z1
    rw [List.map_cons, List.sum_cons, delta_eq hx]
    by_cases e1 : x.shelf = k
    · rw [if_pos e1]
      rcases (ok.ws x hm).kind with e2 | e2
      · have p1 : isK S k "fetch" z = true := by
          rw [isK_eq hx]
          exact decide_eq_true ⟨e1, e2⟩
        have p2 : ¬ isK S k "bring" z = true := by
          rw [isK_eq hx, e2]
          exact fun h => nbf (of_decide_eq_true h).2
        rw [if_pos e2, List.filter_cons_of_pos p1, List.filter_cons_of_neg p2, List.length_cons]
        omega
      · have p1 : ¬ isK S k "fetch" z = true := by
          rw [isK_eq hx, e2]
          exact fun h => nfb (of_decide_eq_true h).2
        have p2 : isK S k "bring" z = true := by
          rw [isK_eq hx]
          exact decide_eq_true ⟨e1, e2⟩
        rw [e2, if_neg nfb, List.filter_cons_of_neg p1, List.filter_cons_of_pos p2, List.length_cons]
        omega
    · have p : ∀ kd, ¬ isK S k kd z = true := fun kd => by
        rw [isK_eq hx]
        exact fun h => e1 (of_decide_eq_true h).1
      rw [if_neg e1, List.filter_cons_of_neg (p _), List.filter_cons_of_neg (p _)]
      omega

/-! ## a step that is not barred keeps a state one of the store's form -/
theorem barShift_none {S : Sto} {s : Sta} {b : Int} (h : barShift S s b = none) : 0 ≤ (if b = 1 then s.aisle else s.aisle - 1) ∧ (if b = 1 then s.aisle else s.aisle - 1) < S.shelves.length ∧
    (∃ x, S.shelves[(if b = 1 then s.aisle else s.aisle - 1).toNat]? = some x ∧ ¬ x.sticks = 1) ∧ s.inside = [] ∧ s.kept ≤ 0 := by
  unfold barShift at h
  dsimp only at h
  generalize (if b = 1 then s.aisle else s.aisle - 1) = sh at h ⊢
  by_cases e : 0 ≤ sh ∧ sh < S.shelves.length
  · rw [if_pos e] at h
    obtain ⟨x, hx, _⟩ := shelf_at_k e.1 e.2
    rw [hx] at h
    dsimp only at h
    by_cases e2 : x.sticks = 1
    · rw [if_pos e2] at h
      cases h
    · rw [if_neg e2] at h
      refine ⟨e.1, e.2, ⟨x, hx, e2⟩, ?_⟩
      cases e3 : s.inside with
      | cons c r =>
        rw [e3] at h
        cases h
      | nil =>
        rw [e3] at h
        dsimp only at h
        by_cases e4 : s.kept > 0
        · rw [if_pos e4] at h
          cases h
        · exact ⟨rfl, by omega⟩
  · rw [if_neg e] at h
    cases h
theorem barLoad_none {S : Sto} {done : List Int} {kind : Str} {k : Int} (h : barLoad S done kind k = none) : (kind = "fetch" → ¬ goods S done k = 0) ∧ (kind = "bring" → ¬ goods S done k = roomAt S k) := by
  unfold barLoad at h
  constructor
  · intro e z
    rw [if_pos ⟨e, z⟩] at h
    cases h
  · intro e z
    rw [if_neg (fun y => nfb (e.symm.trans y.1)), if_pos ⟨e, z⟩] at h
    cases h
theorem sum_perm {l m : List Int} (h : l.Perm m) : l.sum = m.sum := by
  induction h with
  | nil => rfl
  | cons x _ ih => rw [List.sum_cons, List.sum_cons, ih]
  | swap x y l =>
    rw [List.sum_cons, List.sum_cons, List.sum_cons, List.sum_cons]
    omega
  | trans _ _ a b => exact a.trans b
theorem goods_perm {S : Sto} {l m : List Int} {k : Int} (h : l.Perm m) : goods S l k = goods S m k := by
  unfold goods
  rw [sum_perm (h.map _)]
theorem goods_snoc {S : Sto} {l : List Int} {n k : Int} : goods S (l ++ [n]) k = goods S l k + delta S k n := by
  unfold goods
  rw [List.map_append, List.sum_append]
  simp only [List.map_cons, List.map_nil, List.sum_cons, List.sum_nil]
  omega
theorem goods_step {S : Sto} {l : List Int} {n k : Int} : goods S (sortI (l ++ [n])) k = goods S l k + delta S k n := by
  rw [goods_perm (sortI_perm _), goods_snoc]
theorem StaOk.step {S : Sto} {s : Sta} {t : Stp} (ok : StoOk S) (h : StaOk S s) (ht : StpOk S.wishes.length t) (hb : bar S s t = none) : StaOk S (behindS S s t) := by
  have hk : 0 ≤ max (s.kept - 1) 0 ∧ max (s.kept - 1) 0 ≤ 3 := by
    have := h.k0
    have := h.k3
    omega
  have ha0 := h.a0
  have ha1 := h.a1
  cases t with
  | wait => exact ⟨h.a0, h.a1, h.done, h.inside, hk.1, hk.2, h.has⟩
  | shift b =>
    obtain ⟨c1, c2, _, _, _⟩ := barShift_none hb
    refine ⟨?_, ?_, h.done, h.inside, hk.1, hk.2, h.has⟩
    · show 0 ≤ s.aisle + b
      rcases ht with rfl | rfl
      · rw [if_neg (by decide)] at c1
        omega
      · omega
    · show s.aisle + b ≤ _
      rcases ht with rfl | rfl
      · omega
      · rw [if_pos rfl] at c2
        omega
  | cin c =>
    have e : c ∉ s.inside := fun z => by
      have hb' : (if c ∈ s.inside then some (("is" : Str), c) else none) = none := hb
      rw [if_pos z] at hb'
      cases hb'
    refine ⟨h.a0, h.a1, h.done, ?_, hk.1, hk.2, h.has⟩
    show InsideOk (sortI (s.inside ++ [c]))
    rcases h.inside with i | i | i | i <;> rw [i] at e ⊢ <;> rcases ht with rfl | rfl
    · exact .inr (.inl rfl)
    · exact .inr (.inr (.inl rfl))
    · exact absurd (by simp) e
    · exact .inr (.inr (.inr rfl))
    · exact .inr (.inr (.inr rfl))
    · exact absurd (by simp) e
    · exact absurd (by simp) e
    · exact absurd (by simp) e
  | cout c =>
    refine ⟨h.a0, h.a1, h.done, ?_, hk.1, hk.2, h.has⟩
    show InsideOk (s.inside.filter fun z => decide (z ≠ c))
    rcases h.inside with i | i | i | i <;> rw [i] <;> rcases ht with rfl | rfl
    · exact .inl rfl
    · exact .inl rfl
    · exact .inl rfl
    · exact .inr (.inl rfl)
    · exact .inr (.inr (.inl rfl))
    · exact .inl rfl
    · exact .inr (.inr (.inl rfl))
    · exact .inr (.inl rfl)
  | wish n =>
    obtain ⟨x, hx, hm⟩ := wish_at_k ht.1 ht.2
    have okx := ok.ws x hm
    obtain ⟨e1, e2, e3, e4, e5⟩ := barWish_none hx hb
    obtain ⟨f1, f2⟩ := barLoad_none e5
    have ek : keepAt S n = x.keep := by
      unfold keepAt
      rw [hx]
    have k0 := okx.k0
    have k3 := okx.k3
    refine ⟨h.a0, h.a1, ?_, h.inside, ?_, ?_, fun k h0 h1 => ?_⟩
    · show Rising 0 _ (sortI (s.done ++ [n]))
      rw [sort_ins h.done]
      exact h.done.ins e1 ht.1 ht.2
    · show 0 ≤ max (max (s.kept - 1) 0) (keepAt S n)
      omega
    · show max (max (s.kept - 1) 0) (keepAt S n) ≤ 3
      omega
    · show 0 ≤ goods S (sortI (s.done ++ [n])) k ∧ goods S (sortI (s.done ++ [n])) k ≤ roomAt S k
      obtain ⟨g0, g1⟩ := h.has k h0 h1
      rw [goods_step, delta_eq hx]
      by_cases e : x.shelf = k
      · rw [if_pos e]
        rw [e] at f1 f2
        by_cases ef : x.kind = "fetch"
        · rw [if_pos ef]
          have := f1 ef
          omega
        · rw [if_neg ef]
          have := f2 (okx.kind.resolve_left ef)
          omega
      · rw [if_neg e]
        omega
theorem sta0_ok {S : Sto} (ok : StoOk S) : StaOk S (sta0 S) := by
  refine ⟨ok.a0, ok.a1, trivial, .inl rfl, Int.le_refl _, by show (0 : Int) ≤ 3; decide, fun k h0 h1 => ?_⟩
  obtain ⟨sh, hsh, hm, eh, er⟩ := shelf_at_k h0 h1
  have oks := ok.sh sh hm
  show 0 ≤ goods S [] k ∧ goods S [] k ≤ _
  have e : goods S [] k = hasAt S k := by
    unfold goods
    rw [List.map_nil, List.sum_nil, Int.add_zero]
  rw [e, eh, er]
  exact ⟨oks.h0, oks.h1⟩

/-! ### min of a tuple of ints -/
section
variable {prog : Program} {w : World} {A : Around} {E : Value → Shared → Prop} {s : Shared}
theorem least_of_tuple {t : Addr} {us : List Value} {zs : List Int} {R : Value → Shared → Prop} (calm : A.handled = none) (tt : s.heap.IsTuple t us.toArray) (zi : IntsAre us zs) (zl : 0 < zs.length)
    (fin : ∀ g k z v, (∀ c o, s.heap.get? c = some o → g.get? c = some o) → z ∈ zs → (∀ y, y ∈ zs → z ≤ y) → R (.int z v) { s with heap := g, toks := k }) : wpAny (model prog w) A (call (.builtin "min") [.ref t]) R E s := by
  obtain ⟨ps, ep⟩ := zi.allInts.items
  have en : numsOf (intItems ps).toList = zs := by
    rw [← ep]
    exact zi.numsOf
  rw [nums_intItems] at en
  subst en
  rw [ep] at tt
  have sz : (intItems ps).size = ps.size := by simp [intItems]
  have tl : t < s.heap.objs.size := by
    obtain ⟨_, q, _⟩ := tt
    exact Heap.lt_size q
  refine call_min_walk (wpAny_pyIter_tuple tt ?_)
  refine ⟨s.heap.objs.size, [s.heap.objs.size, t], [s.heap.objs.size], _, _, _, _, rfl, Walks.tuple (A := A.in1) calm _ t (Nat.ne_of_lt tl) (intItems ps), ⟨⟨_, Heap.get?_push_size _ rfl, rfl, rfl⟩, tt.push _⟩, ?_, ?_, CmpOf.ints_lt (numAt ps) (fun _ _ => intItems_at), ?_⟩
  · intro c hc
    show c < (s.heap.push _).objs.size
    rw [Heap.size_push]
    simp only [List.mem_cons, List.not_mem_nil, or_false] at hc
    rcases hc with e | e
    · rw [e]
      exact Nat.lt_succ_self _
    · rw [e]
      exact Nat.lt_succ_of_lt tl
  · rw [sz]
    simpa using zl
  · intro v g k hv hk
    obtain ⟨u, rfl⟩ := intItems_at hv
    obtain ⟨b1, b2⟩ := argBest_lt (numAt ps) ((intItems ps).size - 1)
    rw [List.length_map, Array.length_toList] at zl
    refine fin g k _ u (fun c o q => hk c o ?_ (Heap.get?_push_of_some _ q)) ?_ ?_
    · intro m
      rw [List.mem_singleton] at m
      have lt := Heap.lt_size q
      rw [m] at lt
      exact Nat.lt_irrefl _ lt
    · rw [numAt_eq]
      refine PySem.getD_mem ?_
      rw [List.length_map, Array.length_toList]
      omega
    · intro y hy
      obtain ⟨j, lj, rfl⟩ := mem_getD hy
      rw [List.length_map, Array.length_toList] at lj
      rw [← numAt_eq]
      exact b2 j (by omega)
end
def rMinT (K : PySem.W.Frag) : List V → Hp → VK → Prop := fun us H Q => ∃ (a : Addr) (zs : List Int), us = [V.ref a] ∧ SqT K H a (zs.map V.int) ∧ 0 < zs.length ∧ ∀ z, z ∈ zs → (∀ y, y ∈ zs → z ≤ y) → Q (.int z) H
theorem kminT {X : Cx} {K : PySem.W.Frag} (calm : X.calm = true) (eK : X.K = K := by rfl) : CallR X (.builtin "min") (rMinT K) := by
  subst eK
  intro pins s σ H us vs Q I r hh
  obtain ⟨a, zs, rfl, ht, hl, q⟩ := hh
  obtain ⟨its, rv, it, _⟩ := I.tuple ht
  rw [Vals.ref1 r]
  exact least_of_tuple (I.ok.hd calm) it rv.ints hl fun g k z v old h1 h2 => ⟨.int z, H, I.kept old, ⟨_, rfl⟩, q z h1 h2⟩

/-! ## what the law says of steps -/
section
variable {P : Program} {w : World} {K : PySem.W.Frag} {mg : Str → Option Value} {base : Heap}
def spGoods (K : PySem.W.Frag) : Sp := fun vs H Q _ => ∃ (v : V) (k : Int) (d : Addr) (S : Sto) (done : List Int), vs = [v, .int k, .ref d] ∧ Dp K H v S.d ∧ StoOk S ∧ SqT K H d (done.map V.int) ∧ 0 ≤ k ∧ k < S.shelves.length ∧ (∀ z ∈ done, 0 ≤ z ∧ z < S.wishes.length) ∧ done.length ≤ 900 ∧
  ∀ H', Same H H' → Q (.int (goods S done k)) H'
end

theorem eqv_nilT (l : List Int) : PyData.eqv (.tuple (dints l)) (.tuple []) = l.isEmpty := by
  cases l with
  | nil => rfl
  | cons i r => rfl
theorem eqv_nilL (l : List Int) : PyData.eqv (.list (dints l)) (.list []) = l.isEmpty := by
  cases l with
  | nil => rfl
  | cons i r => rfl
theorem lay_nilT : Lay 1 (.tuple []) := Lays.tup lays_nil
theorem lay_nilL : Lay 1 (.list []) := Lays.lst lays_nil
theorem n_rl : ¬ (("right" : Str) = "left") := by decide +kernel
theorem n_al : ¬ (("any" : Str) = "left") := by decide +kernel
theorem n_ar : ¬ (("any" : Str) = "right") := by decide +kernel
theorem key_ne {a b : Str} (h : ¬ a = b) : ¬ ((Sum.inr a : L2.Key) = Sum.inr b) := fun z => h (Sum.inr.inj z)
theorem get3 {x y z : V} (j : L2.Key) : valV (mergeK [] [(Sum.inr ("left" : Str), x), (Sum.inr ("right" : Str), y), (Sum.inr ("any" : Str), z)]) j =
    if j = Sum.inr ("any" : Str) then some z else if j = Sum.inr ("right" : Str) then some y else if j = Sum.inr ("left" : Str) then some x else none := by
  show valV (putK (putK (putK [] (Sum.inr ("left" : Str)) x) (Sum.inr ("right" : Str)) y) (Sum.inr ("any" : Str)) z) j = _
  rw [valV_put, valV_put, valV_put, valV_nil]

section
variable {P : Program} {w : World} {K : PySem.W.Frag} {mg : Str → Option Value} {base : Heap}
def spLawBarWish (K : PySem.W.Frag) : Sp := fun vs H Q _ => ∃ (v u : V) (n : Int) (S : Sto) (s : Sta), vs = [v, u, .int n] ∧ Dp K H v S.d ∧ Dp K H u s.d ∧ StoOk S ∧ StaOk S s ∧ 0 ≤ n ∧ n < S.wishes.length ∧ Ret K H Q (dbar (barWish S s n))
def spLawBar (K : PySem.W.Frag) : Sp := fun vs H Q _ => ∃ (v u z : V) (S : Sto) (s : Sta) (t : Stp), vs = [v, u, z] ∧ Dp K H v S.d ∧ Dp K H u s.d ∧ Dp K H z t.d ∧ StoOk S ∧ StaOk S s ∧ StpOk S.wishes.length t ∧ Ret K H Q (dbar (bar S s t))
end

section
variable {P : Program} {w : World} {K : PySem.W.Frag} {mg : Str → Option Value} {base : Heap}
def spLawBegin (K : PySem.W.Frag) : Sp := fun vs H Q _ => ∃ (v : V) (S : Sto), vs = [v] ∧ Dp K H v S.d ∧ Ret K H Q (sta0 S).d
def spEvery (K : PySem.W.Frag) : Sp := fun vs H Q _ => ∃ (v : V) (S : Sto), vs = [v] ∧ Dp K H v S.d ∧ StoOk S ∧ ∀ q xs H', Same H H' → H q = none → H' q = some (.lst xs) → DpAll K H' xs (dsteps (allSteps S.wishes.length)) → Q (.ref q) H'
def spLawSteps (K : PySem.W.Frag) : Sp := fun vs H Q _ => ∃ (v u : V) (S : Sto) (s : Sta), vs = [v, u] ∧ Dp K H v S.d ∧ Dp K H u s.d ∧ StoOk S ∧ StaOk S s ∧
  ∀ q xs H', Same H H' → H q = none → H' q = some (.lst xs) → DpAll K H' xs (dsteps (openSteps S s)) → Q (.ref q) H'
end

/-! ### what does not hang on a list that is left out -/
theorem RowSt.pure {K : PySem.W.Frag} {ρ : RowP} {B H H' : Hp} (R : RowSt K ρ B H) (s : Same H H') : RowSt K ρ B H' := by
  obtain ⟨n1, n2, e, g⟩ := R.row
  exact ⟨R.same.trans s, R.free, R.scr, n1, n2, s _ _ e, g⟩
mutual
def noL : PyData → Bool
  | .tuple ds => noLs ds
  | .list _ => false
  | .dict _ => false
  | _ => true
def noLs : List PyData → Bool
  | [] => true
  | d :: ds => noL d && noLs ds
end
mutual
theorem dp_del {K : PySem.W.Frag} {B : Hp} {r : Addr} {zs : List V} (e : B r = some (.lst zs)) : ∀ {v : V} {d : PyData}, Dp K B v d → noL d = true → Dp K (del1 B r) v d
  | _, _, .non, _ => .non
  | _, _, .bl b, _ => .bl b
  | _, _, .int i, _ => .int i
  | _, _, .str x, _ => .str x
  | _, _, .lst _ _, h => absurd h (by unfold noL; decide)
  | _, _, .tup h g, q => .tup (sqt_del e h) (dps_del e g (by unfold noL at q; exact q))
theorem dps_del {K : PySem.W.Frag} {B : Hp} {r : Addr} {zs : List V} (e : B r = some (.lst zs)) : ∀ {vs : List V} {ds : List PyData}, DpAll K B vs ds → noLs ds = true → DpAll K (del1 B r) vs ds
  | _, _, .nil, _ => .nil
  | _, _, .cons h g, q => by
    unfold noLs at q
    obtain ⟨q1, q2⟩ := Bool.and_eq_true_iff.mp q
    exact .cons (dp_del e h q1) (dps_del e g q2)
end
theorem noL_ints (l : List Int) : noLs (dints l) = true := by
  induction l with
  | nil => rfl
  | cons i l ih =>
    show (noL (.int i) && noLs (dints l)) = true
    rw [ih]
    rfl
theorem noL_shelves (l : List Shelf) : noLs (dshelves l) = true := by
  induction l with
  | nil => rfl
  | cons i l ih =>
    show (noL i.d && noLs (dshelves l)) = true
    rw [ih]
    rfl
theorem noL_wishes (l : List Wish) : noLs (dwishes l) = true := by
  induction l with
  | nil => rfl
  | cons x l ih =>
    show (noL x.d && noLs (dwishes l)) = true
    rw [ih]
    show ((true && (true && (true && (true && (true && (noLs (dints x.after) && true)))))) && true) = true
    rw [noL_ints]
    rfl
theorem sql_del {K : PySem.W.Frag} {B : Hp} {r l : Addr} {xs zs : List V} (e : B r = some (.lst zs)) (n : xs ≠ zs) (h : SqL K B l xs) : SqL K (del1 B r) l xs := by
  rcases h with (h | ⟨o, h⟩) | h
  · refine .inl (.inl ?_)
    rw [del1_ne (fun z => by
      rw [z, e] at h
      cases h
      exact n rfl)]
    exact h
  · refine .inl (.inr ⟨o, ?_⟩)
    rw [del1_ne (fun z => by rw [z, e] at h; cases h)]
    exact h
  · exact .inr h
theorem no_int_tup {K : PySem.W.Frag} {B : Hp} {i : Int} {ds : List PyData} (h : Dp K B (.int i) (.tuple ds)) : False := by cases h
theorem not_row1 {K : PySem.W.Frag} {B : Hp} {x : V} {i : Int} {r : List V} {ss : List Shelf} (h : DpAll K B (x :: .int i :: r) (dshelves ss)) : False := by
  cases ss with
  | nil => cases h
  | cons s ss =>
    cases ss with
    | nil =>
      cases h with
      | cons _ h => cases h
    | cons s2 ss =>
      cases h with
      | cons _ h =>
        cases h with
        | cons h _ => exact no_int_tup h
theorem not_row2 {K : PySem.W.Frag} {B : Hp} {x : V} {i : Int} {r : List V} {ss : List Wish} (h : DpAll K B (x :: .int i :: r) (dwishes ss)) : False := by
  cases ss with
  | nil => cases h
  | cons s ss =>
    cases ss with
    | nil =>
      cases h with
      | cons _ h => cases h
    | cons s2 ss =>
      cases h with
      | cons _ h =>
        cases h with
        | cons h _ => exact no_int_tup h
theorem ob_del {K : PySem.W.Frag} {C : Addr} {H : Hp} {r p : Addr} {x : V} {i j : Int} {S : Sto} (e : H r = some (.lst [x, .int i, .int j])) (h : Ob K C H p S) : Ob K C (del1 H r) p S := by
  obtain ⟨dx, l, m, xs, ys, o⟩ := h
  refine ⟨dx, l, m, xs, ys, ?_, sql_del e (fun z => ?_) o.l, dps_del e o.dx (noL_shelves _), sql_del e (fun z => ?_) o.m, dps_del e o.dy (noL_wishes _)⟩
  · rw [del1_ne (fun z => by
      have q := o.o
      rw [z, e] at q
      cases q)]
    exact o.o
  · have q := o.dx
    rw [z] at q
    exact not_row1 q
  · have q := o.dy
    rw [z] at q
    exact not_row2 q
/-- the row is known, B is all but it -/
theorem row_all {K : PySem.W.Frag} {ρ : RowP} {B H H' : Hp} (R : RowSt K ρ B H) (s : Same H H') : RowSt K ρ (del1 H' ρ.r) H' ∧ Same B (del1 H' ρ.r) := by
  obtain ⟨n1, n2, e, g⟩ := R.row
  have z := same_del (R.same.trans s) R.free
  exact ⟨⟨fun b o h => by
    by_cases hb : b = ρ.r
    · rw [hb, del1_same] at h
      cases h
    · rw [del1_ne hb] at h
      exact h, del1_same, Same.l z R.scr, n1, n2, s _ _ e, g⟩, z⟩

theorem noL_sta (s : Sta) : noL s.d = true := by
  show (true && (noLs (dints s.done) && (noLs (dints s.inside) && (true && true)))) = true
  rw [noL_ints, noL_ints]
  rfl
/-! ### the rules' names -/
theorem ok_end : PyData.strOk "end" = true := by decide +kernel
theorem ok_sticks : PyData.strOk "sticks" = true := by decide +kernel
theorem ok_kept : PyData.strOk "kept" = true := by decide +kernel
theorem ok_is : PyData.strOk "is" = true := by decide +kernel
theorem ok_isnt : PyData.strOk "isnt" = true := by decide +kernel
theorem ok_done : PyData.strOk "done" = true := by decide +kernel
theorem ok_after : PyData.strOk "after" = true := by decide +kernel
theorem ok_crew : PyData.strOk "crew" = true := by decide +kernel
theorem ok_aisle : PyData.strOk "aisle" = true := by decide +kernel
theorem ok_empty : PyData.strOk "empty" = true := by decide +kernel
theorem ok_full : PyData.strOk "full" = true := by decide +kernel
def RuleOk : Option (Str × Int) → Prop
  | none => True
  | some (r, _) => PyData.strOk r = true
theorem bar_rule (S : Sto) (s : Sta) (t : Stp) : RuleOk (bar S s t) := by
  cases t with
  | wait => trivial
  | shift b =>
    show RuleOk (barShift S s b)
    unfold barShift
    dsimp only
    generalize (if b = 1 then s.aisle else s.aisle - 1) = sh
    split
    · split
      · trivial
      · split
        · exact ok_sticks
        · split
          · exact ok_in
          · split
            · exact ok_kept
            · trivial
    · exact ok_end
  | cin c =>
    show RuleOk (if c ∈ s.inside then some ("is", c) else none)
    split
    · exact ok_is
    · trivial
  | cout c =>
    show RuleOk (if c ∈ s.inside then none else some ("isnt", c))
    split
    · trivial
    · exact ok_isnt
  | wish n =>
    show RuleOk (barWish S s n)
    unfold barWish
    split
    · trivial
    · split
      · exact ok_done
      · split
        · exact ok_after
        · split
          · exact ok_crew
          · split
            · exact ok_aisle
            · unfold barLoad
              split
              · exact ok_empty
              · split
                · exact ok_full
                · trivial
theorem dbar_lay {o : Option (Str × Int)} (h : RuleOk o) : Lay 1 (dbar o) := by
  cases o with
  | none => exact lay_none
  | some rn =>
    obtain ⟨r, n⟩ := rn
    exact (Lays.cons (lay_str h) (Lays.cons lay_int lays_nil)).tup

section
variable {P : Program} {w : World} {K : PySem.W.Frag} {mg : Str → Option Value} {base : Heap}
def spStepsAt (K : PySem.W.Frag) (C : Addr) : Sp := fun vs H Q _ => ∃ (p : Addr) (v : V) (S : Sto) (s : Sta), vs = [.ref p, v] ∧ Ob K C H p S ∧ Dp K H v s.d ∧ StoOk S ∧ Rising 0 S.wishes.length s.done ∧
  ∀ q xs H', Same H H' → H q = none → H' q = some (.lst xs) → DpAll K H' xs (dsteps (openSteps S s)) → Q (.ref q) H'
/-! steps_at: 0 store, 1 state, 2 step -/
abbrev s_steps_at : Stmt := topS 9
abbrev N_steps_at : List Str := ["store", "state", "step"]
theorem sc_steps_at : FnScope N_steps_at ["store", "state"] (defScope s_steps_at) := ⟨rfl, rfl, rfl, by decide +kernel, rfl, by decide +kernel, by decide +kernel⟩
theorem ok_steps_at {f f1 f2 C : Addr} {fd fd1 fd2 : FuncData} (D : Dfs K mg "steps_at" s_steps_at ["store", "state"] f fd) (C__all_steps : Cal P w K mg base 2 "_all_steps" ["store"] (spAllSteps K C) f1 fd1) (C__bar : Cal P w K mg base 5 "_bar" ["store", "state", "step"] (spBar K C) f2 fd2) :
    Cal P w K mg base 6 "steps_at" ["store", "state"] (spStepsAt K C) f fd := by
  refine D.cal (D.F.ok sc_steps_at (fun vs H Q E h => ?_) (fun cdv A outer s H vs Q E hr h => ?_))
  · obtain ⟨p, v, S, s, rfl, _⟩ := h
    rfl
  · obtain ⟨p, v, S, st, rfl, ob, hv, ok, hz, q⟩ := h
    refine ⟨_, (pss_one (ps_ret (pe_lc (own := [("step", 2)]) (g := gName 2) rfl sc_steps_at.nd (pi_list (by exact (pe_call C__all_steps.G (hr.mono (by decide)) (by rfl) C__all_steps.g C__all_steps.kp C__all_steps.b .nil pass0 (pa_cons (pv 0) pa_nil)))) (blkOk_by (own := [("step", 2)]) (N := N_steps_at) (sc := defScope s_steps_at) (by decide +kernel)) (fun _ _ _ _ _ => (pg_name (i := 2) sc_steps_at.nd rfl (Or.inl rfl))) (fun _ _ _ _ _ => (pts_one (pt_cmpR op_isN (pe_call C__bar.G (hr.mono (by decide)) (by rfl) C__bar.g C__bar.kp C__bar.b .nil pass0 (pa_cons (pv 0) (pa_cons (pv 1) (pa_cons (pv 2) pa_nil)))) pe_non (nomark _)))) (fun _ _ _ _ _ => (pv 2))))), ?_⟩
    refine ⟨_, rfl, p, S, rfl, ob, ok, fun r zs H1 s1 nr e1 dz => ?_⟩
    have w5 := ok.w5
    refine ⟨r, rfl, ⟨zs, SqL.of e1⟩, fun D nD => ?_⟩
    refine lc_list (K := K) (a := r) (xs := zs) (fun i H' => ∃ B us, Acq K H1 B H' D us (dsteps (((allSteps S.wishes.length).take i).filter fun t => (bar S st t).isNone))) ⟨H1, [], ?_⟩ (fun i H' _ ⟨B, us, A⟩ => SqL.of ((A.s.trans A.R) _ _ e1)) ?_ ?_
    · rw [List.take_zero]
      exact Acq.start (Same.refl _) (Same.refl _) nD
    · rintro i y H3 hy ⟨B, us, A⟩
      obtain ⟨d, hd, dy⟩ := dps_of_get dz hy
      obtain ⟨t, ht, rfl⟩ := step_item hd
      have s3 := A.s.trans A.R
      have tok := allSteps_ok (List.mem_of_getElem? ht)
      refine ⟨rfl, _, rfl, _, rfl, _, rfl, p, v, y, S, st, t, rfl, ob.mono (s1.trans s3), dp_mono (s1.trans s3) hv, dp_mono s3 dy, ok, hz, tok, fun b H4 s4 db => ?_⟩
      refine ⟨rfl, _, rfl, ?_⟩
      rw [dbar_none db]
      have A4 := A.keep s4
      have ef := filter_snoc (p := fun t => (bar S st t).isNone) ht
      cases hb : (bar S st t).isNone with
      | true =>
        rw [hb, if_pos rfl] at ef
        refine iteT ⟨_, rfl, us, A4.el, ?_, ?_⟩
        · have e := dps_len A4.dx
          have e2 : (dsteps (((allSteps S.wishes.length).take i).filter fun t => (bar S st t).isNone)).length ≤ 12 := by
            unfold dsteps
            rw [List.length_map]
            refine Nat.le_trans (List.length_filter_le _ _) ?_
            rw [List.length_take, allSteps_len]
            omega
          exact small1000 (by omega)
        · refine ⟨del1 H4 D, us ++ [y], ?_⟩
          have A5 := (A4.pure (Same.refl _)).app (d := t.d) (by
            have hs : Same H1 (del1 H4 D) := same_del (s3.trans s4) nD
            exact dp_mono hs dy)
          rw [ef]
          have e : dsteps (((allSteps S.wishes.length).take i).filter (fun t => (bar S st t).isNone) ++ [t]) = dsteps (((allSteps S.wishes.length).take i).filter fun t => (bar S st t).isNone) ++ [t.d] := List.map_append ..
          rw [e]
          exact A5
      | false =>
        rw [hb, if_neg Bool.false_ne_true, List.append_nil] at ef
        refine iteF ⟨B, us, ?_⟩
        rw [ef]
        exact A4
    · rintro H3 ⟨B, us, A⟩
      obtain ⟨s3, _, du⟩ := A.all
      have lz : zs.length = (allSteps S.wishes.length).length := (dps_len dz).trans (List.length_map ..)
      rw [lz, List.take_length] at du
      exact q D us H3 (s1.trans s3) (s1.free nD) A.el du
end

/-! ## sorted over a tuple of whole numbers -/
section
variable {prog : Program} {w : World} {A : Around} {E : Value → Shared → Prop} {s : Shared}
theorem pour_tuple {t : Addr} {us : List Value} {R : List Value → Shared → Prop} (tt : s.heap.IsTuple t us.toArray) (few : us.length < 64)
    (go : R us { s with heap := (s.heap.push (seqObj "list" #[] 0)).update s.heap.objs.size (Obj.mapSeq (· ++ us.toArray)) }) : wpAny (model prog w) A (collect (.ref t)) R E s := by
  obtain ⟨ob, at0, oc, n, od⟩ := id tt
  have at1 : (s.heap.push (seqObj "list" #[] 0)).get? t = some ob := Heap.get?_push_of_some _ at0
  have at2 : (s.heap.push (seqObj "list" #[] 0)).get? s.heap.objs.size = some (seqObj "list" #[] 0) := Heap.get?_push_size _ rfl
  have few2 : us.length ≤ sizeLine := by rw [sizeLine_eq]; omega
  unfold collect
  refine wpAny_bind (wpAny_runValue (codeAny_builtin entry_proto_collect' (show wpAny _ _ (do again (.builtin "list.__iadd__" ⟨[← newList [], .ref t], []⟩)) _ _ s from wpAny_bind (wpAny_newList (wpAny_pure ⟨Code.quiet_builtin _ (by decide +kernel), codeAny_builtin entry_list_iadd' ?_⟩)))))
  show wpAny _ _ (Builtin.List.listExtendWith (.ref s.heap.objs.size) (.ref t) (.ref s.heap.objs.size)) _ _ { s with heap := s.heap.push (seqObj "list" #[] 0) }
  unfold Builtin.List.listExtendWith
  refine wpAny_bind (wpAny_typeOf (T := "tuple") ⟨ob, at1, oc⟩ ?_)
  have same : (Value.type "tuple" == Value.type "tuple") = true := by rfl
  rw [if_pos (by rw [same]; simp)]
  refine wpAny_bind (listItems_at at1 od (wpAny_bind (listItems_at (xs := #[]) (n := 0) at2 rfl ?_)))
  rw [if_neg (show ¬ _ by simp)]
  refine wpAny_bind (listUpdate_at (xs := #[]) (n := 0) at2 rfl (wpAny_pure ?_) (Nat.zero_le _) (show (#[] ++ us.toArray).size ≤ sizeLine + 1 by rw [Array.size_append, List.size_toArray, sizeLine_eq]; show 0 + us.length ≤ _; omega))
  refine wpAny_bind (wpAny_load (get?_update_seq at2 _) (show wpAny (model prog w) A (pure ((#[] : Array Value) ++ us.toArray).toList) R E _ from ?_))
  have full : ((#[] : Array Value) ++ us.toArray).toList = us := by simp
  rw [full]
  exact wpAny_pure go
theorem rising_of_tuple {t : Addr} {us : List Value} {zs : List Int} {R : Value → Shared → Prop} (tt : s.heap.IsTuple t us.toArray) (zi : IntsAre us zs) (few : us.length < 64)
    (fin : ∀ (o : Array Value) (ys : List Int), IntsAre o.toList ys → ys.Perm zs → ys.Pairwise (· ≤ ·) → R (.ref (s.heap.objs.size + 1)) { s with heap := sortedAll s.heap us o }) : wpAny (model prog w) A (call (.builtin "sorted") [.ref t]) R E s := by
  generalize eh : (s.heap.push (seqObj "list" #[] 0)).update s.heap.objs.size (Obj.mapSeq (· ++ us.toArray)) = g
  have eg : g.objs.size = s.heap.objs.size + 1 := by
    rw [← eh, Heap.size_update, Heap.size_push]
  have at3 : (g.push (seqObj "list" us.toArray 0)).get? (s.heap.objs.size + 1) = some (seqObj "list" us.toArray 0) := by
    rw [← eg]
    exact Heap.get?_push_size _ rfl
  have all : ∀ o, sortedAll s.heap us o = sortedHeap (g.push (seqObj "list" us.toArray 0)) (s.heap.objs.size + 1) us o := fun o => by rw [← eh]; rfl
  refine Calls.call_function_entry kind_sorted plain_sorted entry_sorted (args_sorted1 _) ?_
  unfold Builtin.«sorted»
  refine wpAny_bind (m := checkCount "sorted" 1 1 _) (wpAny_pure (wpAny_bind (pour_tuple tt few (wpAny_bind (wpAny_newList ?_)))))
  show wpAny _ _ _ _ _ { s with heap := Heap.push ((s.heap.push (seqObj "list" #[] 0)).update s.heap.objs.size (Obj.mapSeq (· ++ us.toArray))) (seqObj "list" us.toArray 0) }
  rw [eh, eg]
  refine wpAny_bind (wpAny_holding (wpAny_call_entry slot_list_sort ⟨_, at3, rfl⟩ entry_list_sort (list_sort_tree at3 zi few fun o ys b1 b2 b3 => ⟨_, rfl, wpAny_pure ⟨_, rfl, ?_⟩⟩) (args_list_sort _)))
  have := fin o ys b1 b2 b3
  rw [all o] at this
  exact this
end
def rSortedT (K : PySem.W.Frag) : List V → Hp → VK → Prop := fun us H Q => ∃ (a : Addr) (zs : List Int), us = [V.ref a] ∧ SqT K H a (zs.map V.int) ∧ zs.length < 64 ∧ ∀ p, H p = none → Q (.ref p) (upd H p (.lst ((sortI zs).map V.int)))
theorem ksortedT {X : Cx} {K : PySem.W.Frag} (eK : X.K = K := by rfl) : CallR X (.builtin "sorted") (rSortedT K) := by
  subst eK
  intro pins s σ H us vs Q I r hh
  obtain ⟨a, zs, rfl, ht, few, q⟩ := hh
  obtain ⟨its, rv, it, _⟩ := I.tuple ht
  rw [Vals.ref1 r]
  have zi := rv.ints
  refine rising_of_tuple it zi (by rw [zi.length]; exact few) fun o ys b1 b2 b3 => ?_
  have ey := sortI_of b2 b3
  obtain ⟨e, he⟩ := PyProof.Rows.sortedAll_at s.heap its o
  have fits : (ys.map V.int).length ≤ sizeLine := by rw [List.length_map, b2.length_eq]; exact small64 few
  have new := I.hok.fresh (Nat.le_succ s.heap.objs.size)
  refine ⟨.ref _, upd H (s.heap.objs.size + 1) (.lst (ys.map V.int)), I.laid (t' := s.toks) (fun _ _ => PyProof.Rows.sortedAll_old) (Nat.le_succ _) ⟨fits, o.toList, e, vals_of_ints b1, he⟩, rfl, ?_⟩
  rw [ey]
  exact q _ new

section
variable {P : Program} {w : World} {K : PySem.W.Frag} {mg : Str → Option Value} {base : Heap}
def spLawBehind (K : PySem.W.Frag) : Sp := fun vs H Q _ => ∃ (v u z : V) (S : Sto) (s : Sta) (t : Stp), vs = [v, u, z] ∧ Dp K H v S.d ∧ Dp K H u s.d ∧ Dp K H z t.d ∧ StpOk S.wishes.length t ∧ 0 ≤ s.kept ∧ s.kept ≤ 3 ∧ s.done.length < 60 ∧ s.inside.length < 60 ∧ Ret K H Q (behindS S s t).d
theorem kept_less {k : Int} (h0 : 0 ≤ k) (h3 : k ≤ 3) : atI [V.int 0, V.int 0, V.int 1, V.int 2] k = some (.int (max (k - 1) 0)) := by
  have : k = 0 ∨ k = 1 ∨ k = 2 ∨ k = 3 := by omega
  rcases this with rfl | rfl | rfl | rfl <;> rfl
theorem catA_one {K : PySem.W.Frag} {H : Hp} {i p : Addr} {l : List Int} {b : Int} {Q : VK} (hi : SqT K H i (l.map V.int)) (hp : SqT K H p [V.int b]) (hl : l.length ≤ 900) (q : ∀ a3 H3, Same H H3 → SqT K H3 a3 ((l ++ [b]).map V.int) → Q (.ref a3) H3) : rCatA K (.ref i) (.ref p) H Q := by
  refine ⟨i, p, _, _, rfl, rfl, hi, hp, small (by simp; omega), fun e => ?_, fun _ e => (by cases e), fun _ _ p2 np2 => ?_⟩
  · have e2 : l = [] := List.map_eq_nil_iff.mp e
    rw [e2] at q
    exact q p H (Same.refl _) hp
  · refine q p2 _ (same_new np2) ?_
    rw [List.map_append]
    exact tup_new
end

section
variable {P : Program} {w : World} {K : PySem.W.Frag} {mg : Str → Option Value} {base : Heap}
def spIsEnd (K : PySem.W.Frag) (C : Addr) : Sp := fun vs H Q _ => ∃ (p : Addr) (v : V) (S : Sto) (s : Sta), vs = [.ref p, v] ∧ Ob K C H p S ∧ Dp K H v s.d ∧ ∀ H', Same H H' → Q (.bl (decide (s.done.length = S.wishes.length) && decide (s.inside.length = 0))) H'
/-! is_end: 0 store, 1 state, 2 _, 3 done, 4 inside -/
abbrev s_is_end : Stmt := topS 12
abbrev N_is_end : List Str := ["store", "state", "_", "done", "inside"]
theorem sc_is_end : FnScope N_is_end ["store", "state"] (defScope s_is_end) := ⟨rfl, rfl, rfl, by decide +kernel, rfl, by decide +kernel, by decide +kernel⟩
theorem ok_is_end {f C fI fS fW : Addr} {fd fdI fdS fdW : FuncData} (D : Dfs K mg "is_end" s_is_end ["store", "state"] f fd) (T : Tx K mg) (TS : TSx K mg C fI fS fW fdI fdS fdW) (G_wishes : FnOk P w K mg base CX0 1 fW fdW ["self"] (spWishesM K C)) :
    Cal P w K mg base 2 "is_end" ["store", "state"] (spIsEnd K C) f fd := by
  refine D.cal (D.F.ok sc_is_end (fun vs H Q E h => ?_) (fun cdv A outer s H vs Q E hr h => ?_))
  · obtain ⟨p, v, S, s, rfl, _⟩ := h
    rfl
  · obtain ⟨p, v, S, st, rfl, ob, hv, q⟩ := h
    obtain ⟨sa, d, i, rfl, hsa, hd, hi⟩ := sta_at hv
    obtain ⟨dx, l, m, xs, ys, ob1⟩ := id ob
    refine ⟨_, (pss_cons (ps_asg (pv 1) (pg_tup (by rfl) (pgs_cons (pg_name (i := 2) sc_is_end.nd rfl (Or.inl rfl)) (pgs_cons (pg_name (i := 3) sc_is_end.nd rfl (Or.inl rfl)) (pgs_cons (pg_name (i := 4) sc_is_end.nd rfl (Or.inl rfl)) (pgs_cons (pg_name (i := 2) sc_is_end.nd rfl (Or.inl rfl)) pgs_nil))))))
      (pss_one (ps_ret (pe_and (pe_cmpR op_eq (pe_callB (klen (K := K)) (by rfl) T.n_len (by decide +kernel) (pa_cons (pv 3) pa_nil)) (pe_callB (klen (K := K)) (by rfl) T.n_len (by decide +kernel) (pa_cons (pe_meth0 (pv 0) TS.cl TS.m_wishes G_wishes (hr.mono (by decide)) TS.b_wishes .nil pass0) pa_nil)) (nomark _)) (pe_one (pe_cmpR op_eq (pe_callB (klen (K := K)) (by rfl) T.n_len (by decide +kernel) (pa_cons (pv 4) pa_nil)) pe_int (nomark _))))))), ?_⟩
    refine ⟨_, rfl, sa, _, rfl, hsa, rfl, _, _, rfl, _, _, rfl, _, _, rfl, _, _, rfl, rfl, ?_⟩
    refine ⟨_, rfl, d, _, rfl, .inr hd, _, rfl, p, dx, _, rfl, ob1.o, fsS_m2, p, S, rfl, ob, fun r zs nr dzs => ?_⟩
    have s1 := same_new (o := .lst zs) nr
    have lz : zs.length = S.wishes.length := (dps_len dzs).trans (List.length_map ..)
    have hi1 := Same.t s1 hi
    refine ⟨r, zs, rfl, .inl lst_new, rfl, _, rfl, ?_⟩
    by_cases e : st.done.length = S.wishes.length
    · refine itD (by rw [List.length_map, lz, e]) ⟨_, rfl, i, _, rfl, .inr hi1, rfl, ?_⟩
      have e2 : decide (V.int ((st.inside.map V.int).length : Int) = V.int 0) = (decide (st.done.length = S.wishes.length) && decide (st.inside.length = 0)) := by
        rw [decide_eq_true e, Bool.true_and, List.length_map]
        refine decide_eq_decide.mpr ⟨fun h => ?_, fun h => by rw [h]; rfl⟩
        have := V.int.inj h
        omega
      show Q (.bl (decide (V.int ((st.inside.map V.int).length : Int) = V.int 0))) _
      rw [e2]
      exact q _ s1
    · refine itF (fun h => e ?_) ?_
      · have := V.int.inj h
        rw [List.length_map] at this
        omega
      · rw [decide_eq_false e, Bool.false_and] at q
        exact q _ s1
end

section
variable {P : Program} {w : World} {K : PySem.W.Frag} {mg : Str → Option Value} {base : Heap}
def isShift : Stp → Bool
  | .shift _ => true
  | _ => false
/-- a step's word -/
def wordOf : Stp → Str
  | .wait => "wait"
  | .shift _ => "shift"
  | .cin _ => "in"
  | .cout _ => "out"
  | .wish _ => "do"
theorem nw_in : ¬ (("in" : Str) = "shift") := by decide +kernel
theorem nw_out : ¬ (("out" : Str) = "shift") := by decide +kernel
theorem nw_do : ¬ (("do" : Str) = "shift") := by decide +kernel
theorem word_shift (t : Stp) : decide (V.str (wordOf t) = V.str "shift") = isShift t := by
  cases t with
  | shift b => exact decide_eq_true rfl
  | wait => exact decide_eq_false (sne (by decide +kernel))
  | cin b => exact decide_eq_false (sne nw_in)
  | cout b => exact decide_eq_false (sne nw_out)
  | wish b => exact decide_eq_false (sne nw_do)
theorem word_at {H : Hp} {v : V} {t : Stp} (h : Dp K H v t.d) : ∃ a r, v = .ref a ∧ SqT K H a (.str (wordOf t) :: r) := by
  cases t with
  | wait =>
    obtain ⟨a, rfl, ha⟩ := dp_one h
    exact ⟨a, _, rfl, ha⟩
  | _ =>
    obtain ⟨a, rfl, ha⟩ := dp_two h
    exact ⟨a, _, rfl, ha⟩
def costOf (t : Stp) : Int := if isShift t = true then 1 else 0
theorem sum_cost (ts : List Stp) : (ts.map costOf).sum = ((ts.filter isShift).length : Int) := by
  induction ts with
  | nil => rfl
  | cons t r ih =>
    rw [List.map_cons, List.sum_cons, ih]
    unfold costOf
    cases h : isShift t with
    | true =>
      rw [if_pos rfl, List.filter_cons_of_pos h, List.length_cons]
      omega
    | false =>
      rw [if_neg Bool.false_ne_true, List.filter_cons_of_neg (by rw [h]; exact Bool.false_ne_true)]
      omega
def spShiftsOf (K : PySem.W.Frag) : Sp := fun vs H Q _ => ∃ (v : V) (t : Stp), vs = [v] ∧ Dp K H v t.d ∧ ∀ H', Same H H' → Q (.int (costOf t)) H'
/-! shifts_of: 0 step -/
abbrev s_shifts_of : Stmt := topS 14
abbrev N_shifts_of : List Str := ["step"]
theorem sc_shifts_of : FnScope N_shifts_of ["step"] (defScope s_shifts_of) := ⟨rfl, rfl, rfl, by decide +kernel, rfl, by decide +kernel, by decide +kernel⟩
theorem ok_shifts_of {f : Addr} {fd : FuncData} (D : Dfs K mg "shifts_of" s_shifts_of ["step"] f fd) : Cal P w K mg base 1 "shifts_of" ["step"] (spShiftsOf K) f fd := by
  refine D.cal (D.F.ok sc_shifts_of (fun vs H Q E h => ?_) (fun cdv A outer s H vs Q E hr h => ?_))
  · obtain ⟨v, t, rfl, _⟩ := h
    rfl
  · obtain ⟨v, t, rfl, hv, q⟩ := h
    obtain ⟨a, r, rfl, ha⟩ := word_at hv
    refine ⟨_, (pss_one (ps_ret (pe_ifExp (pt_cmpR op_eq (pe_ix (kix_tup (K := K)) (pv 0) pe_int (fun _ _ => rfl)) pe_str (nomark _)) pe_int pe_int))), ?_⟩
    refine ⟨_, rfl, a, _, 0, .str (wordOf t), rfl, rfl, ha, at_of (j := 0) rfl rfl, rfl, _, rfl, ?_⟩
    rw [word_shift]
    unfold costOf at q
    cases hb : isShift t with
    | true =>
      rw [hb, if_pos rfl] at q
      exact iteT (q _ (Same.refl H))
    | false =>
      rw [hb, if_neg Bool.false_ne_true] at q
      exact iteF (q _ (Same.refl H))
end

/-! ## dicts whose keys are nested tuples -/
abbrev NK := PySem.NestedKey
theorem I_tuple {X : Cx} {pins : List (Addr × Obj)} {σ : L2.St} {H : Hp} {s : Shared} {a : Addr} {xs : List V} (I : Inv X pins σ H s) (h : SqT X.K H a xs) : ∃ (o : Obj) (its : List Value) (n : Nat), s.heap.get? a = some o ∧ o.cls = .type "tuple" ∧ o.data = .seq its.toArray n ∧ Vals xs its := by
  obtain ⟨its, r, ht, _⟩ := I.tuple h
  obtain ⟨o, h1, h2, n, h3⟩ := ht
  exact ⟨o, its, n, h1, h2, h3, r⟩
/-- a value that is a key -/
def NkAt (K : PySem.W.Frag) (H : Hp) (v : V) (k : NK) : Prop := Dp K H v k.data
mutual
theorem nk_is {X : Cx} {pins : List (Addr × Obj)} {σ : L2.St} {H : Hp} {s : Shared} (I : Inv X pins σ H s) : ∀ {k : NK} {v : V} {u : Value}, Dp X.K H v k.data → RelV v u → PySem.NestedIs s.heap k u
  | .none, v, u, h, r => by
    have e : v = .non := dp_none h
    subst e
    cases (show u = Value.none from r)
    exact .none
  | .num i, v, u, h, r => by
    have e : v = .int i := dp_int h
    subst e
    obtain ⟨t, rfl⟩ := (show ∃ t, u = Value.int i t from r)
    exact .int i t
  | .text x, v, u, h, r => by
    have e : v = .str x := dp_str h
    subst e
    obtain ⟨t, rfl⟩ := (show ∃ t, u = Value.str x t from r)
    exact .text x t
  | .tup ks, v, u, h, r => by
    have h' : Dp X.K H v (.tuple (PySem.NestedKey.datas ks)) := h
    obtain ⟨a, xs, rfl, ht, hd⟩ := dp_tup h'
    cases (show u = Value.ref a from r)
    obtain ⟨o, its, n, h1, h2, h3, rv⟩ := I_tuple I ht
    exact .tup h1 h2 h3 (nks_is I hd rv)
theorem nks_is {X : Cx} {pins : List (Addr × Obj)} {σ : L2.St} {H : Hp} {s : Shared} (I : Inv X pins σ H s) : ∀ {ks : List NK} {vs : List V} {us : List Value}, DpAll X.K H vs (PySem.NestedKey.datas ks) → Vals vs us → PySem.NestedAll s.heap ks us
  | [], vs, us, h, r => by
    have h' : DpAll X.K H vs [] := h
    obtain rfl := dps_nil h'
    cases r
    exact .nil
  | k :: ks, vs, us, h, r => by
    have h' : DpAll X.K H vs (k.data :: PySem.NestedKey.datas ks) := h
    obtain ⟨x, t, rfl, h1, h2⟩ := dps_cons h'
    cases r with
    | cons r1 r2 => exact .cons (nk_is I h1 r1) (nks_is I h2 r2)
end
/-- entries as they lie at d -/
abbrev NE := NK × Addr × V
def NdRaw (P : Program) (w : World) (d : Addr) (xs : List NE) (h : Heap) : Prop :=
  ∃ (ys : List (NK × Addr × Value)) (o : Obj) (es : Array DictEntry) (ep : Nat), Paired (fun (p : NE) (q : NK × Addr × Value) => p.1 = q.1 ∧ p.2.1 = q.2.1 ∧ RelV p.2.2 q.2.2) xs ys ∧ h.get? d = some o ∧ o.ExactDict ∧ o.data = .dict es ep ∧ es.toList = ys.map (PySem.entryOfKey (PySem.nestedKind P w)) ∧ (xs.map (·.1)).Nodup
def ndO (P : Program) (w : World) (d : Addr) (xs : List NE) : HO := .ext (NdRaw P w d xs)
/-- the dict at d: its entries, whose keys' tuples are known -/
structure NdKeys (K : PySem.W.Frag) (H : Hp) (d : Addr) (xs : List NE) : Prop where
  keys : ∀ x ∈ xs, Dp K H (.ref x.2.1) x.1.data ∧ x.1.depth ≤ 8
  len : xs.length ≤ sizeLine
  mods : (d == sysModules) = false
theorem NdKeys.mono {K : PySem.W.Frag} {H H' : Hp} {d : Addr} {xs : List NE} (s : Same H H') (h : NdKeys K H d xs) : NdKeys K H' d xs := ⟨fun x hx => ⟨dp_mono s (h.keys x hx).1, (h.keys x hx).2⟩, h.len, h.mods⟩
def NdR (P : Program) (w : World) (K : PySem.W.Frag) (H : Hp) (d : Addr) (xs : List NE) : Prop := Rd H d (ndO P w d xs) ∧ NdKeys K H d xs
def NdW (P : Program) (w : World) (K : PySem.W.Frag) (H : Hp) (d : Addr) (xs : List NE) : Prop := H d = some (ndO P w d xs) ∧ NdKeys K H d xs
theorem NdW.r {P : Program} {w : World} {K : PySem.W.Frag} {H : Hp} {d : Addr} {xs : List NE} (h : NdW P w K H d xs) : NdR P w K H d xs := ⟨.inl h.1, h.2⟩
theorem NdR.mono {P : Program} {w : World} {K : PySem.W.Frag} {H H' : Hp} {d : Addr} {xs : List NE} (s : Same H H') (h : NdR P w K H d xs) : NdR P w K H' d xs := ⟨Same.rd s h.1, h.2.mono s⟩
theorem NdW.mono {P : Program} {w : World} {K : PySem.W.Frag} {H H' : Hp} {d : Addr} {xs : List NE} (s : Same H H') (h : NdW P w K H d xs) : NdW P w K H' d xs := ⟨s _ _ h.1, h.2.mono s⟩
def getE (xs : List NE) (k : NK) : Option V := (xs.find? fun x => decide (x.1 = k)).map (·.2.2)
def putE (xs : List NE) (k : NK) (a : Addr) (v : V) : List NE := if (getE xs k).isSome = true then xs.map (fun x => if x.1 = k then (x.1, x.2.1, v) else x) else xs ++ [(k, a, v)]
abbrev PE3 : List NE → List (NK × Addr × Value) → Prop := Paired fun p q => p.1 = q.1 ∧ p.2.1 = q.2.1 ∧ RelV p.2.2 q.2.2
theorem pe3_get {xs : List NE} {ys : List (NK × Addr × Value)} (r : PE3 xs ys) (k : NK) : RelO (getE xs k) ((PySem.atKey ys k).map (·.2)) := by
  induction r with
  | nil => exact True.intro
  | @cons p q ps qs h t ih =>
    obtain ⟨h1, _, h2⟩ := h
    by_cases e : p.1 = k
    · have e' : q.1 = k := h1.symm.trans e
      have a : getE (p :: ps) k = some p.2.2 := by simp [getE, List.find?_cons, e]
      have b : PySem.atKey (q :: qs) k = some q.2 := by simp [PySem.atKey, List.find?_cons, e']
      rw [a, b]
      exact h2
    · have e' : ¬ q.1 = k := fun z => e (h1.trans z)
      have a : getE (p :: ps) k = getE ps k := by simp [getE, List.find?_cons, e]
      have b : PySem.atKey (q :: qs) k = PySem.atKey qs k := by simp [PySem.atKey, List.find?_cons, e']
      rw [a, b]
      exact ih
theorem pe3_put {xs : List NE} {ys : List (NK × Addr × Value)} (r : PE3 xs ys) (k : NK) (a : Addr) {v : V} {u : Value} (rv : RelV v u) : PE3 (putE xs k a v) (PySem.storedH ys k a u) := by
  have e : (getE xs k).isSome = (PySem.atKey ys k).isSome := by
    rw [(pe3_get r k).isSome_eq, Option.isSome_map]
  unfold putE PySem.storedH
  rw [e]
  by_cases q : (PySem.atKey ys k).isSome = true
  · rw [if_pos q, if_pos q]
    clear e q
    induction r with
    | nil => exact .nil
    | @cons p q ps qs h t ih =>
      rw [List.map_cons, List.map_cons]
      refine .cons ?_ ih
      obtain ⟨h1, h2, h3⟩ := h
      unfold PySem.putAt
      by_cases e : p.1 = k
      · rw [if_pos e, if_pos (h1.symm.trans e)]
        exact ⟨h1, h2, rv⟩
      · rw [if_neg e, if_neg (fun z => e (h1.trans z))]
        exact ⟨h1, h2, h3⟩
  · rw [if_neg q, if_neg q]
    exact Paired.snoc r ⟨rfl, rfl, rv⟩
theorem pe3_keys {xs : List NE} {ys : List (NK × Addr × Value)} (r : PE3 xs ys) : xs.map (·.1) = ys.map (·.1) := by
  induction r with
  | nil => rfl
  | cons h _ ih => rw [List.map_cons, List.map_cons, ih, h.1]
theorem getE_mem {xs : List NE} {k : NK} (h : (getE xs k).isSome = true) : ∃ x ∈ xs, x.1 = k := by
  unfold getE at h
  rw [Option.isSome_map] at h
  obtain ⟨x, hx⟩ := Option.isSome_iff_exists.mp h
  exact ⟨x, List.mem_of_find?_eq_some hx, of_decide_eq_true (List.find?_some (p := fun x : NE => decide (x.1 = k)) hx)⟩
theorem getE_none {xs : List NE} {k : NK} (h : ¬ (getE xs k).isSome = true) : ∀ x ∈ xs, x.1 ≠ k := by
  intro x hx e
  refine h ?_
  unfold getE
  rw [Option.isSome_map]
  rw [List.find?_isSome]
  exact ⟨x, hx, decide_eq_true e⟩
theorem putE_keys {xs : List NE} {k : NK} {a : Addr} {v : V} : ∀ x ∈ putE xs k a v, (∃ y ∈ xs, x.1 = y.1 ∧ x.2.1 = y.2.1) ∨ (x.1 = k ∧ x.2.1 = a) := by
  intro x hx
  unfold putE at hx
  split at hx
  · obtain ⟨y, hy, rfl⟩ := List.mem_map.mp hx
    refine .inl ⟨y, hy, ?_⟩
    split <;> exact ⟨rfl, rfl⟩
  · rcases List.mem_append.mp hx with hx | hx
    · exact .inl ⟨x, hx, rfl, rfl⟩
    · rw [List.mem_singleton] at hx
      subst hx
      exact .inr ⟨rfl, rfl⟩
theorem putE_nodup {xs : List NE} {k : NK} {a : Addr} {v : V} (h : (xs.map (·.1)).Nodup) : ((putE xs k a v).map (·.1)).Nodup := by
  unfold putE
  split
  · rw [List.map_map]
    have e : (xs.map ((·.1) ∘ fun x => if x.1 = k then (x.1, x.2.1, v) else x)) = xs.map (·.1) := by
      refine List.map_congr_left fun x _ => ?_
      show (if x.1 = k then (x.1, x.2.1, v) else x).1 = x.1
      split <;> rfl
    rw [e]
    exact h
  · rename_i hn
    rw [List.map_append, List.nodup_append]
    refine ⟨h, by simp, fun x hx y hy => ?_⟩
    obtain ⟨z, hz, rfl⟩ := List.mem_map.mp hx
    simp only [List.map_cons, List.map_nil, List.mem_singleton] at hy
    rw [hy]
    exact getE_none hn z hz
theorem putE_len {xs : List NE} {k : NK} {a : Addr} {v : V} : (putE xs k a v).length ≤ xs.length + 1 := by
  unfold putE
  split
  · rw [List.length_map]; omega
  · rw [List.length_append, List.length_singleton]; omega
section
variable {X : Cx} {pins : List (Addr × Obj)} {σ : L2.St} {H : Hp} {s : Shared} {d : Addr} {xs : List NE} {A : Around} {E : Value → Shared → Prop}
theorem nd_raw (I : Inv X pins σ H s) (h : NdR X.prog X.w X.K H d xs) : ∃ (ys : List (NK × Addr × Value)), PE3 xs ys ∧ s.heap.DictOfH (PySem.nestedKind X.prog X.w) d ys ∧ (xs.map (·.1)).Nodup := by
  obtain ⟨hr, hk⟩ := h
  have ob : ObjOk X.prog X.w H s.heap d (ndO X.prog X.w d xs) := Rd.ok hr I.hok
  obtain ⟨⟨ys, o, es, ep, rel, ho, hx, hd, he, hn⟩, _⟩ := ob
  refine ⟨ys, rel, ⟨o, es, ep, ho, hx, hd, he, ?_, by rw [← pe3_keys rel]; exact hn⟩, hn⟩
  have go : ∀ {l : List NE} {m : List (NK × Addr × Value)}, PE3 l m → (∀ x ∈ l, Dp X.K H (.ref x.2.1) x.1.data ∧ x.1.depth ≤ 8) → ∀ y ∈ m, (PySem.nestedKind X.prog X.w).is s.heap y.1 y.2.1 := by
    intro l m r
    induction r with
    | nil => intro _ y hy; exact nomatch hy
    | @cons p q ps qs hq t ih =>
      intro hall y hy
      rcases List.mem_cons.mp hy with e | hy
      · subst e
        obtain ⟨h1, h2⟩ := hall p List.mem_cons_self
        refine ⟨?_, by rw [← hq.1]; exact h2⟩
        have := nk_is I h1 (show RelV (.ref p.2.1) (.ref p.2.1) from rfl)
        rw [hq.1, hq.2.1] at this
        exact this
      · exact ih (fun x hx => hall x (List.mem_cons_of_mem _ hx)) y hy
  exact go rel hk.keys
theorem nd_getItem {k : NK} {y v : V} {u : Value} {Q : Value → Shared → Prop} (hu : A.units + 16 < cLine) (I : Inv X pins σ H s) (h : NdR X.prog X.w X.K H d xs) {b : Addr} (hy : y = .ref b) (hk : Dp X.K H y k.data) (hdp : k.depth ≤ 8) (ry : RelV y u) (hv : getE xs k = some v)
    (q : ∀ w' s', Inv X pins σ H s' → RelV v w' → Q w' s') : wpAny (model X.prog X.w) A (getItem (.ref d) u) Q E s := by
  subst hy
  cases (show u = Value.ref b from ry)
  obtain ⟨ys, rel, dd, _⟩ := nd_raw I h
  obtain ⟨w', hw, rw'⟩ := RelO.some_of (v := v) (o := (PySem.atKey ys k).map (·.2)) (by rw [← hv]; exact pe3_get rel k)
  obtain ⟨p, hp, hp2⟩ := Option.map_eq_some_iff.mp hw
  refine wpAny_getItem_heap (knd := PySem.nestedKind X.prog X.w) (k := k) (by show A.in1.units + 8 < cLine; exact (show A.in1.units + 8 < cLine by show A.units + 1 + 8 < cLine; omega)) ⟨nk_is I hk rfl, hdp⟩ dd hp ?_
  rw [hp2]
  exact q w' _ (I.tok _) rw'
theorem nd_in {k : NK} {b : Addr} {u : Value} {Q : Value → Shared → Prop} (hu : A.units + 16 < cLine) (I : Inv X pins σ H s) (h : NdR X.prog X.w X.K H d xs) (hk : Dp X.K H (.ref b) k.data) (hdp : k.depth ≤ 8) (ry : RelV (.ref b) u)
    (q : ∀ s', Inv X pins σ H s' → Q (.bool (getE xs k).isSome) s') : wpAny (model X.prog X.w) A (compareOp .In u (.ref d)) Q E s := by
  cases (show u = Value.ref b from ry)
  obtain ⟨ys, rel, dd, _⟩ := nd_raw I h
  refine wpAny_in_heap (knd := PySem.nestedKind X.prog X.w) (k := k) (show A.units + 1 + 8 < cLine by omega) ⟨nk_is I hk rfl, hdp⟩ h.2.mods dd ?_
  have e := (pe3_get rel k).isSome_eq
  rw [Option.isSome_map] at e
  rw [← e]
  exact q _ (I.tok _)
theorem nd_notIn {k : NK} {b : Addr} {u : Value} {Q : Value → Shared → Prop} (hu : A.units + 16 < cLine) (I : Inv X pins σ H s) (h : NdR X.prog X.w X.K H d xs) (hk : Dp X.K H (.ref b) k.data) (hdp : k.depth ≤ 8) (ry : RelV (.ref b) u)
    (q : ∀ s', Inv X pins σ H s' → Q (.bool (!(getE xs k).isSome)) s') : wpAny (model X.prog X.w) A (compareOp .NotIn u (.ref d)) Q E s := by
  cases (show u = Value.ref b from ry)
  obtain ⟨ys, rel, dd, _⟩ := nd_raw I h
  refine wpAny_notIn_heap (knd := PySem.nestedKind X.prog X.w) (k := k) (show A.units + 1 + 8 < cLine by omega) ⟨nk_is I hk rfl, hdp⟩ h.2.mods dd ?_
  have e := (pe3_get rel k).isSome_eq
  rw [Option.isSome_map] at e
  rw [← e]
  exact q _ (I.tok _)
theorem nd_ext {P : Program} {w : World} {H' : Hp} {h' : Heap} {ys : List (NK × Addr × Value)} (rel : PE3 xs ys) (hn : (xs.map (·.1)).Nodup) (dd : h'.DictOfH (PySem.nestedKind P w) d ys) : ObjOk P w H' h' d (ndO P w d xs) := by
  obtain ⟨o, es, ep, ho, hx, hd, he, _, _⟩ := dd
  refine ⟨⟨ys, o, es, ep, rel, ho, hx, hd, he, hn⟩, ⟨o, ho⟩, ?_⟩
  rintro h1 h2 ⟨zs, o1, es1, ep1, r1, g1, g2, g3, g4, g5⟩ hk
  exact ⟨zs, o1, es1, ep1, r1, hk _ g1, g2, g3, g4, g5⟩
theorem nd_setItem {k : NK} {b : Addr} {u r : Value} {v : V} {Q : Unit → Shared → Prop} (hu : A.units + 16 < cLine) (I : Inv X pins σ H s) (h : NdW X.prog X.w X.K H d xs) (hk : Dp X.K H (.ref b) k.data) (hdp : k.depth ≤ 8) (ry : RelV (.ref b) u) (rv : RelV v r) (hl : xs.length < sizeLine)
    (q : ∀ s', Inv X pins σ (upd H d (ndO X.prog X.w d (putE xs k b v))) s' → Q () s') : wpAny (model X.prog X.w) A (setItem (.ref d) u r) Q E s := by
  cases (show u = Value.ref b from ry)
  obtain ⟨ys, rel, dd, hn⟩ := nd_raw I h.r
  have hz : ys.length ≤ sizeLine := by rw [← Paired.length rel]; exact Nat.le_of_lt hl
  refine wpAny_setItem_heap (knd := PySem.nestedKind X.prog X.w) (k := k) (hsz := hz) (show A.units + 1 + 8 < cLine by omega) ⟨nk_is I hk rfl, hdp⟩ dd fun h' dd' hs => q _ ?_
  have he : ∃ q, h'.get? d = some q := let ⟨q, _, _, hq, _⟩ := dd'; ⟨q, hq⟩
  exact d_write I (by rw [h.1]; exact True.intro) hs he (nd_ext (pe3_put rel k b rv) (putE_nodup hn) dd')
theorem nd_type (I : Inv X pins σ H s) (h : NdR X.prog X.w X.K H d xs) : s.TypeIs (.ref d) "dict" := by
  obtain ⟨ys, rel, dd, _⟩ := nd_raw I h
  exact dd.typeIs
theorem nd_len {Q : Value → Shared → Prop} (I : Inv X pins σ H s) (h : NdR X.prog X.w X.K H d xs) (q : ∀ t s', Inv X pins σ H s' → Q (.int xs.length t) s') : wpAny (model X.prog X.w) A (call (.builtin "len") [.ref d]) Q E s := by
  obtain ⟨ys, rel, dd, _⟩ := nd_raw I h
  have hm : s.heap.DictKeyed (PySem.nestedKind X.prog X.w) d (PySem.pairsH ys) := ⟨ys, dd, rfl⟩
  have hl : (PySem.pairsH ys).length = xs.length := by
    rw [PySem.pairsH_length, ← Paired.length rel]
  have hz := h.2.len
  refine PyProof.Rows.call_len_slot (n := (PySem.pairsH ys).length) hm.typeIs PySem.F.slot_dict_len (fun Q' hq => PySem.len_keyed h.2.mods hm hq) (by omega) (by rw [sizeLine_eq] at hz; omega) ?_
  rw [hl]
  exact q _ _ (I.tok _)
end

/-! ### the rules -/
def NGet (P : Program) (w : World) (K : PySem.W.Frag) (H : Hp) (a : Addr) (y : V) (o : Option V) : Prop := ∃ (xs : List NE) (k : NK) (b : Addr), NdR P w K H a xs ∧ y = .ref b ∧ Dp K H y k.data ∧ k.depth ≤ 8 ∧ o = getE xs k
def NPut (P : Program) (w : World) (K : PySem.W.Frag) (H : Hp) (a : Addr) (y v : V) (H' : Hp) : Prop := ∃ (xs : List NE) (k : NK) (b : Addr), NdW P w K H a xs ∧ y = .ref b ∧ Dp K H y k.data ∧ k.depth ≤ 8 ∧ xs.length < sizeLine ∧ H' = upd H a (ndO P w a (putE xs k b v))
def tNGet (P : Program) (w : World) (K : PySem.W.Frag) (td ty : TE) : TE := fun σ H Q => td σ H fun x H1 => ty σ H1 fun y H2 => ∃ a v, x = .ref a ∧ NGet P w K H2 a y (some v) ∧ Q v H2
def rNIn (P : Program) (w : World) (K : PySem.W.Frag) : R2 := fun y x H Q => ∃ a o, x = .ref a ∧ NGet P w K H a y o ∧ Q (.bl o.isSome) H
def rNNotIn (P : Program) (w : World) (K : PySem.W.Frag) : R2 := fun y x H Q => ∃ a o, x = .ref a ∧ NGet P w K H a y o ∧ Q (.bl (!o.isSome)) H
def sNPut (P : Program) (w : World) (K : PySem.W.Frag) (td ty tv : TE) : TS := fun D σ H => tv σ H fun v H1 => td σ H1 fun x H2 => ty σ H2 fun y H3 => ∃ a H4, x = .ref a ∧ NPut P w K H3 a y v H4 ∧ D.nx σ H4
def tNNew (P : Program) (w : World) : TE := fun _ H Q => ∀ p, H p = none → (p == sysModules) = false → Q (.ref p) (upd H p (ndO P w p []))
def rNLen (P : Program) (w : World) (K : PySem.W.Frag) : List V → Hp → VK → Prop := fun vs H Q => ∃ (a : Addr) (xs : List NE), vs = [.ref a] ∧ NdR P w K H a xs ∧ Q (.int xs.length) H
theorem nd_empty {P : Program} {w : World} {H : Hp} (h : Heap) (_ : sysModules < h.objs.size) : ObjOk P w H (h.push { cls := .type "dict", data := .dict #[] }) h.objs.size (ndO P w h.objs.size []) := by
  have g : (h.push { cls := .type "dict", data := .dict #[] }).get? h.objs.size = some { cls := .type "dict", data := .dict #[] } := Heap.get?_push_size _ rfl
  refine ⟨⟨[], _, #[], 0, .nil, g, ⟨rfl, rfl, rfl⟩, rfl, rfl, List.nodup_nil⟩, ⟨_, g⟩, ?_⟩
  rintro h1 h2 ⟨zs, o1, es1, ep1, r1, g1, g2, g3, g4, g5⟩ hk
  exact ⟨zs, o1, es1, ep1, r1, hk _ g1, g2, g3, g4, g5⟩
section
variable {X : Cx} {P : Program} {w : World} {K : PySem.W.Frag} {o i value : Expr} {pos pos' : Pos} {td ty tv : TE}
theorem pe_nget (hu : X.A.units + 16 < cLine) (ho : PE X o td) (hi : PE X i ty) (hs : NoSl i) (eP : X.prog = P := by rfl) (eW : X.w = w := by rfl) (eK : X.K = K := by rfl) : PE X (.Subscript o i pos) (tNGet P w K td ty) := by
  subst eP eW eK
  refine ⟨fun pins s σ H Q I h => ?_⟩
  refine subD_of PySem.F.slot_dict_getitem.lookup hs (thn (ho.run pins s σ H _ I h) fun u s1 ⟨x, H1, I1, rx, q1⟩ => thn (hi.run pins s1 σ H1 _ I1 q1) fun iv s2 ⟨y, H2, I2, ry, a, v, ex, ⟨xs, k, b, nr, ey, hk, hd, hv⟩, q2⟩ => ?_)
  subst ex
  obtain rfl : u = Value.ref a := rx
  exact ⟨nd_type I2 nr, nd_getItem hu I2 nr ey hk hd ry hv.symm fun w' s3 I3 rw' => ⟨v, H2, I3, rw', q2⟩⟩
theorem op_nin (hu : X.A.units + 16 < cLine) (eP : X.prog = P := by rfl) (eW : X.w = w := by rfl) (eK : X.K = K := by rfl) : OpR X (compareOp .In) (rNIn P w K) := by
  subst eP eW eK
  rintro pins s σ H y x u v Q I ry rx ⟨a, o, ex, ⟨xs, k, b, nr, ey, hk, hd, ho⟩, q⟩
  subst ex ey ho
  obtain rfl : v = Value.ref a := rx
  exact nd_in hu I nr hk hd ry fun s' I' => ⟨.bl _, H, I', rfl, q⟩
theorem op_nnotin (hu : X.A.units + 16 < cLine) (eP : X.prog = P := by rfl) (eW : X.w = w := by rfl) (eK : X.K = K := by rfl) : OpR X (compareOp .NotIn) (rNNotIn P w K) := by
  subst eP eW eK
  rintro pins s σ H y x u v Q I ry rx ⟨a, o, ex, ⟨xs, k, b, nr, ey, hk, hd, ho⟩, q⟩
  subst ex ey ho
  obtain rfl : v = Value.ref a := rx
  exact nd_notIn hu I nr hk hd ry fun s' I' => ⟨.bl _, H, I', rfl, q⟩
theorem ps_nput (hu : X.A.units + 16 < cLine) (ho : PE X o td) (hi : PE X i ty) (hv : PE X value tv) (hs : swapsWith value (some (.Subscript o i pos')) pos.line X.env = pure false) (eP : X.prog = P := by rfl) (eW : X.w = w := by rfl) (eK : X.K = K := by rfl) :
    PS X (.Assign [.Subscript o i pos'] value pos) (sNPut P w K td ty tv) := by
  subst eP eW eK
  refine ⟨fun pins s σ H D I h => ?_⟩
  refine wpAny_Assign_Subscript (thn (hv.run pins s σ H _ I h) fun r s1 ⟨v, H1, I1, rv, q1⟩ => thn (ho.run pins s1 σ H1 _ I1 q1) fun u s2 ⟨x, H2, I2, rx, q2⟩ => thn (hi.run pins s2 σ H2 _ I2 q2) fun iv s3 ⟨y, H3, I3, ry, a, H4, ex, ⟨xs, k, b, nw, ey, hk, hd, hl, eH⟩, q3⟩ => ?_) hs
  subst ex ey eH
  obtain rfl : u = Value.ref a := rx
  exact nd_setItem hu I3 nw hk hd ry rv hl fun s4 I4 => ⟨σ, _, I4, q3⟩
theorem pe_nnew (eP : X.prog = P := by rfl) (eW : X.w = w := by rfl) : PE X (.Dict [] [] pos) (tNNew P w) := by
  subst eP eW
  refine ⟨fun pins s σ H Q I h => ?_⟩
  exact wpAny_Dict_empty ⟨.ref s.heap.objs.size, _, I.laid (a := s.heap.objs.size) (o := ndO X.prog X.w s.heap.objs.size []) (t' := s.toks) (fun _ _ q => Heap.get?_push_of_some _ q) (Nat.le_refl _) (nd_empty s.heap I.big), rfl, h _ (I.hok.fresh (Nat.le_refl _)) (beq_eq_false_iff_ne.mpr (Ne.symm (Nat.ne_of_lt I.big)))⟩
theorem call_nlen (eP : X.prog = P := by rfl) (eW : X.w = w := by rfl) (eK : X.K = K := by rfl) : CallR X (.builtin "len") (rNLen P w K) := by
  subst eP eW eK
  rintro pins s σ H vs us Q I r ⟨a, xs, ex, nr, q⟩
  subst ex
  obtain ⟨u, eu, rx⟩ := vals1 r
  subst eu
  cases rx
  exact nd_len I nr fun t s' I' => ⟨.int xs.length, H, I', ⟨t, rfl⟩, q⟩
end

/-! ### walks over the keys -/
theorem inv_frzN {X : Cx} {pins : List (Addr × Obj)} {σ : L2.St} {H : Hp} {s : Shared} {d : Addr} {o : Obj} {xs : List NE} (I : Inv X pins σ H s) (h : H d = some (.frz o (ndO X.prog X.w d xs))) :
    s.heap.get? d = some o ∧ o.ExactDict ∧ ∃ (es : Array DictEntry) (ep : Nat), o.data = .dict es ep ∧ es.size = xs.length ∧ ∀ (i : Nat) (k : NK) (q : Addr) (v : V), xs[i]? = some (k, q, v) → ∃ en : DictEntry, es[i]? = some en ∧ en.key = .ref q := by
  obtain ⟨hd, ⟨ys, o', es, ep, rel, ho, hx, hdt, he, _⟩, _⟩ := I.hok d _ h
  rw [hd] at ho
  cases ho
  refine ⟨hd, hx, es, ep, hdt, ?_, fun i k q v e => ?_⟩
  · have l1 : es.size = ys.length := size_of_entries he
    have l2 : xs.length = ys.length := Paired.length rel
    omega
  · obtain ⟨b, hb, e1, e2, _⟩ := paired_get rel e
    have z := entry_at he i
    rw [hb] at z
    exact ⟨_, z, by show Value.ref b.2.1 = Value.ref q; rw [show q = b.2.1 from e2]⟩
def Itn (P : Program) (w : World) (d : Addr) (o : Obj) (xs : List NE) : It :=
  ⟨fun i H => H d = some (.frz o (ndO P w d xs)) ∧ i < xs.length, fun i H x H' => H' = H ∧ ∃ (k : NK) (q : Addr) (v : V), xs[i]? = some (k, q, v) ∧ x = .ref q, fun i H => H d = some (.frz o (ndO P w d xs)) ∧ xs.length ≤ i⟩
section
variable {P : Program} {w : World} {K : PySem.W.Frag} {tg : Expr} {d : Addr} {o : Obj} {es : Array DictEntry} {ep : Nat}
theorem turn_keysN {xs : List NE} (it : Addr) (hod : o.data = .dict es ep) : Turn P w K tg (Itn P w d o xs) [it] it (fun i h => h.IsKeyIter it d i xs.length ep) where
  mem := by simp
  obj := fun i h st b hb => by
    have e : b = it := by simpa using hb
    subst e
    obtain ⟨oi, e, c, dd⟩ := st
    exact ⟨oi, e, fun v z => by rw [dd] at z; cases z⟩
  keep := fun i h h' st k => st.at fun oi e => k it (by simp) oi e
  item := by
    intro X hP hw hK hc i pins s σ H E I hf st hg
    subst hP hw hK
    obtain ⟨hd, hi⟩ := hg
    obtain ⟨f0, f1, f2, f3, f4, f5⟩ := hf it (by simp)
    obtain ⟨hgd, hx, es', ep', hdt, hsz, ent⟩ := inv_frzN I hd
    obtain ⟨rfl, rfl⟩ := dict_ep hod hdt
    obtain ⟨⟨k, q, v⟩, hkv⟩ : ∃ p, xs[i]? = some p := ⟨xs[i], List.getElem?_eq_getElem hi⟩
    obtain ⟨en, hen, hkey⟩ := ent i k q v hkv
    refine next_key_item st hgd hdt hsz hen fun h' st' sb => ?_
    have I1 : Inv X pins σ H { s with heap := h' } := I.turned (t' := s.toks) (fun b ob hb e => (sb.2 b hb).trans e) f0 f1 f3 f4 f5
    obtain ⟨oi, e, c, dd⟩ := id st'
    exact ⟨en.key, rfl, go_of (s := { s with heap := h' }) e c dd (by decide) ⟨.ref q, H, I1, hkey, ⟨rfl, k, q, v, hkv, rfl⟩, st', fun b hb => (hf b hb).1⟩⟩
  done := by
    intro X hP hw hK hc i pins s σ H E I hf st hg
    subst hP hw hK
    obtain ⟨hd, hi⟩ := hg
    obtain ⟨f0, f1, f2, f3, f4, f5⟩ := hf it (by simp)
    obtain ⟨hgd, hx, es', ep', hdt, hsz, ent⟩ := inv_frzN I hd
    obtain ⟨rfl, rfl⟩ := dict_ep hod hdt
    exact next_key_end (I.ok.hd hc) st hgd hdt hsz hi fun h' eb => ⟨rfl, I.turned (t' := s.toks) (fun b ob hb e => eb b ob hb e) f0 f1 f3 f4 f5⟩
  self := fun A i s Q E st h => by
    refine wpAny_pyIter_slot st.typeIs F.slot_dict_keyiterator_iter (wpAny_call_entry F.slot_dict_keyiterator_iter st.typeIs F.entry_dict_keyiterator_iter ?_ (F.args_dict_keyiterator_iter_1 _))
    show wpAny _ _ (ret (.ref it)) _ _ s
    exact wpAny_pure ⟨_, rfl, "dict_keyiterator", _, st.typeIs, F.slot_dict_keyiterator_next.lookup, h⟩
end
def iNKeys (P : Program) (w : World) (td : TE) : TI := fun σ H R => td σ H fun x H1 => ∃ (d : Addr) (o : Obj) (xs : List NE), x = .ref d ∧ (d == sysModules) = false ∧ H1 d = some (.frz o (ndO P w d xs)) ∧ R (Itn P w d o xs) H1
section
variable {X : Cx} {P : Program} {w : World} {K : PySem.W.Frag} {tg e : Expr} {td : TE}
theorem pi_nkeys (he : PE X e td) (eP : X.prog = P := by rfl) (eW : X.w = w := by rfl) : PI X tg e (iNKeys P w td) := by
  subst eP eW
  refine ⟨fun pins s σ H R I h => ?_⟩
  refine thn (he.run pins s σ H _ I h) fun u s1 ⟨x, H1, I1, rx, d, o, xs, ex, hs, hd, q⟩ => ?_
  subst ex
  obtain rfl : u = Value.ref d := rx
  obtain ⟨hgd, hx, es, ep, hdt, hsz, ent⟩ := inv_frzN I1 hd
  refine iter_keys hs hgd hx hdt (pi_one (tk := s1.toks) I1 _ (turn_keysN _ hdt) ⟨_, Heap.get?_push_size _ rfl, rfl, ?_⟩ q)
  rw [hsz] <;> rfl
end
/-! ### {k: v} -/
def tNOne (P : Program) (w : World) (K : PySem.W.Frag) (tk tv : TE) : TE := fun σ H Q => ∀ p, H p = none → (p == sysModules) = false → tk σ (upd H p (ndO P w p [])) fun x H1 => tv σ H1 fun y H2 => H2 p = some (ndO P w p []) ∧
  ∃ (k : NK) (b : Addr), x = .ref b ∧ Dp K H2 x k.data ∧ k.depth ≤ 8 ∧ Q (.ref p) (upd H2 p (ndO P w p [(k, b, y)]))
theorem pe_none {X : Cx} {P : Program} {w : World} {K : PySem.W.Frag} {pos : Pos} {k v : Expr} {tk tv : TE} (hu : X.A.units + 16 < cLine) (hk : PE X k tk) (hv : PE X v tv) (eP : X.prog = P := by rfl) (eW : X.w = w := by rfl) (eK : X.K = K := by rfl) :
    PE X (.Dict [some k] [v] pos) (tNOne P w K tk tv) := by
  subst eP eW eK
  have pp := pps_cons (pos := pos) hk hv pps_nil
  refine ⟨fun pins s σ H Q I q => ?_⟩
  have hn := I.hok.fresh (Nat.le_refl s.heap.objs.size)
  have I1 := I.laid (a := s.heap.objs.size) (o := ndO X.prog X.w s.heap.objs.size []) (h' := s.heap.push { cls := .type "dict", data := .dict #[] }) (t' := s.toks) (fun _ _ q => Heap.get?_push_of_some _ q) (Nat.le_refl _) (nd_empty s.heap I.big)
  have hq := pp.run pins _ σ _ (fun ps H2 => match ps with
    | [(x, y)] => H2 s.heap.objs.size = some (ndO X.prog X.w s.heap.objs.size []) ∧ ∃ (k : NK) (b : Addr), x = .ref b ∧ Dp X.K H2 x k.data ∧ k.depth ≤ 8 ∧ Q (.ref s.heap.objs.size) (upd H2 s.heap.objs.size (ndO X.prog X.w s.heap.objs.size [(k, b, y)]))
    | _ => False) I1 (q _ hn (beq_eq_false_iff_ne.mpr (Ne.symm (Nat.ne_of_lt I.big))))
  rw [arm_eval_Dict, zip_pairTrees [some k] [v] X.env pos rfl rfl, dictDisplay_pairs (pairTrees [some k] [v] X.env pos) (by simp [pairTrees]) (by simp [pairTrees])]
  refine wpAny_bind (wpAny_standAt (wpAny_bind (wpAny_subDictH (knd := PySem.nestedKind X.prog X.w) (Q := fun d s' => wpAny (model X.prog X.w) X.A (pure (Value.ref d)) (EP X pins σ Q) X.xe s') (show X.A.units + 8 < cLine by omega) (by simp [pairTrees]) (thn hq fun ws s2 ⟨ps, H2, I2, rel, z⟩ => ?_))))
  match ps, rel, z with
  | [(x, y)], rel, ⟨e0, k, b, ex, hk, hd, q2⟩ =>
    subst ex
    cases rel with
    | @cons _ c _ _ h t =>
      cases t
      obtain ⟨c1, c2⟩ := c
      obtain ⟨h1, h2⟩ := h
      obtain rfl : c1 = Value.ref b := h1
      have hm0 : (s.heap.objs.size == sysModules) = false := beq_eq_false_iff_ne.mpr (Ne.symm (Nat.ne_of_lt I.big))
      have nw : NdW X.prog X.w X.K H2 s.heap.objs.size [] := ⟨e0, ⟨fun x hx => (nomatch hx), Nat.zero_le _, hm0⟩⟩
      obtain ⟨ys, rel0, dd, _⟩ := nd_raw I2 nw.r
      cases rel0
      have isk : (PySem.nestedKind X.prog X.w).is s2.heap k b := ⟨nk_is I2 hk rfl, hd⟩
      refine ⟨[(k, b, c2)], ⟨rfl, rfl, isk, trivial⟩, dd, fun h' tk dk hs => wpAny_pure ⟨.ref s.heap.objs.size, _, ?_, rfl, q2⟩⟩
      have he : ∃ q, h'.get? s.heap.objs.size = some q := let ⟨q, _, _, hq, _⟩ := dk; ⟨q, hq⟩
      have rel1 : PE3 [(k, b, y)] [(k, b, c2)] := .cons ⟨rfl, rfl, h2⟩ .nil
      exact d_write I2 (by rw [e0]; exact True.intro) hs he (nd_ext rel1 (by simp) dk)
  | [], _, z => exact z.elim
  | _ :: _ :: _, _, z => exact z.elim

/-! ### x < y, sorted(d) -/
def rLtD (K : PySem.W.Frag) : R2 := fun x y H Q => ∃ d e, Dp K H x d ∧ Dp K H y e ∧ PySem.W.alike d e = true ∧ d ≠ .none ∧ d.depth ≤ 8 ∧ Q (.bl (PySem.W.dataLt d e)) H
theorem op_ltD {X : Cx} {K : PySem.W.Frag} (hu : X.A.units + 16 < cLine) (eK : X.K = K := by rfl) : OpR X (compareOp .Lt) (rLtD K) := by
  subst eK
  rintro pins s σ H x y v u Q I rx ry ⟨d, e, hd, he, al, nn, dp, q⟩
  obtain ⟨as, r1⟩ := Dp.reads I d x v hd rx
  obtain ⟨bs, r2⟩ := Dp.reads I e y u he ry
  exact PySem.W.lt_data r1 r2 al nn (by have := Nat.min_le_left d.depth e.depth; omega) ⟨.bl _, H, I, rfl, q⟩
def leE : NE → NE → Bool := PySem.W.dataLe false fun e : NE => e.1.data
def rNSort (P : Program) (w : World) (K : PySem.W.Frag) : List V → Hp → VK → Prop := fun vs H Q => ∃ (a : Addr) (xs : List NE), vs = [.ref a] ∧ NdR P w K H a xs ∧ PySem.W.AllAlike (xs.map fun e => e.1.data) ∧ PySem.W.Sortable (xs.map fun e => e.1.data) ∧
  (∀ e ∈ xs, e.1.data.depth ≤ 8) ∧ ∀ p, H p = none → Q (.ref p) (upd H p (.lst ((xs.mergeSort leE).map fun e => V.ref e.2.1)))
theorem eachR : ∀ {xs : List NE} {zs : List (NK × Addr × Value)} {vs : List Value}, PE3 xs zs → vs.length = xs.length →
    (∀ (j : Nat) (v : Value), vs[j]? = some v → ∃ z, zs[j]? = some z ∧ v = Value.ref z.2.1) → PySem.W.EachIs (fun (v : Value) (e : NE) => v = Value.ref e.2.1) vs xs
  | [], _, vs, _, hl, _ => by
    obtain rfl := List.length_eq_zero_iff.mp hl
    exact .nil
  | x :: xs, _, [], _, hl, _ => by simp at hl
  | x :: xs, _, v :: vs, r, hl, hj => by
    cases r with
    | @cons _ z _ zs r t =>
      refine .cons ?_ (eachR t (by simpa using hl) fun j u e => by simpa using hj (j + 1) u (by simpa using e))
      obtain ⟨z', e1, e2⟩ := hj 0 v rfl
      obtain rfl : z = z' := Option.some.inj e1
      rw [e2, r.2.1]
theorem each_eq : ∀ {vs : List Value} {xs : List NE}, PySem.W.EachIs (fun (v : Value) (e : NE) => v = Value.ref e.2.1) vs xs → Vals (xs.map fun e => V.ref e.2.1) vs
  | _, _, .nil => .nil
  | _, _, .cons h t => .cons h (each_eq t)
theorem call_nsort {X : Cx} {P : Program} {w : World} {K : PySem.W.Frag} (hcalm : X.calm = true) (hu : X.A.units + 16 < cLine) (eP : X.prog = P := by rfl) (eW : X.w = w := by rfl) (eK : X.K = K := by rfl) : CallR X (.builtin "sorted") (rNSort P w K) := by
  subst eP eW eK
  rintro pins s σ H vs us Q I r ⟨a, xs, ex, nr, hal, hsk, hdp, q⟩
  subst ex
  obtain ⟨u, eu, rx⟩ := vals1 r
  subst eu
  cases rx
  obtain ⟨ys, rel, dd, hn⟩ := nd_raw I nr
  have lo := nr.2.mods
  obtain ⟨o, es, ep, ho, hx, hd, he, his, _⟩ := id dd
  have raw : s.heap.DictRaw a es ep := ⟨o, ho, hx, hd⟩
  have hz : es.size = xs.length := by
    have l1 : es.size = ys.length := size_of_entries he
    have l2 : xs.length = ys.length := Paired.length rel
    omega
  have h16 : es.size ≤ sizeLine := by rw [hz]; exact nr.2.len
  refine Calls.call_function_entry PyProof.Rows.kind_sorted PyProof.Rows.plain_sorted PyProof.Rows.entry_sorted (PyProof.Rows.args_sorted1 _) ?_
  unfold Builtin.«sorted»
  refine wpAny_bind (m := checkCount "sorted" 1 1 _) (wpAny_pure ?_)
  refine wpAny_bind (PySem.W.kdu_collect (A := X.A.in1) (PySem.KdlSrc.rawDict (d := a) (es := es) (ep := ep) lo) (I.ok.hd hcalm) raw h16 fun h' tk acc hk hacc => ?_)
  have hal' : acc.toList.length = xs.length := by rw [Array.length_toList, hacc.1, hz]
  have hS : PySem.W.EachIs (fun (v : Value) (e : NE) => v = Value.ref e.2.1) acc.toList xs := eachR rel hal' fun j v e => by
    obtain ⟨hi, ev⟩ := hacc.2 j v (by rw [← Array.getElem?_toList]; exact e)
    have z := entry_at he j
    rw [Array.getElem?_eq_getElem hi] at z
    cases hy : ys[j]? with
    | none => rw [hy] at z; cases z
    | some y =>
      rw [hy] at z
      have z' := Option.some.inj z
      exact ⟨y, rfl, by rw [ev, z']; rfl⟩
  have I1 : Inv X pins σ H { s with heap := h', toks := tk } := I.kept hk
  refine wpAny_bind (wpAny_newList ?_ (by rw [hal']; exact nr.2.len))
  have hoL : (h'.push (seqObj "list" acc.toList.toArray 0)).get? h'.objs.size = some (seqObj "list" acc.toList.toArray 0) := Heap.get?_push_size _ rfl
  show wpAny _ _ _ _ _ { s with heap := h'.push (seqObj "list" acc.toList.toArray 0), toks := tk }
  have hR : PySem.W.EachIs (fun v (e : NE) => ∃ as, Reads (PySem.W.sortingHeap (h'.push (seqObj "list" acc.toList.toArray 0)) h'.objs.size acc.toList) v e.1.data as) acc.toList xs := (PySem.W.each_mem hS).mono fun v e ⟨hv, hm⟩ => by
    obtain ⟨as, r1⟩ := Dp.reads I1 e.1.data (.ref e.2.1) v (nr.2.keys e hm).1 hv
    refine ⟨as, PyProof.Rows.Reads.keeps (fun b o' e' => ?_) r1⟩
    exact PySem.W.sortingHeap_old (Nat.ne_of_lt (Heap.lt_size e')) (Heap.get?_push_of_some _ e')
  refine wpAny_bind (wpAny_holding (wpAny_call_entry PyProof.Rows.slot_list_sort ⟨_, hoL, rfl⟩ PyProof.Rows.entry_list_sort
    (PySem.W.list_sort_vals (κ := PySem.W.dataKind _ (xs.map fun e => e.1.data)) (s := { s with heap := h'.push (seqObj "list" acc.toList.toArray 0), toks := tk }) hoL
      (PySem.W.SortsAt.data (PySem.W.each_map (R := fun v d => ∃ as, Reads _ v d as) (fun e : NE => e.1.data) hR) hal hsk ?_) (by rw [hal']; exact nr.2.len) ⟨_, rfl, ?_⟩)
    (PyProof.Rows.args_list_sort _)))
  · intro d hd
    obtain ⟨e, he', rfl⟩ := List.mem_map.mp hd
    have := hdp e he'
    show X.A.units + 1 + 1 + _ < cLine
    omega
  have hout := PySem.W.sortVals_data false hS hR hal
  generalize hsv : PySem.W.sortVals (PySem.W.dataKind _ _) false acc.toList acc.toList = out at hout ⊢
  obtain ⟨e', he'⟩ := PyProof.Rows.sortedHeap_at (vs := acc.toList) (out := out.toArray) hoL
  have hlen : ((xs.mergeSort leE).map fun e => V.ref e.2.1).length ≤ sizeLine := by
    rw [List.length_map, List.length_mergeSort]
    exact nr.2.len
  refine wpAny_pure ⟨_, rfl, .ref h'.objs.size, upd H h'.objs.size (.lst ((xs.mergeSort leE).map fun e => V.ref e.2.1)), I1.laid (t' := tk) (fun b u e => ?_) (Nat.le_refl _)
    (show ObjOk X.prog X.w _ _ _ (.lst ((xs.mergeSort leE).map fun e => V.ref e.2.1)) from ⟨hlen, out, e', each_eq hout, he'⟩), rfl, q _ (I1.hok.fresh (Nat.le_refl _))⟩
  have hb : b < h'.objs.size := Heap.lt_size e
  rw [PyProof.Rows.sortedHeap_old (Nat.ne_of_lt hb) (by rw [size_push']; exact Nat.lt_succ_of_lt hb)]
  exact Heap.get?_push_of_some _ e
theorem hu16 {k : Nat} {A : Around} (hr : Room k A) : A.units + 16 < cLine := by
  have := hr.un
  omega
theorem kpi_reversed {X : Cx} {K : PySem.W.Frag} {tg : Expr} {e : Expr} {ta : TA} {p pos : Pos} (hg : Gl X "reversed") (hm : X.mg "reversed" = none) (ha : PA X [e] ta) (hs : starEach [e] X.env = [(false, eval e X.env)] := by rfl) (eK : X.K = K := by rfl) : PI X tg (.Call (.Name "reversed" p) [e] [] pos) (iRev K ta) := by
  subst eK
  exact pi_reversed hg hm ha hs

/-! ## states as keys, tables of states -/
def nkI (l : List Int) : List NK := l.map .num
theorem nkI_datas : ∀ l : List Int, PySem.NestedKey.datas (nkI l) = dints l
  | [] => rfl
  | i :: l => by
    show PyData.int i :: PySem.NestedKey.datas (nkI l) = .int i :: dints l
    rw [nkI_datas l]
def Sta.key (s : Sta) : NK := .tup [.num s.aisle, .tup (nkI s.done), .tup (nkI s.inside), .num s.kept]
theorem Sta.key_data (s : Sta) : s.key.data = s.d := by
  show PyData.tuple [.int s.aisle, .tuple (PySem.NestedKey.datas (nkI s.done)), .tuple (PySem.NestedKey.datas (nkI s.inside)), .int s.kept] = _
  rw [nkI_datas, nkI_datas]
  rfl
theorem nkI_inj : ∀ {l m : List Int}, nkI l = nkI m → l = m
  | [], [], _ => rfl
  | [], _ :: _, e => by simp [nkI] at e
  | _ :: _, [], e => by simp [nkI] at e
  | x :: l, y :: m, e => by
    unfold nkI at e
    rw [List.map_cons, List.map_cons] at e
    injection e with e1 e2
    injection e1 with e1
    rw [e1, nkI_inj e2]
theorem Sta.key_inj {s t : Sta} (e : s.key = t.key) : s = t := by
  unfold Sta.key at e
  injection e with e
  injection e with e1 e
  injection e with e2 e
  injection e with e3 e
  injection e with e4 _
  injection e1 with e1
  injection e2 with e2
  injection e3 with e3
  injection e4 with e4
  cases s
  cases t
  simp only at e1 e2 e3 e4
  rw [e1, nkI_inj e2, nkI_inj e3, e4]
theorem nkI_depth : ∀ l : List Int, PySem.NestedKey.depthAll (nkI l) = 0
  | [] => rfl
  | _ :: l => by
    show max 0 (PySem.NestedKey.depthAll (nkI l)) = 0
    rw [nkI_depth l]
    rfl
theorem Sta.key_depth (s : Sta) : s.key.depth ≤ 8 := by
  show PySem.NestedKey.depth (.tup [.num s.aisle, .tup (nkI s.done), .tup (nkI s.inside), .num s.kept]) ≤ 8
  simp [PySem.NestedKey.depth, PySem.NestedKey.depthAll, nkI_depth]
instance : DecidableEq Sta := fun a b => if h : a.key = b.key then isTrue (Sta.key_inj h) else isFalse fun e => h (by rw [e])
theorem key_iff {s t : Sta} : s.key = t.key ↔ s = t := ⟨Sta.key_inj, fun e => by rw [e]⟩

/-! ### a heap without its changing places -/
def imm (ms : List Addr) (H : Hp) : Hp := fun a => if a ∈ ms then none else H a
section
variable {ms : List Addr} {B H H' : Hp} {a p : Addr} {o : HO} {K : PySem.W.Frag}
theorem imm_at (h : a ∉ ms) : imm ms H a = H a := if_neg h
theorem imm_in (h : a ∈ ms) : imm ms H a = none := if_pos h
theorem imm_sub : Same (imm ms H) H := fun b u e => by
  by_cases hb : b ∈ ms
  · rw [imm_in hb] at e; cases e
  · rw [imm_at hb] at e; exact e
theorem imm_mono (s : Same H H') : Same (imm ms H) (imm ms H') := fun b u e => by
  by_cases hb : b ∈ ms
  · rw [imm_in hb] at e; cases e
  · rw [imm_at hb] at e ⊢; exact s b u e
theorem imm_upd (h : a ∈ ms) : imm ms (upd H a o) = imm ms H := funext fun b => by
  by_cases hb : b ∈ ms
  · rw [imm_in hb, imm_in hb]
  · rw [imm_at hb, imm_at hb, upd_ne (fun e => hb (by rw [e]; exact h))]
theorem imm_keep (s : Same B H) (h : ∀ a ∈ ms, B a = none) : Same B (imm ms H) := fun b u e => by
  have hb : b ∉ ms := fun z => by rw [h b z] at e; cases e
  rw [imm_at hb]
  exact s b u e
theorem imm_add (h : H p = none) : imm (p :: ms) (upd H p o) = imm ms H := funext fun b => by
  by_cases hb : b = p
  · rw [hb, imm_in (by simp)]
    by_cases hp : p ∈ ms
    · rw [imm_in hp]
    · rw [imm_at hp, h]
  · by_cases hm : b ∈ ms
    · rw [imm_in (by simp [hm]), imm_in hm]
    · rw [imm_at (by simp [hb, hm]), imm_at hm, upd_ne hb]
/-- no tuple -/
def NoTup (o : Option HO) : Prop := ∀ xs, o ≠ some (.tup xs) ∧ ∀ ob, o ≠ some (.frz ob (.tup xs))
theorem sqt_imm {xs : List V} (hm : ∀ b ∈ ms, NoTup (H b)) (h : SqT K H a xs) : SqT K (imm ms H) a xs := by
  rcases h with h | h
  · refine .inl ?_
    rcases h with h | ⟨ob, h⟩
    · refine .inl ?_
      rw [imm_at (fun z => (hm a z xs).1 h)]
      exact h
    · refine .inr ⟨ob, ?_⟩
      rw [imm_at (fun z => (hm a z xs).2 ob h)]
      exact h
  · exact .inr h
mutual
theorem dp_imm (hm : ∀ b ∈ ms, NoTup (H b)) : ∀ {v : V} {d : PyData}, Dp K H v d → noL d = true → Dp K (imm ms H) v d
  | _, _, .non, _ => .non
  | _, _, .bl b, _ => .bl b
  | _, _, .int i, _ => .int i
  | _, _, .str x, _ => .str x
  | _, _, .lst _ _, n => by cases n
  | _, _, .tup h r, n => .tup (sqt_imm hm h) (dps_imm hm r n)
theorem dps_imm (hm : ∀ b ∈ ms, NoTup (H b)) : ∀ {vs : List V} {ds : List PyData}, DpAll K H vs ds → noLs ds = true → DpAll K (imm ms H) vs ds
  | _, _, .nil, _ => .nil
  | _, _, .cons h r, n => by
    have n' : (noL _ && noLs _) = true := n
    rw [Bool.and_eq_true] at n'
    exact .cons (dp_imm hm h n'.1) (dps_imm hm r n'.2)
end
theorem notup_lst {xs : List V} (h : H a = some (.lst xs)) : NoTup (H a) := by
  intro ys
  rw [h]
  exact ⟨fun z => (by cases z), fun ob z => (by cases z)⟩
theorem notup_nd {P : Program} {w : World} {es : List NE} (h : H a = some (ndO P w a es)) : NoTup (H a) := by
  intro ys
  rw [h]
  exact ⟨fun z => (by cases z), fun ob z => (by cases z)⟩
end

/-! ### tables -/
def Ent (K : PySem.W.Frag) (B : Hp) (e : NE) (p : Sta × PyData) : Prop := e.1 = p.1.key ∧ Dp K B (.ref e.2.1) p.1.d ∧ Dp K B e.2.2 p.2
abbrev Tab (K : PySem.W.Frag) (B : Hp) : List NE → List (Sta × PyData) → Prop := Paired (Ent K B)
def getM (m : List (Sta × PyData)) (s : Sta) : Option PyData := (m.find? fun x => decide (x.1 = s)).map (·.2)
def putM (m : List (Sta × PyData)) (s : Sta) (d : PyData) : List (Sta × PyData) := if (getM m s).isSome = true then m.map (fun x => if x.1 = s then (s, d) else x) else m ++ [(s, d)]
def RelD (K : PySem.W.Frag) (B : Hp) : Option V → Option PyData → Prop
  | none, none => True
  | some v, some d => Dp K B v d
  | _, _ => False
theorem RelD.some_eq {K : PySem.W.Frag} {B : Hp} {o : Option V} {u : Option PyData} (h : RelD K B o u) : o.isSome = u.isSome := by
  cases o <;> cases u <;> first | rfl | exact h.elim
theorem RelD.of_some {K : PySem.W.Frag} {B : Hp} {o : Option V} {d : PyData} (h : RelD K B o (some d)) : ∃ v, o = some v ∧ Dp K B v d := by
  cases o with
  | none => exact h.elim
  | some v => exact ⟨v, rfl, h⟩
theorem Tab.mono {K : PySem.W.Frag} {B B' : Hp} {es : List NE} {m : List (Sta × PyData)} (s : Same B B') (h : Tab K B es m) : Tab K B' es m := Paired.mapP h fun _ _ z => ⟨z.1, dp_mono s z.2.1, dp_mono s z.2.2⟩
theorem tab_get {K : PySem.W.Frag} {B : Hp} {es : List NE} {m : List (Sta × PyData)} (h : Tab K B es m) (s : Sta) : RelD K B (getE es s.key) (getM m s) := by
  induction h with
  | nil => exact True.intro
  | @cons e p es m he t ih =>
    obtain ⟨h1, _, h2⟩ := he
    by_cases c : p.1 = s
    · have c' : e.1 = s.key := by rw [h1, c]
      have a : getE (e :: es) s.key = some e.2.2 := by simp [getE, List.find?_cons, c']
      have b : getM (p :: m) s = some p.2 := by simp [getM, List.find?_cons, c]
      rw [a, b]
      exact h2
    · have c' : ¬ e.1 = s.key := fun z => c (Sta.key_inj (h1.symm.trans z))
      have a : getE (e :: es) s.key = getE es s.key := by simp [getE, List.find?_cons, c']
      have b : getM (p :: m) s = getM m s := by simp [getM, List.find?_cons, c]
      rw [a, b]
      exact ih
theorem tab_put {K : PySem.W.Frag} {B : Hp} {es : List NE} {m : List (Sta × PyData)} {s : Sta} {b : Addr} {v : V} {d : PyData} (h : Tab K B es m) (hb : Dp K B (.ref b) s.d) (hv : Dp K B v d) : Tab K B (putE es s.key b v) (putM m s d) := by
  have e := (tab_get h s).some_eq
  unfold putE putM
  rw [e]
  by_cases q : (getM m s).isSome = true
  · rw [if_pos q, if_pos q]
    clear e q
    induction h with
    | nil => exact .nil
    | @cons e p es m he t ih =>
      rw [List.map_cons, List.map_cons]
      refine .cons ?_ ih
      obtain ⟨h1, h2, h3⟩ := he
      by_cases c : p.1 = s
      · rw [if_pos c, if_pos (h1.trans (by rw [c]))]
        exact ⟨by rw [← c]; exact h1, by rw [← c]; exact h2, hv⟩
      · rw [if_neg c, if_neg (fun z => c (Sta.key_inj (h1.symm.trans z)))]
        exact ⟨h1, h2, h3⟩
  · rw [if_neg q, if_neg q]
    exact Paired.snoc h ⟨rfl, hb, hv⟩
theorem putM_len {m : List (Sta × PyData)} {s : Sta} {d : PyData} : (putM m s d).length ≤ m.length + 1 := by
  unfold putM
  split
  · rw [List.length_map]; omega
  · rw [List.length_append, List.length_singleton]; omega
/-- a table of states at d, that may be read -/
def TdR (P : Program) (w : World) (K : PySem.W.Frag) (B H : Hp) (d : Addr) (m : List (Sta × PyData)) : Prop := ∃ es, Rd H d (ndO P w d es) ∧ Tab K B es m ∧ m.length ≤ sizeLine ∧ (d == sysModules) = false
/-- .. and written -/
def TdW (P : Program) (w : World) (K : PySem.W.Frag) (B H : Hp) (d : Addr) (m : List (Sta × PyData)) : Prop := ∃ es, H d = some (ndO P w d es) ∧ Tab K B es m ∧ m.length ≤ sizeLine ∧ (d == sysModules) = false
section
variable {P : Program} {w : World} {K : PySem.W.Frag} {B B' H H' : Hp} {d p : Addr} {m : List (Sta × PyData)} {s : Sta} {y v : V} {u : PyData}
theorem TdW.r (h : TdW P w K B H d m) : TdR P w K B H d m := let ⟨es, a, r⟩ := h; ⟨es, .inl a, r⟩
theorem TdR.mono (s1 : Same B B') (s2 : Same H H') (h : TdR P w K B H d m) : TdR P w K B' H' d m := let ⟨es, a, t, r⟩ := h; ⟨es, Same.rd s2 a, t.mono s1, r⟩
theorem TdW.mono (s1 : Same B B') (s2 : Same H H') (h : TdW P w K B H d m) : TdW P w K B' H' d m := let ⟨es, a, t, r⟩ := h; ⟨es, s2 _ _ a, t.mono s1, r⟩
theorem TdW.notup (h : TdW P w K B H d m) : NoTup (H d) := let ⟨_, a, _⟩ := h; notup_nd a
theorem TdW.ne {xs : List V} {a : Addr} (h : TdW P w K B H d m) (g : H a = some (.lst xs)) : a ≠ d := fun e => by
  obtain ⟨es, z, _⟩ := h
  rw [e, z] at g
  cases g
theorem TdW.at_ {H' : Hp} (h : TdW P w K B H d m) (e : H' d = H d) : TdW P w K B H' d m := let ⟨es, a, r⟩ := h; ⟨es, e.trans a, r⟩
theorem td_keys {es : List NE} (R : Same B H) (t : Tab K B es m) (l : m.length ≤ sizeLine) (md : (d == sysModules) = false) : NdKeys K H d es := by
  refine ⟨fun x hx => ?_, by rw [Paired.length t]; exact l, md⟩
  have go : ∀ {l : List NE} {n : List (Sta × PyData)}, Tab K B l n → ∀ x ∈ l, Dp K H (.ref x.2.1) x.1.data ∧ x.1.depth ≤ 8 := by
    intro l n r
    induction r with
    | nil => intro x hx; exact nomatch hx
    | @cons e q es n he t ih =>
      intro x hx
      rcases List.mem_cons.mp hx with c | hx
      · subst c
        rw [he.1, Sta.key_data]
        exact ⟨dp_mono R he.2.1, Sta.key_depth _⟩
      · exact ih x hx
  exact go t x hx
theorem TdR.ndr (h : TdR P w K B H d m) (R : Same B H) : ∃ es, NdR P w K H d es ∧ Tab K B es m := by
  obtain ⟨es, a, t, l, md⟩ := h
  exact ⟨es, ⟨a, td_keys R t l md⟩, t⟩
theorem sta_ref {H : Hp} {s : Sta} (h : Dp K H y s.d) : ∃ b, y = .ref b := let ⟨a, _, e, _⟩ := dp_tup h; ⟨a, e⟩
theorem td_get (h : TdR P w K B H d m) (R : Same B H) (hy : Dp K H y s.d) : ∃ o, NGet P w K H d y o ∧ RelD K B o (getM m s) := by
  obtain ⟨es, nr, t⟩ := h.ndr R
  obtain ⟨b, e⟩ := sta_ref hy
  exact ⟨_, ⟨es, s.key, b, nr, e, by rw [Sta.key_data]; exact hy, Sta.key_depth s, rfl⟩, tab_get t s⟩
theorem td_at (h : TdR P w K B H d m) (R : Same B H) (hy : Dp K H y s.d) (e : getM m s = some u) : ∃ v, NGet P w K H d y (some v) ∧ Dp K B v u := by
  obtain ⟨o, g, r⟩ := td_get h R hy
  rw [e] at r
  obtain ⟨v, rfl, hv⟩ := r.of_some
  exact ⟨v, g, hv⟩
theorem td_put (h : TdW P w K B H d m) (R : Same B H) (hy : Dp K B y s.d) (hv : Dp K B v u) (hl : m.length < sizeLine) : ∃ es, NPut P w K H d y v (upd H d (ndO P w d es)) ∧ TdW P w K B (upd H d (ndO P w d es)) d (putM m s u) := by
  obtain ⟨es', a, t', l', md⟩ := h
  obtain ⟨b, rfl⟩ := sta_ref hy
  refine ⟨putE es' s.key b v, ⟨es', s.key, b, ⟨a, td_keys R t' l' md⟩, rfl, by rw [Sta.key_data]; exact dp_mono R hy, Sta.key_depth s, by rw [Paired.length t']; exact hl, rfl⟩, ⟨_, upd_same, tab_put t' hy hv, Nat.le_trans putM_len hl, md⟩⟩
theorem td_new (h : H p = none) (hs : (p == sysModules) = false) : TdW P w K B (upd H p (ndO P w p [])) p [] := ⟨[], upd_same, .nil, Nat.zero_le _, hs⟩
end

theorem eqv_dints : ∀ l m : List Int, PyData.eqvAll (dints l) (dints m) = decide (l = m)
  | [], [] => rfl
  | [], _ :: _ => rfl
  | _ :: _, [] => rfl
  | x :: l, y :: m => by
    show (PyData.eqv (.int x) (.int y) && PyData.eqvAll (dints l) (dints m)) = _
    rw [eqv_dints l m]
    have e : PyData.eqv (.int x) (.int y) = decide (x = y) := by
      show (x == y) = decide (x = y)
      by_cases h : x = y
      · subst h
        simp
      · simp [h]
    rw [e]
    by_cases h1 : x = y <;> by_cases h2 : l = m <;> simp [h1, h2]
theorem rising_len : ∀ {l : List Int} {lo n : Int}, Rising lo n l → lo ≤ n → (l.length : Int) ≤ n - lo
  | [], lo, n, _, h => by simp; omega
  | i :: l, lo, n, ⟨h1, h2, h3⟩, _ => by
    have := rising_len h3 (by omega)
    rw [List.length_cons]
    omega
theorem rising_full : ∀ {l : List Int} {lo n : Int}, Rising lo n l → (l.length : Int) = n - lo → l = (List.range l.length).map fun i => lo + (i : Nat)
  | [], _, _, _, _ => rfl
  | i :: l, lo, n, ⟨h1, h2, h3⟩, e => by
    have a := rising_len h3 (by omega)
    rw [List.length_cons] at e
    have ei : i = lo := by omega
    subst ei
    have ih := rising_full h3 (by omega)
    rw [List.length_cons, List.range_succ_eq_map, List.map_cons, List.map_map]
    have z : i + ((0 : Nat) : Int) = i := by simp
    rw [z]
    congr 1
    rw [ih]
    refine List.ext_getElem (by simp) fun k h1 h2 => ?_
    simp
    omega
theorem range_iff {S : Sto} {s : Sta} (sk : StaOk S s) : (s.done = (List.range S.wishes.length).map fun i => (0 : Int) + (i : Nat)) ↔ s.done.length = S.wishes.length := by
  refine ⟨fun e => by rw [e]; simp, fun e => ?_⟩
  have h := rising_full sk.done (by omega)
  rw [e] at h
  exact h
section
variable {P : Program} {w : World} {K : PySem.W.Frag} {mg : Str → Option Value} {base : Heap}
def spLawIsEnd (K : PySem.W.Frag) : Sp := fun vs H Q _ => ∃ (v u : V) (S : Sto) (s : Sta), vs = [v, u] ∧ Dp K H v S.d ∧ Dp K H u s.d ∧ StoOk S ∧ StaOk S s ∧ ∀ H', Same H H' → Q (.bl (decide (s.done.length = S.wishes.length) && decide (s.inside.length = 0))) H'
end

/-! ## the states that steps come to, and the least way to an end -/
theorem nodup_len {α : Type} [DecidableEq α] : ∀ {l u : List α}, l.Nodup → (∀ x ∈ l, x ∈ u) → l.length ≤ u.length
  | [], _, _, _ => Nat.zero_le _
  | x :: l, u, hn, h => by
    rw [List.nodup_cons] at hn
    have hx := h x List.mem_cons_self
    have ih := nodup_len (l := l) (u := u.erase x) hn.2 fun y hy => (List.mem_erase_of_ne (fun e => hn.1 (by rw [← e]; exact hy))).mpr (h y (List.mem_cons_of_mem _ hy))
    have e := List.length_erase_of_mem hx
    have p : 0 < u.length := List.length_pos_of_mem hx
    rw [List.length_cons]
    omega
def rises : Nat → Int → List (List Int)
  | 0, _ => [[]]
  | k + 1, lo => rises k (lo + 1) ++ (rises k (lo + 1)).map (lo :: ·)
theorem rises_len : ∀ k lo, (rises k lo).length = 2 ^ k
  | 0, _ => rfl
  | k + 1, lo => by
    show (rises k (lo + 1) ++ (rises k (lo + 1)).map (lo :: ·)).length = _
    rw [List.length_append, List.length_map, rises_len k, Nat.pow_succ]
    omega
theorem rising_up : ∀ {l : List Int} {lo lo' n : Int}, lo' ≤ lo → Rising lo n l → Rising lo' n l
  | [], _, _, _, _, _ => trivial
  | _ :: _, _, _, _, h, ⟨a, b, c⟩ => ⟨by omega, b, c⟩
theorem mem_rises : ∀ {k : Nat} {lo : Int} {l : List Int}, Rising lo (lo + (k : Nat)) l → l ∈ rises k lo
  | 0, lo, [], _ => List.mem_singleton.mpr rfl
  | 0, lo, i :: l, ⟨a, b, _⟩ => by simp at b; omega
  | k + 1, lo, [], _ => List.mem_append_left _ (mem_rises (l := []) trivial)
  | k + 1, lo, i :: l, ⟨a, b, c⟩ => by
    have e : lo + ((k + 1 : Nat) : Int) = lo + 1 + (k : Nat) := by omega
    rw [e] at b c
    by_cases h : i = lo
    · subst h
      exact List.mem_append_right _ (List.mem_map.mpr ⟨l, mem_rises c, rfl⟩)
    · exact List.mem_append_left _ (mem_rises (l := i :: l) ⟨by omega, b, c⟩)
def univ (n m : Nat) : List Sta := (List.range (n + 1)).flatMap fun (a : Nat) => (rises m 0).flatMap fun d => [[], [0], [1], [0, 1]].flatMap fun i => [0, 1, 2, 3].map fun k => (⟨(a : Int), d, i, k⟩ : Sta)
theorem flat_len {α β : Type} {f : α → List β} {c : Nat} : ∀ (l : List α), (∀ x ∈ l, (f x).length = c) → (l.flatMap f).length = l.length * c
  | [], _ => by simp
  | x :: l, h => by
    rw [List.flatMap_cons, List.length_append, h x List.mem_cons_self, flat_len l fun y hy => h y (List.mem_cons_of_mem _ hy), List.length_cons, Nat.succ_mul]
    omega
theorem univ_len (n m : Nat) : (univ n m).length = (n + 1) * (2 ^ m * 16) := by
  unfold univ
  rw [flat_len (c := 2 ^ m * 16), List.length_range]
  intro a _
  rw [flat_len (c := 16), rises_len]
  intro d _
  rfl
theorem univ_few {S : Sto} (ok : StoOk S) : (univ S.shelves.length S.wishes.length).length ≤ 3072 := by
  rw [univ_len]
  have h1 : S.shelves.length + 1 ≤ 6 := by have := ok.n5; omega
  have h2 : 2 ^ S.wishes.length ≤ 2 ^ 5 := Nat.pow_le_pow_right (by decide) ok.w5
  have h3 : 2 ^ S.wishes.length * 16 ≤ 512 := by omega
  exact Nat.le_trans (Nat.mul_le_mul h1 h3) (by decide)
theorem mem_univ {S : Sto} {s : Sta} (h : StaOk S s) : s ∈ univ S.shelves.length S.wishes.length := by
  have a0 := h.a0
  have a1 := h.a1
  have k0 := h.k0
  have k3 := h.k3
  refine List.mem_flatMap.mpr ⟨s.aisle.toNat, List.mem_range.mpr (by omega), List.mem_flatMap.mpr ⟨s.done, mem_rises (by rw [Int.zero_add]; exact h.done), List.mem_flatMap.mpr ⟨s.inside, ?_, List.mem_map.mpr ⟨s.kept, ?_, ?_⟩⟩⟩⟩
  · rcases h.inside with e | e | e | e <;> rw [e] <;> simp
  · have : s.kept = 0 ∨ s.kept = 1 ∨ s.kept = 2 ∨ s.kept = 3 := by omega
    rcases this with e | e | e | e <;> rw [e] <;> simp
  · cases s
    simp only [Sta.mk.injEq, and_true]
    simp only at a0
    omega
def isEndS (S : Sto) (s : Sta) : Bool := decide (s.done.length = S.wishes.length) && decide (s.inside.length = 0)
def shiftsT : Stp → Nat
  | .shift _ => 1
  | _ => 0
def nextsS (S : Sto) (s : Sta) : List Sta := (openSteps S s).map (behindS S s)
def pairT (S : Sto) (s : Sta) (t : Stp) : PyData := .tuple [t.d, (behindS S s t).d]
def dnext (S : Sto) (s : Sta) : PyData := .list ((openSteps S s).map (pairT S s))
def addNew (found : List Sta) (t : Sta) : List Sta := if t ∈ found then found else found ++ [t]
/-- a plan from s on: steps, each open where it is taken -/
structure Way (S : Sto) (s : Sta) (ts : List Stp) (t : Sta) : Prop where
  ok : ∀ x ∈ ts, StpOk S.wishes.length x
  op : OpenPlan S s ts
  run : runS S s ts = t
theorem Way.nil {S : Sto} {s : Sta} : Way S s [] s := ⟨fun _ h => (nomatch h), trivial, rfl⟩
theorem open_ok {S : Sto} {s : Sta} {t : Stp} (h : t ∈ openSteps S s) : StpOk S.wishes.length t ∧ bar S s t = none := by
  obtain ⟨h1, h2⟩ := List.mem_filter.mp h
  exact ⟨allSteps_ok h1, Option.isNone_iff_eq_none.mp h2⟩
theorem open_of {S : Sto} {s : Sta} {t : Stp} (h1 : StpOk S.wishes.length t) (h2 : bar S s t = none) : t ∈ openSteps S s := List.mem_filter.mpr ⟨mem_allSteps h1, by rw [h2]; rfl⟩
theorem Way.cons {S : Sto} {s u : Sta} {t : Stp} {ts : List Stp} (h : t ∈ openSteps S s) (w : Way S (behindS S s t) ts u) : Way S s (t :: ts) u := by
  obtain ⟨h1, h2⟩ := open_ok h
  refine ⟨fun x hx => ?_, ⟨h2, w.op⟩, w.run⟩
  rcases List.mem_cons.mp hx with e | hx
  · rw [e]; exact h1
  · exact w.ok x hx
theorem Way.snoc {S : Sto} {s u : Sta} {t : Stp} {ts : List Stp} (w : Way S s ts u) (h : t ∈ openSteps S u) : Way S s (ts ++ [t]) (behindS S u t) := by
  obtain ⟨h1, h2⟩ := open_ok h
  refine ⟨fun x hx => ?_, OpenPlan.snoc w.op (by rw [w.run]; exact h2), by rw [runS_snoc, w.run]⟩
  rcases List.mem_append.mp hx with hx | hx
  · exact w.ok x hx
  · rw [List.mem_singleton.mp hx]; exact h1
theorem sta_run {S : Sto} (ok : StoOk S) : ∀ {ts : List Stp} {s : Sta}, StaOk S s → OpenPlan S s ts → (∀ t ∈ ts, StpOk S.wishes.length t) → StaOk S (runS S s ts)
  | [], _, h, _, _ => h
  | t :: ts, _, h, op, tk => sta_run (ts := ts) ok (h.step ok (tk t List.mem_cons_self) op.1) op.2 fun x hx => tk x (List.mem_cons_of_mem _ hx)
theorem Way.sta {S : Sto} {s u : Sta} {ts : List Stp} (ok : StoOk S) (w : Way S s ts u) (h : StaOk S s) : StaOk S u := by
  rw [← w.run]
  exact sta_run ok h w.op w.ok
/-- what is found so far; the first i have been looked at -/
structure Found (S : Sto) (s0 : Sta) (fo : List Sta) (i : Nat) : Prop where
  nd : fo.Nodup
  hd : s0 ∈ fo
  way : ∀ s ∈ fo, ∃ ts, Way S s0 ts s
  cl : ∀ s ∈ fo.take i, ∀ t ∈ openSteps S s, behindS S s t ∈ fo
theorem Found.len {S : Sto} {s0 : Sta} {fo : List Sta} {i : Nat} (F : Found S s0 fo i) (ok : StoOk S) (h0 : StaOk S s0) : fo.length ≤ 3072 :=
  Nat.le_trans (nodup_len F.nd fun s hs => mem_univ (let ⟨_, w⟩ := F.way s hs; w.sta ok h0)) (univ_few ok)
theorem Found.start {S : Sto} {s0 : Sta} : Found S s0 [s0] 0 := ⟨by simp, List.mem_singleton.mpr rfl, fun s hs => by rw [List.mem_singleton.mp hs]; exact ⟨[], .nil⟩, fun s hs => (nomatch hs)⟩
theorem mem_addNew {fo : List Sta} {t x : Sta} : x ∈ addNew fo t ↔ x ∈ fo ∨ x = t := by
  unfold addNew
  split
  · rename_i h
    exact ⟨.inl, fun z => z.elim id fun e => by rw [e]; exact h⟩
  · rw [List.mem_append, List.mem_singleton]
theorem addNew_nd {fo : List Sta} {t : Sta} (h : fo.Nodup) : (addNew fo t).Nodup := by
  unfold addNew
  split
  · exact h
  · rename_i n
    rw [List.nodup_append]
    refine ⟨h, by simp, fun x hx y hy => ?_⟩
    rw [List.mem_singleton.mp hy]
    exact fun e => n (by rw [← e]; exact hx)
theorem addNew_take {fo : List Sta} {t : Sta} {i : Nat} (h : i ≤ fo.length) : (addNew fo t).take i = fo.take i := by
  unfold addNew
  split
  · rfl
  · rw [List.take_append_of_le_length h]
theorem addNew_len {fo : List Sta} {t : Sta} : fo.length ≤ (addNew fo t).length := by
  unfold addNew
  split
  · exact Nat.le_refl _
  · rw [List.length_append]; omega
/-- the j-th next state of the i-th found is looked at -/
theorem Found.add {S : Sto} {s0 s : Sta} {fo : List Sta} {i : Nat} {t : Stp} (F : Found S s0 fo i) (hi : i ≤ fo.length) (hs : s ∈ fo) (ht : t ∈ openSteps S s) : Found S s0 (addNew fo (behindS S s t)) i := by
  refine ⟨addNew_nd F.nd, mem_addNew.mpr (.inl F.hd), fun x hx => ?_, fun x hx y hy => ?_⟩
  · rcases mem_addNew.mp hx with hx | hx
    · exact F.way x hx
    · obtain ⟨ts, w⟩ := F.way s hs
      rw [hx]
      exact ⟨_, w.snoc ht⟩
  · rw [addNew_take hi] at hx
    exact mem_addNew.mpr (.inl (F.cl x hx y hy))
theorem Found.next {S : Sto} {s0 s : Sta} {fo : List Sta} {i : Nat} (F : Found S s0 fo i) (hs : fo[i]? = some s) (h : ∀ t ∈ openSteps S s, behindS S s t ∈ fo) : Found S s0 fo (i + 1) := by
  refine ⟨F.nd, F.hd, F.way, fun x hx y hy => ?_⟩
  rw [List.take_succ, hs] at hx
  rcases List.mem_append.mp hx with hx | hx
  · exact F.cl x hx y hy
  · have e : x = s := by simpa using hx
    subst e
    exact h y hy
/-! ### the values -/
abbrev Val := Sta → Option (Nat × Nat)
def dval : Option (Nat × Nat) → PyData
  | none => .none
  | some (a, b) => .tuple [.int (a : Int), .int (b : Int)]
def setv (v : Val) (s : Sta) (x : Option (Nat × Nat)) : Val := fun t => if t = s then x else v t
def ltp (x y : Nat × Nat) : Prop := x.1 < y.1 ∨ (x.1 = y.1 ∧ x.2 < y.2)
instance (x y : Nat × Nat) : Decidable (ltp x y) := inferInstanceAs (Decidable (_ ∨ _))
def moreT (x : Nat × Nat) (t : Stp) : Nat × Nat := (x.1 + shiftsT t, x.2 + 1)
def upd1 (S : Sto) (s : Sta) (vg : Val × Bool) (t : Stp) : Val × Bool :=
  match vg.1 (behindS S s t) with
  | none => vg
  | some o => match vg.1 s with
    | none => (setv vg.1 s (some (moreT o t)), true)
    | some c => if ltp (moreT o t) c then (setv vg.1 s (some (moreT o t)), true) else vg
def sweepS (S : Sto) (vg : Val × Bool) (s : Sta) : Val × Bool := (openSteps S s).foldl (upd1 S s) vg
def sweep (S : Sto) (l : List Sta) (vg : Val × Bool) : Val × Bool := l.foldl (sweepS S) vg
def Halts (S : Sto) (l : List Sta) : Nat → Val × Bool → Prop
  | _, (_, false) => True
  | 0, (_, true) => False
  | m + 1, (v, true) => Halts S l m (sweep S l (v, false))
/-! ### the sweeps end -/
def ltv : Option (Nat × Nat) → Option (Nat × Nat) → Prop
  | some _, none => True
  | some x, some y => ltp x y
  | _, _ => False
theorem ltp_acc : ∀ x : Nat × Nat, _root_.Acc ltp x := by
  have h : ∀ a : Nat, (∀ a', a' < a → ∀ b, _root_.Acc ltp (a', b)) → ∀ b, _root_.Acc ltp (a, b) := fun a ih b => by
    induction b using Nat.strongRecOn with
    | ind b ihb =>
      refine ⟨_, fun y hy => ?_⟩
      obtain ⟨y1, y2⟩ := y
      rcases hy with hy | ⟨e, hy⟩
      · exact ih y1 hy y2
      · have e' : y1 = a := e
        subst e'
        exact ihb y2 hy
  have g : ∀ a : Nat, ∀ b, _root_.Acc ltp (a, b) := fun a => by
    induction a using Nat.strongRecOn with
    | ind a ih => exact h a ih
  exact fun x => g x.1 x.2
theorem ltv_acc : ∀ x, _root_.Acc ltv x := by
  have h : ∀ x, _root_.Acc ltv (some x) := fun x => by
    have a := ltp_acc x
    induction a with
    | intro x _ ih =>
      refine ⟨_, fun y hy => ?_⟩
      cases y with
      | none => exact hy.elim
      | some y => exact ih y hy
  intro x
  cases x with
  | some x => exact h x
  | none =>
    refine ⟨_, fun y hy => ?_⟩
    cases y with
    | none => exact hy.elim
    | some y => exact h y
def leL : List (Option (Nat × Nat)) → List (Option (Nat × Nat)) → Prop
  | [], [] => True
  | a :: l, b :: m => (a = b ∨ ltv a b) ∧ leL l m
  | _, _ => False
def ltL : List (Option (Nat × Nat)) → List (Option (Nat × Nat)) → Prop
  | a :: l, b :: m => (ltv a b ∧ leL l m) ∨ (a = b ∧ ltL l m)
  | _, _ => False
theorem leL_cases : ∀ {l m : List (Option (Nat × Nat))}, leL l m → l = m ∨ ltL l m
  | [], [], _ => .inl rfl
  | a :: l, b :: m, ⟨h, t⟩ => by
    rcases h with h | h
    · rcases leL_cases t with e | e
      · exact .inl (by rw [h, e])
      · exact .inr (.inr ⟨h, e⟩)
    · exact .inr (.inl ⟨h, t⟩)
theorem ltL_cons {b : Option (Nat × Nat)} (ab : _root_.Acc ltv b) : ∀ {m : List (Option (Nat × Nat))}, _root_.Acc ltL m → _root_.Acc ltL (b :: m) := by
  induction ab with
  | intro b _ ihb =>
    intro m am
    induction am with
    | intro m hm ihm =>
      refine ⟨_, fun y hy => ?_⟩
      cases y with
      | nil => exact hy.elim
      | cons a l =>
        rcases hy with ⟨h1, h2⟩ | ⟨h1, h2⟩
        · refine ihb a h1 ?_
          rcases leL_cases h2 with e | e
          · rw [e]; exact ⟨_, hm⟩
          · exact hm l e
        · rw [h1]; exact ihm l h2
theorem ltL_acc : ∀ l : List (Option (Nat × Nat)), _root_.Acc ltL l
  | [] => ⟨_, fun y hy => by cases y <;> exact hy.elim⟩
  | b :: m => ltL_cons (ltv_acc b) (ltL_acc m)
theorem ltp_tr {x y z : Nat × Nat} (h : ltp x y) (g : ltp y z) : ltp x z := by
  unfold ltp at *
  omega
theorem ltv_tr {x y z : Option (Nat × Nat)} (h : ltv x y) (g : ltv y z) : ltv x z := by
  cases x with
  | none => cases y <;> exact h.elim
  | some x =>
    cases z with
    | none => trivial
    | some z =>
      cases y with
      | none => exact g.elim
      | some y => exact ltp_tr (x := x) (y := y) (z := z) h g
def LeV (v' v : Val) : Prop := ∀ s, v' s = v s ∨ ltv (v' s) (v s)
theorem LeV.refl (v : Val) : LeV v v := fun _ => .inl rfl
theorem LeV.trans {a b c : Val} (h : LeV a b) (g : LeV b c) : LeV a c := fun s => by
  rcases h s with e | e
  · rw [e]; exact g s
  · rcases g s with e2 | e2
    · exact .inr (by rw [← e2]; exact e)
    · exact .inr (ltv_tr e e2)
def LtV (l : List Sta) (v' v : Val) : Prop := LeV v' v ∧ ∃ s ∈ l, ltv (v' s) (v s)
theorem LtV.le {l : List Sta} {a b c : Val} (h : LtV l a b) (g : LeV b c) : LtV l a c := ⟨h.1.trans g, let ⟨s, m, e⟩ := h.2; ⟨s, m, (g s).elim (fun z => by rw [← z]; exact e) fun z => ltv_tr e z⟩⟩
theorem LeV.lt {l : List Sta} {a b c : Val} (h : LeV a b) (g : LtV l b c) : LtV l a c := ⟨h.trans g.1, let ⟨s, m, e⟩ := g.2; ⟨s, m, (h s).elim (fun z => by rw [z]; exact e) fun z => ltv_tr z e⟩⟩
theorem leL_map {v' v : Val} (h : LeV v' v) : ∀ l : List Sta, leL (l.map v') (l.map v)
  | [] => trivial
  | s :: l => ⟨h s, leL_map h l⟩
theorem ltL_map {v' v : Val} (h : LeV v' v) : ∀ {l : List Sta}, (∃ s ∈ l, ltv (v' s) (v s)) → ltL (l.map v') (l.map v)
  | [], ⟨_, m, _⟩ => (nomatch m)
  | s :: l, ⟨t, m, e⟩ => by
    rcases List.mem_cons.mp m with z | m
    · rw [z] at e
      exact .inl ⟨e, leL_map h l⟩
    · have ih := ltL_map h ⟨t, m, e⟩
      rcases h s with z | z
      · exact .inr ⟨z, ih⟩
      · exact .inl ⟨z, leL_map h l⟩
/-- what a turn does to the values and the flag -/
structure Turns (l : List Sta) (a b : Val × Bool) : Prop where
  le : LeV b.1 a.1
  no : b.2 = false → b = a
  yes : b.2 = true → a.2 = true ∨ LtV l b.1 a.1
theorem Turns.refl (l : List Sta) (a : Val × Bool) : Turns l a a := ⟨LeV.refl _, fun _ => rfl, fun h => .inl h⟩
theorem Turns.trans {l : List Sta} {a b c : Val × Bool} (h : Turns l a b) (g : Turns l b c) : Turns l a c := by
  refine ⟨g.le.trans h.le, fun e => ?_, fun e => ?_⟩
  · have e1 := g.no e
    subst e1
    exact h.no e
  · rcases g.yes e with e | e
    · rcases h.yes e with e | e
      · exact .inl e
      · exact .inr (g.le.lt e)
    · exact .inr (e.le h.le)
theorem setv_le {v : Val} {s : Sta} {x : Nat × Nat} (h : ltv (some x) (v s)) : LeV (setv v s (some x)) v := fun t => by
  unfold setv
  by_cases e : t = s
  · rw [if_pos e, e]; exact .inr h
  · rw [if_neg e]; exact .inl rfl
theorem setv_at {v : Val} {s : Sta} {x : Option (Nat × Nat)} : setv v s x s = x := if_pos rfl
theorem upd1_cases (S : Sto) (s : Sta) (vg : Val × Bool) (t : Stp) : upd1 S s vg t = vg ∨ ∃ o, vg.1 (behindS S s t) = some o ∧ upd1 S s vg t = (setv vg.1 s (some (moreT o t)), true) ∧ ltv (some (moreT o t)) (vg.1 s) := by
  unfold upd1
  cases h1 : vg.1 (behindS S s t) with
  | none => exact .inl rfl
  | some o =>
    cases h2 : vg.1 s with
    | none => exact .inr ⟨o, rfl, rfl, trivial⟩
    | some c =>
      show (if ltp (moreT o t) c then _ else _) = _ ∨ _
      by_cases h3 : ltp (moreT o t) c
      · refine .inr ⟨o, rfl, ?_, h3⟩
        show (if ltp (moreT o t) c then _ else _) = _
        rw [if_pos h3]
      · exact .inl (if_neg h3)
theorem upd1_turns {S : Sto} {l : List Sta} {s : Sta} (hs : s ∈ l) (vg : Val × Bool) (t : Stp) : Turns l vg (upd1 S s vg t) := by
  rcases upd1_cases S s vg t with e | ⟨o, h1, e, h2⟩
  · rw [e]; exact Turns.refl l vg
  · rw [e]
    refine ⟨setv_le h2, fun z => (by cases z), fun _ => .inr ⟨setv_le h2, s, hs, ?_⟩⟩
    show ltv (setv vg.1 s (some (moreT o t)) s) (vg.1 s)
    rw [setv_at]
    exact h2
theorem fold_turns {α : Type} {l : List Sta} {f : Val × Bool → α → Val × Bool} : ∀ (xs : List α) (vg : Val × Bool), (∀ x ∈ xs, ∀ a, Turns l a (f a x)) → Turns l vg (xs.foldl f vg)
  | [], vg, _ => Turns.refl l vg
  | x :: xs, vg, h => (h x List.mem_cons_self vg).trans (fold_turns xs (f vg x) fun y hy => h y (List.mem_cons_of_mem _ hy))
theorem sweepS_turns {S : Sto} {l : List Sta} {s : Sta} (hs : s ∈ l) (vg : Val × Bool) : Turns l vg (sweepS S vg s) := fold_turns _ _ fun t _ a => upd1_turns hs a t
theorem sweep_turns {S : Sto} {l xs : List Sta} (h : ∀ s ∈ xs, s ∈ l) (vg : Val × Bool) : Turns l vg (sweep S xs vg) := fold_turns _ _ fun s hs a => sweepS_turns (h s hs) a
theorem halts {S : Sto} {l : List Sta} (v : Val) : ∃ m, Halts S l m (v, true) := by
  have a := ltL_acc (l.map v)
  generalize hx : l.map v = x at a
  induction a generalizing v with
  | intro x _ ih =>
    have T := sweep_turns (S := S) (l := l) (xs := l) (fun s hs => hs) (v, false)
    cases hf : (sweep S l (v, false)).2 with
    | false =>
      refine ⟨1, ?_⟩
      show Halts S l 0 (sweep S l (v, false))
      have e := T.no hf
      rw [e]
      trivial
    | true =>
      obtain ⟨m, hm⟩ := ih _ (by
        rcases T.yes hf with e | e
        · cases e
        · rw [← hx]
          exact ltL_map e.1 e.2) _ rfl
      refine ⟨m + 1, ?_⟩
      show Halts S l m (sweep S l (v, false))
      have e : sweep S l (v, false) = ((sweep S l (v, false)).1, true) := by rw [← hf]
      rw [e]
      exact hm
/-! ### what the values tell -/
def costP (ts : List Stp) : Nat × Nat := ((ts.map shiftsT).sum, ts.length)
def Valid (S : Sto) (v : Val) : Prop := ∀ s x, v s = some x → ∃ ts u, Way S s ts u ∧ isEndS S u = true ∧ costP ts = x
theorem Valid.upd {S : Sto} {v : Val} {s : Sta} {t : Stp} {o : Nat × Nat} (h : Valid S v) (ht : t ∈ openSteps S s) (ho : v (behindS S s t) = some o) : Valid S (setv v s (some (moreT o t))) := fun a x e => by
  unfold setv at e
  by_cases c : a = s
  · rw [if_pos c] at e
    obtain ⟨ts, u, w, en, hc⟩ := h _ _ ho
    subst c
    refine ⟨t :: ts, u, Way.cons ht w, en, ?_⟩
    rw [← Option.some.inj e, ← hc]
    unfold costP moreT
    simp
    omega
  · rw [if_neg c] at e
    exact h a x e
theorem Valid.upd1 {S : Sto} {vg : Val × Bool} {s : Sta} {t : Stp} (h : Valid S vg.1) (ht : t ∈ openSteps S s) : Valid S (upd1 S s vg t).1 := by
  rcases upd1_cases S s vg t with e | ⟨o, h1, e, h2⟩
  · rw [e]; exact h
  · rw [e]; exact h.upd ht h1
def NoGain (S : Sto) (v : Val) (s : Sta) : Prop := ∀ t ∈ openSteps S s, ∀ o, v (behindS S s t) = some o → ∃ c, v s = some c ∧ ¬ ltp (moreT o t) c
theorem fold_no {α : Type} {l : List Sta} {f : Val × Bool → α → Val × Bool} : ∀ (xs : List α) (v : Val), (∀ x ∈ xs, ∀ a, Turns l a (f a x)) → (xs.foldl f (v, false)).2 = false → ∀ x ∈ xs, f (v, false) x = (v, false)
  | [], _, _, _, _, hx => (nomatch hx)
  | y :: xs, v, h, e, x, hx => by
    have T := fold_turns xs (f (v, false) y) fun z hz => h z (List.mem_cons_of_mem _ hz)
    have e0 := T.no e
    have T1 := h y List.mem_cons_self (v, false)
    have e1 : f (v, false) y = (v, false) := T1.no (by rw [← e0]; exact e)
    rcases List.mem_cons.mp hx with z | hx
    · rw [z]; exact e1
    · refine fold_no xs v (fun z hz => h z (List.mem_cons_of_mem _ hz)) ?_ x hx
      have e2 : (xs.foldl f (f (v, false) y)).2 = false := e
      rw [e1] at e2
      exact e2
theorem noGain_of {S : Sto} {l : List Sta} {v : Val} (h : (sweep S l (v, false)).2 = false) : ∀ s ∈ l, NoGain S v s := fun s hs t ht o ho => by
  have e1 := fold_no (l := l) l v (fun x hx a => sweepS_turns hx a) h s hs
  have e2 := fold_no (l := l) (f := upd1 S s) (openSteps S s) v (fun x _ a => upd1_turns hs a x) (by
    have : (sweepS S (v, false) s).2 = false := by rw [e1]
    exact this) t ht
  rcases upd1_cases S s (v, false) t with _ | ⟨o', h1, e, _⟩
  · unfold Ais.upd1 at e2
    have ho' : (v, false).1 (behindS S s t) = some o := ho
    rw [ho'] at e2
    cases hv : v s with
    | none =>
      have hv' : (v, false).1 s = none := hv
      rw [hv'] at e2
      exact absurd (congrArg Prod.snd e2) (by simp)
    | some c =>
      have hv' : (v, false).1 s = some c := hv
      rw [hv'] at e2
      refine ⟨c, rfl, fun z => ?_⟩
      have e3 : (if ltp (moreT o t) c then (setv (v, false).1 s (some (moreT o t)), true) else (v, false)) = (v, false) := e2
      rw [if_pos z] at e3
      exact absurd (congrArg Prod.snd e3) (by simp)
  · rw [e] at e2
    exact absurd (congrArg Prod.snd e2) (by simp)

theorem size4 {n : Nat} (h : n ≤ 4000) : n < sizeLine := by
  rw [sizeLine_eq]
  omega
/-- changing places, none of them a tuple's -/
def Mu (ms : List Addr) (H : Hp) : Prop := ∀ b ∈ ms, ∃ u, H b = some u ∧ NoTup (some u)
theorem Mu.no {ms : List Addr} {H : Hp} (h : Mu ms H) : ∀ b ∈ ms, NoTup (H b) := fun b hb => by
  obtain ⟨u, e, n⟩ := h b hb
  rw [e]
  exact n
theorem Mu.mono {ms : List Addr} {H H' : Hp} (s : Same H H') (h : Mu ms H) : Mu ms H' := fun b hb => let ⟨u, e, n⟩ := h b hb; ⟨u, s _ _ e, n⟩
theorem Mu.new {ms : List Addr} {H : Hp} {p : Addr} (h : Mu ms H) (np : H p = none) : p ∉ ms := fun z => by
  obtain ⟨u, e, _⟩ := h p z
  rw [np] at e
  cases e
theorem nt_lst {xs : List V} : NoTup (some (.lst xs)) := fun _ => ⟨fun z => (by cases z), fun _ z => (by cases z)⟩
theorem nt_nd {P : Program} {w : World} {d : Addr} {es : List NE} : NoTup (some (ndO P w d es)) := fun _ => ⟨fun z => (by cases z), fun _ z => (by cases z)⟩
theorem Mu.lst {ms : List Addr} {H : Hp} {p : Addr} {xs : List V} (h : Mu ms H) (np : H p = some (.lst xs)) : Mu (p :: ms) H := fun b hb => by
  rcases List.mem_cons.mp hb with e | hb
  · rw [e]; exact ⟨_, np, nt_lst⟩
  · exact h b hb
theorem imm_cons {p : Addr} {ms : List Addr} {H : Hp} : Same (imm (p :: ms) H) (imm ms H) := fun b u e => by
  by_cases hb : b ∈ p :: ms
  · rw [imm_in hb] at e; cases e
  · rw [imm_at hb] at e
    rw [imm_at (fun z => hb (List.mem_cons_of_mem _ z))]
    exact e
/-- a list that grows beside changing places -/
structure AcqM (K : PySem.W.Frag) (ms : List Addr) (H1 H : Hp) (D : Addr) (us : List V) (ds : List PyData) : Prop where
  s : Same H1 (imm [D] H)
  el : H D = some (.lst us)
  dx : DpAll K (imm (D :: ms) H) us ds
section
variable {K : PySem.W.Frag} {ms : List Addr} {H1 H H' : Hp} {D : Addr} {us : List V} {ds : List PyData} {v : V} {d : PyData}
theorem AcqM.start (h : H1 D = none) : AcqM K ms H1 (upd H1 D (.lst [])) D [] [] := ⟨by
  rw [imm_upd (by simp)]
  exact imm_keep (Same.refl _) fun a ha => by rw [List.mem_singleton.mp ha]; exact h, upd_same, .nil⟩
theorem AcqM.pure (A : AcqM K ms H1 H D us ds) (s : Same H H') : AcqM K ms H1 H' D us ds := ⟨A.s.trans (imm_mono s), s _ _ A.el, dps_mono (imm_mono s) A.dx⟩
theorem AcqM.app (A : AcqM K ms H1 H D us ds) (h : Dp K (imm (D :: ms) H) v d) : AcqM K ms H1 (upd H D (.lst (us ++ [v]))) D (us ++ [v]) (ds ++ [d]) := ⟨by rw [imm_upd (by simp)]; exact A.s, upd_same, by
  rw [imm_upd (by simp)]
  exact dps_app A.dx (.cons h .nil)⟩
theorem AcqM.same (A : AcqM K ms H1 H D us ds) : Same H1 H := A.s.trans imm_sub
theorem AcqM.mu (A : AcqM K ms H1 H D us ds) (m : Mu ms H1) : Mu (D :: ms) H := (m.mono A.same).lst A.el
theorem AcqM.end_ (A : AcqM K ms H1 H D us ds) (m : Mu ms H1) (nD : H1 D = none) : Dp K (imm ms H) (.ref D) (.list ds) := .lst (SqL.of (by rw [imm_at (m.new nD)]; exact A.el)) (dps_mono imm_cons A.dx)
end
/-- where the table stands -/
structure TS (P : Program) (w : World) (K : PySem.W.Frag) (H0 H : Hp) (F Bd N : Addr) (fo : List Sta) (m nm : List (Sta × PyData)) (xs : List V) : Prop where
  base : Same H0 (imm [F, Bd, N] H)
  f : H F = some (.lst xs)
  dx : DpAll K (imm [F, Bd, N] H) xs (dstates fo)
  b : TdW P w K (imm [F, Bd, N] H) H Bd m
  n : TdW P w K (imm [F, Bd, N] H) H N nm
  ne : Bd ≠ N
section
variable {P : Program} {w : World} {K : PySem.W.Frag} {H0 H H' : Hp} {F Bd N p : Addr} {fo : List Sta} {m nm : List (Sta × PyData)} {xs : List V} {s : Sta} {y v : V} {u : PyData}
theorem TS.pure (A : TS P w K H0 H F Bd N fo m nm xs) (s : Same H H') : TS P w K H0 H' F Bd N fo m nm xs :=
  ⟨A.base.trans (imm_mono s), s _ _ A.f, dps_mono (imm_mono s) A.dx, A.b.mono (imm_mono s) s, A.n.mono (imm_mono s) s, A.ne⟩
theorem TS.mu (A : TS P w K H0 H F Bd N fo m nm xs) : Mu [F, Bd, N] H := fun b hb => by
  obtain ⟨es, e1, _⟩ := A.b
  obtain ⟨es2, e2, _⟩ := A.n
  simp only [List.mem_cons, List.not_mem_nil, or_false] at hb
  rcases hb with rfl | rfl | rfl
  · exact ⟨_, A.f, nt_lst⟩
  · exact ⟨_, e1, nt_nd⟩
  · exact ⟨_, e2, nt_nd⟩
theorem TS.fb (A : TS P w K H0 H F Bd N fo m nm xs) : F ≠ Bd := A.b.ne A.f
theorem TS.fn (A : TS P w K H0 H F Bd N fo m nm xs) : F ≠ N := A.n.ne A.f
theorem TS.len (A : TS P w K H0 H F Bd N fo m nm xs) : xs.length = fo.length := (dps_len A.dx).trans (List.length_map ..)
theorem TS.putb (A : TS P w K H0 H F Bd N fo m nm xs) (hy : Dp K (imm [F, Bd, N] H) y s.d) (hv : Dp K (imm [F, Bd, N] H) v u) (hl : m.length < sizeLine) :
    ∃ H', NPut P w K H Bd y v H' ∧ TS P w K H0 H' F Bd N fo (putM m s u) nm xs ∧ imm [F, Bd, N] H' = imm [F, Bd, N] H := by
  obtain ⟨es, h1, h2⟩ := td_put A.b imm_sub hy hv hl
  have e : imm [F, Bd, N] (upd H Bd (ndO P w Bd es)) = imm [F, Bd, N] H := imm_upd (by simp)
  refine ⟨_, h1, ⟨by rw [e]; exact A.base, by rw [upd_ne A.fb]; exact A.f, by rw [e]; exact A.dx, by rw [e]; exact h2, ?_, A.ne⟩, e⟩
  rw [e]
  exact A.n.at_ (upd_ne (Ne.symm A.ne))
theorem TS.putn (A : TS P w K H0 H F Bd N fo m nm xs) (hy : Dp K (imm [F, Bd, N] H) y s.d) (hv : Dp K (imm [F, Bd, N] H) v u) (hl : nm.length < sizeLine) :
    ∃ H', NPut P w K H N y v H' ∧ TS P w K H0 H' F Bd N fo m (putM nm s u) xs ∧ imm [F, Bd, N] H' = imm [F, Bd, N] H := by
  obtain ⟨es, h1, h2⟩ := td_put A.n imm_sub hy hv hl
  have e : imm [F, Bd, N] (upd H N (ndO P w N es)) = imm [F, Bd, N] H := imm_upd (by simp)
  refine ⟨_, h1, ⟨by rw [e]; exact A.base, by rw [upd_ne A.fn]; exact A.f, by rw [e]; exact A.dx, ?_, by rw [e]; exact h2, A.ne⟩, e⟩
  rw [e]
  exact A.b.at_ (upd_ne A.ne)
theorem TS.app (A : TS P w K H0 H F Bd N fo m nm xs) (hv : Dp K (imm [F, Bd, N] H) v s.d) : TS P w K H0 (upd H F (.lst (xs ++ [v]))) F Bd N (fo ++ [s]) m nm (xs ++ [v]) := by
  have e : imm [F, Bd, N] (upd H F (.lst (xs ++ [v]))) = imm [F, Bd, N] H := imm_upd (by simp)
  refine ⟨by rw [e]; exact A.base, upd_same, ?_, ?_, ?_, A.ne⟩
  · rw [e]
    have z : dstates (fo ++ [s]) = dstates fo ++ [s.d] := List.map_append ..
    rw [z]
    exact dps_app A.dx (.cons hv .nil)
  · rw [e]; exact A.b.at_ (upd_ne (Ne.symm A.fb))
  · rw [e]; exact A.n.at_ (upd_ne (Ne.symm A.fn))
theorem TS.get (A : TS P w K H0 H F Bd N fo m nm xs) {i : Nat} (h : fo[i]? = some s) : ∃ y, xs[i]? = some y ∧ Dp K (imm [F, Bd, N] H) y s.d := dps_get A.dx (by unfold dstates; rw [List.getElem?_map, h]; rfl)
theorem TS.at_ (A : TS P w K H0 H F Bd N fo m nm xs) {i : Nat} (h : xs[i]? = some y) : ∃ s, fo[i]? = some s ∧ Dp K (imm [F, Bd, N] H) y s.d := by
  obtain ⟨d, e, hd⟩ := dps_of_get A.dx h
  unfold dstates at e
  rw [List.getElem?_map] at e
  cases hf : fo[i]? with
  | none => rw [hf] at e; cases e
  | some s =>
    rw [hf] at e
    exact ⟨s, rfl, by rw [← Option.some.inj e] at hd; exact hd⟩
end
theorem TS.atr {P : Program} {w : World} {K : PySem.W.Frag} {H0 H : Hp} {F Bd N : Addr} {fo : List Sta} {m nm : List (Sta × PyData)} {xs : List V} {y : V} (A : TS P w K H0 H F Bd N fo m nm xs) {i : Nat} (h : xs.reverse[i]? = some y) : ∃ s, fo.reverse[i]? = some s ∧ Dp K (imm [F, Bd, N] H) y s.d := by
  have hi : i < xs.length := by
    have := (List.getElem?_eq_some_iff.mp h).1
    rw [List.length_reverse] at this
    exact this
  rw [List.getElem?_reverse hi] at h
  obtain ⟨s, e, d⟩ := A.at_ h
  refine ⟨s, ?_, d⟩
  rw [List.getElem?_reverse (by rw [← A.len]; exact hi), ← A.len]
  exact e
/-! ### tables over what is found -/
def tabOf (f : Sta → PyData) (l : List Sta) : List (Sta × PyData) := l.map fun s => (s, f s)
theorem tabOf_len {f : Sta → PyData} {l : List Sta} : (tabOf f l).length = l.length := List.length_map ..
theorem getM_in {f : Sta → PyData} : ∀ {l : List Sta} {s : Sta}, s ∈ l → getM (tabOf f l) s = some (f s)
  | [], _, h => (nomatch h)
  | x :: l, s, h => by
    show ((((x, f x) :: tabOf f l).find? fun z => decide (z.1 = s)).map (·.2)) = _
    by_cases e : x = s
    · subst e
      simp [List.find?_cons]
    · have h' : s ∈ l := (List.mem_cons.mp h).resolve_left fun z => e z.symm
      have ih := getM_in (f := f) h'
      unfold getM at ih
      rw [List.find?_cons]
      simp only [e, decide_false]
      exact ih
theorem getM_out {f : Sta → PyData} : ∀ {l : List Sta} {s : Sta}, s ∉ l → getM (tabOf f l) s = none
  | [], _, _ => rfl
  | x :: l, s, h => by
    have e : ¬ x = s := fun z => h (by rw [z]; exact List.mem_cons_self)
    have ih := getM_out (f := f) (l := l) (s := s) fun z => h (List.mem_cons_of_mem _ z)
    unfold getM at ih
    show ((((x, f x) :: tabOf f l).find? fun z => decide (z.1 = s)).map (·.2)) = _
    rw [List.find?_cons]
    simp only [e, decide_false]
    exact ih
theorem putM_in {f g : Sta → PyData} {l : List Sta} {s : Sta} {d : PyData} (h : s ∈ l) (hs : g s = d) (ho : ∀ t, t ≠ s → g t = f t) : putM (tabOf f l) s d = tabOf g l := by
  unfold putM
  rw [getM_in h]
  rw [if_pos (show (some (f s)).isSome = true from rfl)]
  unfold tabOf
  rw [List.map_map]
  refine List.map_congr_left fun t _ => ?_
  show (if t = s then (s, d) else (t, f t)) = (t, g t)
  by_cases e : t = s
  · rw [if_pos e, e, hs]
  · rw [if_neg e, ho t e]
theorem putM_new {f g : Sta → PyData} {l : List Sta} {s : Sta} {d : PyData} (h : s ∉ l) (hs : g s = d) (ho : ∀ t, t ≠ s → g t = f t) : putM (tabOf f l) s d = tabOf g (l ++ [s]) := by
  unfold putM
  rw [getM_out h]
  rw [if_neg (show ¬ (none : Option PyData).isSome = true from fun z => by cases z)]
  unfold tabOf
  rw [List.map_append]
  congr 1
  · refine List.map_congr_left fun t ht => ?_
    rw [ho t fun e => h (by rw [← e]; exact ht)]
  · rw [List.map_singleton, hs]
/-- for x in reversed(xs) -/
theorem for_rev {K : PySem.W.Frag} {a : Addr} {xs : List V} {g : TG} {tb : L2.TS} {D : Ends} {σ : L2.St} {H : Hp} (Pv : Nat → L2.St → Hp → Prop) (h0 : Pv 0 σ H) (hl : ∀ i σ H, i ≤ xs.length → Pv i σ H → SqL K H a xs)
    (hs : ∀ i x σ H, xs.reverse[i]? = some x → Pv i σ H → g x σ H fun σ2 H2 => tb { D with nx := Pv (i + 1), ct := Pv (i + 1), bk := D.nx } σ2 H2) (hd : ∀ σ H, Pv xs.length σ H → D.nx σ H) :
    ∃ W : Nat → Nat → L2.St → Hp → Prop, (∃ m, W 0 m σ H) ∧ ∀ i m σ H, W i m σ H →
      ((Itv K a xs.length).stop i H ∧ D.nx σ H) ∨ ((Itv K a xs.length).go i H ∧ ∃ N : L2.St → Hp → Prop, (∀ σ' H', N σ' H' → ∃ m', m' < m ∧ W (i + 1) m' σ' H') ∧ ∀ x H', (Itv K a xs.length).yld i H x H' → g x σ H' fun σ2 H2 => tb { D with nx := N, ct := N, bk := D.nx } σ2 H2) := by
  refine ⟨fun i m σ H => m = xs.length - i ∧ i ≤ xs.length ∧ Pv i σ H, ⟨xs.length, by simp, Nat.zero_le _, h0⟩, ?_⟩
  rintro i m σ H ⟨rfl, hi, p⟩
  have q := hl i σ H hi p
  by_cases hlt : i < xs.length
  · have hx : xs[xs.length - 1 - i]? = some (xs[xs.length - 1 - i]'(by omega)) := List.getElem?_eq_getElem (by omega)
    refine .inr ⟨⟨hlt, xs, _, q, hx⟩, Pv (i + 1), fun σ' H' p' => ⟨xs.length - (i + 1), by omega, rfl, hlt, p'⟩, fun x H' y => ?_⟩
    obtain ⟨e, y⟩ := y
    subst e
    have ey := y xs q
    refine hs i x σ _ ?_ p
    rw [List.getElem?_reverse hlt]
    exact ey
  · have e : i = xs.length := by omega
    subst e
    exact .inl ⟨Nat.le_refl _, hd σ H p⟩

theorem noL_stp (t : Stp) : noL t.d = true := by cases t <;> rfl
theorem noL_pair (S : Sto) (s : Sta) (t : Stp) : noL (pairT S s t) = true := by
  show (noL t.d && (noL (behindS S s t).d && true)) = true
  rw [noL_stp, noL_sta]
  rfl
theorem sta_few {S : Sto} {s : Sta} (ok : StoOk S) (h : StaOk S s) : s.done.length ≤ 5 ∧ s.inside.length ≤ 2 := by
  have a := rising_len h.done (by omega)
  have := ok.w5
  refine ⟨by omega, ?_⟩
  rcases h.inside with e | e | e | e <;> rw [e] <;> simp
theorem open_few {S : Sto} {s : Sta} (ok : StoOk S) : (openSteps S s).length ≤ 12 := by
  refine Nat.le_trans (List.length_filter_le _ _) ?_
  rw [allSteps_len]
  have := ok.w5
  omega
def val0 (S : Sto) (l : List Sta) : Val := fun s => if s ∈ l ∧ isEndS S s = true then some (0, 0) else none
theorem val0_no {S : Sto} {l : List Sta} {s : Sta} (h : isEndS S s = false) : val0 S (l ++ [s]) = val0 S l := funext fun t => by
  unfold val0
  by_cases e : t = s
  · rw [e, h]
    simp
  · simp [e]
theorem val0_at {S : Sto} {l : List Sta} {s : Sta} (h : isEndS S s = true) (m : s ∈ l) : val0 S l s = some (0, 0) := if_pos ⟨m, h⟩
theorem val0_ne {S : Sto} {l : List Sta} {s t : Sta} (h : t ≠ s) : val0 S (l ++ [s]) t = val0 S l t := by
  unfold val0
  simp [h]
theorem val0_ok {S : Sto} {l : List Sta} : Valid S (val0 S l) := fun s x h => by
  unfold val0 at h
  by_cases c : s ∈ l ∧ isEndS S s = true
  · rw [if_pos c] at h
    exact ⟨[], s, .nil, c.2, by rw [← Option.some.inj h]; rfl⟩
  · rw [if_neg c] at h
    cases h
theorem isShift_n (t : Stp) : (if isShift t = true then (1 : Int) else 0) = (shiftsT t : Nat) := by cases t <;> rfl
theorem moreT_d (o1 o2 : Nat) (t : Stp) : dval (some (moreT (o1, o2) t)) = .tuple [.int ((o1 : Int) + (if isShift t = true then 1 else 0)), .int ((o2 : Int) + 1)] := by
  rw [isShift_n]
  show PyData.tuple [.int ((o1 + shiftsT t : Nat) : Int), .int ((o2 + 1 : Nat) : Int)] = _
  rw [Int.natCast_add, Int.natCast_add]
  rfl
theorem dval_lt (x y : Nat × Nat) : PySem.W.dataLt (dval (some x)) (dval (some y)) = decide (ltp x y) := by
  show PySem.W.dataLt (.tuple [.int (x.1 : Int), .int (x.2 : Int)]) (.tuple [.int (y.1 : Int), .int (y.2 : Int)]) = _
  rw [PySem.W.dataLt_ii]
  refine decide_eq_decide.mpr ?_
  unfold ltp
  omega
theorem dval_al (x y : Nat × Nat) : PySem.W.alike (dval (some x)) (dval (some y)) = true ∧ dval (some x) ≠ .none ∧ (dval (some x)).depth ≤ 8 := by
  refine ⟨by simp [dval, PySem.W.alike, PySem.W.alikeAll], fun z => (by cases z), by simp [dval, PyData.depth, PyData.depthAll]⟩
structure Best (S : Sto) (fo : List Sta) (v : Val) : Prop where
  valid : Valid S v
  ends : ∀ s ∈ fo, isEndS S s = true → v s = some (0, 0)
  gain : ∀ s ∈ fo, NoGain S v s
section
variable {P : Program} {w : World} {K : PySem.W.Frag} {mg : Str → Option Value} {base : Heap}
def spLawTable (P : Program) (w : World) (K : PySem.W.Frag) : Sp := fun vs H Q _ => ∃ (v u : V) (S : Sto) (s : Sta), vs = [v, u] ∧ Dp K H v S.d ∧ Dp K H u s.d ∧ StoOk S ∧ StaOk S s ∧
  ∀ d B' H' fo val, Same H B' → Same B' H' → B' d = none → H d = none → TdW P w K B' H' d (tabOf (fun s => dval (val s)) fo) → Found S s fo fo.length → Best S fo val → Q (.ref d) H'
end

/-! ## papers -/
abbrev Num := Option Int
def dnum : Num → PyData
  | none => .none
  | some i => .int i
def tabN (l : List (Sta × Num)) : List (Sta × PyData) := l.map fun p => (p.1, dnum p.2)
def getN (l : List (Sta × Num)) (s : Sta) : Option Num := (l.find? fun p => decide (p.1 = s)).map (·.2)
def putN (l : List (Sta × Num)) (s : Sta) (n : Num) : List (Sta × Num) := if (getN l s).isSome = true then l.map (fun x => if x.1 = s then (s, n) else x) else l ++ [(s, n)]
theorem getM_N (s : Sta) : ∀ l : List (Sta × Num), getM (tabN l) s = (getN l s).map dnum
  | [] => rfl
  | x :: l => by
    have ih := getM_N s l
    unfold getM getN at *
    show ((((x.1, dnum x.2) :: tabN l).find? fun z => decide (z.1 = s)).map (·.2)) = _
    rw [List.find?_cons, List.find?_cons]
    by_cases e : x.1 = s
    · simp [e]
    · simp only [e, decide_false]
      exact ih
theorem putM_N (l : List (Sta × Num)) (s : Sta) (n : Num) : putM (tabN l) s (dnum n) = tabN (putN l s n) := by
  unfold putM putN
  rw [getM_N, Option.isSome_map]
  by_cases e : (getN l s).isSome = true
  · rw [if_pos e, if_pos e]
    unfold tabN
    rw [List.map_map, List.map_map]
    refine List.map_congr_left fun x _ => ?_
    show (if x.1 = s then (s, dnum n) else (x.1, dnum x.2)) = ((if x.1 = s then (s, n) else x).1, dnum (if x.1 = s then (s, n) else x).2)
    by_cases c : x.1 = s
    · rw [if_pos c, if_pos c]
    · rw [if_neg c, if_neg c]
  · rw [if_neg e, if_neg e]
    unfold tabN
    rw [List.map_append]
    rfl
theorem getN_none {s : Sta} : ∀ {l : List (Sta × Num)}, (getN l s).isSome = true ↔ s ∈ l.map (·.1)
  | [] => ⟨fun h => (nomatch h), fun h => (nomatch h)⟩
  | x :: l => by
    have ih := getN_none (s := s) (l := l)
    unfold getN at *
    rw [List.find?_cons, List.map_cons, List.mem_cons]
    by_cases e : x.1 = s
    · simp [e]
    · simp only [e, decide_false]
      rw [ih]
      exact ⟨.inr, fun h => h.resolve_left fun z => e z.symm⟩
def numsFrom (acc l : List (Sta × Num)) : List (Sta × Num) := l.foldl (fun m x => putN m x.1 x.2) acc
def numsOf (l : List (Sta × Num)) : List (Sta × Num) := numsFrom [] l
theorem numsOf_snoc {l : List (Sta × Num)} {x : Sta × Num} : numsOf (l ++ [x]) = putN (numsOf l) x.1 x.2 := by
  unfold numsOf numsFrom
  rw [List.foldl_append]
  rfl
theorem putN_le {l : List (Sta × Num)} {s : Sta} {n : Num} : (putN l s n).length ≤ l.length + 1 := by
  unfold putN
  split
  · rw [List.length_map]; omega
  · rw [List.length_append, List.length_singleton]; omega
theorem nums_le : ∀ {l acc : List (Sta × Num)}, (numsFrom acc l).length ≤ acc.length + l.length
  | [], acc => Nat.le_refl _
  | x :: l, acc => by
    have h := nums_le (l := l) (acc := putN acc x.1 x.2)
    have := putN_le (l := acc) (s := x.1) (n := x.2)
    rw [List.length_cons]
    show (numsFrom (putN acc x.1 x.2) l).length ≤ _
    omega
theorem putN_new {l : List (Sta × Num)} {s : Sta} {n : Num} (h : s ∉ l.map (·.1)) : putN l s n = l ++ [(s, n)] := if_neg fun z => h (getN_none.mp z)
theorem nums_self : ∀ {l acc : List (Sta × Num)}, ((acc ++ l).map (·.1)).Nodup → numsFrom acc l = acc ++ l
  | [], acc, _ => (List.append_nil acc).symm
  | x :: l, acc, h => by
    show numsFrom (putN acc x.1 x.2) l = _
    have hx : x.1 ∉ acc.map (·.1) := fun z => by
      rw [List.map_append, List.nodup_append] at h
      exact h.2.2 _ z x.1 (by simp) rfl
    rw [putN_new hx, nums_self (by rw [List.append_assoc]; exact h), List.append_assoc]
    rfl
theorem nums_less : ∀ {l acc : List (Sta × Num)}, (acc.map (·.1)).Nodup → ¬ ((acc ++ l).map (·.1)).Nodup → (numsFrom acc l).length < acc.length + l.length
  | [], acc, h, g => absurd (by rw [List.append_nil]; exact h) g
  | x :: l, acc, h, g => by
    show (numsFrom (putN acc x.1 x.2) l).length < _
    rw [List.length_cons]
    by_cases hx : x.1 ∈ acc.map (·.1)
    · have e : (putN acc x.1 x.2).length = acc.length := by
        unfold putN
        rw [if_pos (getN_none.mpr hx), List.length_map]
      have := nums_le (l := l) (acc := putN acc x.1 x.2)
      omega
    · rw [putN_new hx]
      have h2 : ((acc ++ [(x.1, x.2)]).map (·.1)).Nodup := by
        rw [List.map_append, List.nodup_append]
        refine ⟨h, by simp, fun a ha b hb => ?_⟩
        have e : b = x.1 := by simpa using hb
        rw [e]
        exact fun z => hx (by rw [← z]; exact ha)
      have := nums_less (l := l) (acc := acc ++ [(x.1, x.2)]) h2 (by rw [List.append_assoc]; exact g)
      rw [List.length_append, List.length_singleton] at this
      omega
def atMost (a b : Num) (m : Int) : Bool := match b with
  | none => true
  | some b => match a with
    | none => false
    | some a => decide (a ≤ b + m)
def endBad (S : Sto) (s : Sta) (n : Num) : Bool := isEndS S s && (match n with
  | none => true
  | some i => decide (i > 0))
def keptStep (S : Sto) (l : List (Sta × Num)) (s : Sta) (n : Num) (t : Stp) : Bool := match getN l (behindS S s t) with
  | none => false
  | some n' => atMost n n' (costOf t)
def keptAt (S : Sto) (l : List (Sta × Num)) (s : Sta) : Bool := match getN l s with
  | none => false
  | some n => !endBad S s n && (openSteps S s).all (keptStep S l s n)
def enough (n many : Num) : Bool := match n with
  | none => true
  | some i => match many with
    | none => false
    | some m => decide (i ≥ m)
def shownS (S : Sto) (p : List (Sta × Num)) (many : Num) : Bool := decide (p.map (·.1)).Nodup && (match getN p (sta0 S) with
  | none => false
  | some n => (p.all fun x => keptAt S p x.1) && enough n many)
theorem keys_of {p : List (Sta × Num)} {s : Sta} {n : Num} (h : getN p s = some n) : ∃ x ∈ p, x.1 = s := by
  have : s ∈ p.map (·.1) := getN_none.mp (by rw [h]; rfl)
  obtain ⟨x, hx, e⟩ := List.mem_map.mp this
  exact ⟨x, hx, e⟩
theorem kept_way {S : Sto} {p : List (Sta × Num)} (hk : ∀ x ∈ p, keptAt S p x.1 = true) {u : Sta} (hu : isEndS S u = true) : ∀ {ts : List Stp} {s : Sta} {n : Num}, Way S s ts u → getN p s = some n → ∃ i, n = some i ∧ i ≤ ((ts.map shiftsT).sum : Nat)
  | [], s, n, w, h => by
    obtain ⟨x, hx, rfl⟩ := keys_of h
    have k := hk x hx
    unfold keptAt at k
    rw [h] at k
    have k1 := (Bool.and_eq_true_iff.mp k).1
    have e : x.1 = u := w.run
    unfold endBad at k1
    rw [e, hu] at k1
    cases n with
    | none => simp at k1
    | some i =>
      refine ⟨i, rfl, ?_⟩
      simp at k1
      simpa using k1
  | t :: ts, s, n, w, h => by
    have hb : bar S s t = none := w.op.1
    have ht : t ∈ openSteps S s := open_of (w.ok t List.mem_cons_self) hb
    obtain ⟨x, hx, rfl⟩ := keys_of h
    have k := hk x hx
    unfold keptAt at k
    rw [h] at k
    have k2 := List.all_eq_true.mp (Bool.and_eq_true_iff.mp k).2 t ht
    unfold keptStep at k2
    cases hg : getN p (behindS S x.1 t) with
    | none => rw [hg] at k2; cases k2
    | some n' =>
      rw [hg] at k2
      have w' : Way S (behindS S x.1 t) ts u := ⟨fun y hy => w.ok y (List.mem_cons_of_mem _ hy), w.op.2, w.run⟩
      obtain ⟨i', e', l'⟩ := kept_way hk hu w' hg
      rw [e'] at k2
      cases n with
      | none => cases k2
      | some i =>
        refine ⟨i, rfl, ?_⟩
        have k3 : i ≤ i' + costOf t := of_decide_eq_true k2
        have ec : costOf t = (shiftsT t : Nat) := isShift_n t
        rw [List.map_cons, List.sum_cons]
        omega
theorem shown_way {S : Sto} {p : List (Sta × Num)} {many : Num} (h : shownS S p many = true) {ts : List Stp} {u : Sta} (w : Way S (sta0 S) ts u) (hu : isEndS S u = true) : ∃ m, many = some m ∧ m ≤ ((ts.map shiftsT).sum : Nat) := by
  unfold shownS at h
  have h2 := (Bool.and_eq_true_iff.mp h).2
  cases hg : getN p (sta0 S) with
  | none => rw [hg] at h2; cases h2
  | some n =>
    rw [hg] at h2
    obtain ⟨h3, h4⟩ := Bool.and_eq_true_iff.mp h2
    obtain ⟨i, e, l⟩ := kept_way (fun x hx => List.all_eq_true.mp h3 x hx) hu w hg
    rw [e] at h4
    cases many with
    | none => cases h4
    | some m =>
      have : i ≥ m := of_decide_eq_true h4
      exact ⟨m, rfl, by omega⟩

def dpap (x : Sta × Num) : PyData := .tuple [x.1.d, dnum x.2]
def dpaps (p : List (Sta × Num)) : List PyData := p.map dpap
theorem nodot (n : Num) : noL (dnum n) = true := by cases n <;> rfl
theorem nums_len {p : List (Sta × Num)} : (numsOf p).length ≤ p.length := by
  have := nums_le (l := p) (acc := [])
  rw [List.length_nil] at this
  unfold numsOf
  omega
theorem tabN_len {p : List (Sta × Num)} : (tabN p).length = p.length := List.length_map ..
theorem dp_num {K : PySem.W.Frag} {H : Hp} {v : V} {n : Num} (h : Dp K H v (dnum n)) : (n = none ∧ v = .non) ∨ ∃ i, n = some i ∧ v = .int i := by
  cases n with
  | none => exact .inl ⟨rfl, dp_none h⟩
  | some i => exact .inr ⟨i, rfl, dp_int h⟩
theorem pap_at {K : PySem.W.Frag} {H : Hp} {v : V} {x : Sta × Num} (h : Dp K H v (dpap x)) : ∃ a b u, v = .ref a ∧ SqT K H a [.ref b, u] ∧ Dp K H (.ref b) x.1.d ∧ Dp K H u (dnum x.2) := by
  obtain ⟨a, zz, rfl, h1, h2⟩ := dp_tup h
  obtain ⟨x1, r1, rfl, g1, k1⟩ := dps_cons h2
  obtain ⟨x2, r2, rfl, g2, k2⟩ := dps_cons k1
  obtain rfl := dps_nil k2
  obtain ⟨b, rfl⟩ := sta_ref g1
  exact ⟨a, b, x2, rfl, h1, g1, g2⟩
theorem pap_item {p : List (Sta × Num)} {i : Nat} {d : PyData} (h : (dpaps p)[i]? = some d) : ∃ x, p[i]? = some x ∧ d = dpap x := by
  unfold dpaps at h
  rw [List.getElem?_map] at h
  cases e : p[i]? with
  | none => rw [e] at h; cases h
  | some x => rw [e] at h; exact ⟨x, rfl, (Option.some.inj h).symm⟩
section
variable {P : Program} {w : World} {K : PySem.W.Frag} {mg : Str → Option Value} {base : Heap}
def spNumbers (P : Program) (w : World) (K : PySem.W.Frag) : Sp := fun vs H Q _ => ∃ (l : Addr) (xs : List V) (p : List (Sta × Num)), vs = [.ref l] ∧ SqL K H l xs ∧ DpAll K H xs (dpaps p) ∧ p.length ≤ 4000 ∧
  ∀ d H', Same H (imm [d] H') → H d = none → TdW P w K (imm [d] H') H' d (tabN (numsOf p)) → Q (.ref d) H'
def spAtMost (K : PySem.W.Frag) : Sp := fun vs H Q _ => ∃ (x y : V) (a b : Num) (m : Int), vs = [x, y, .int m] ∧ Dp K H x (dnum a) ∧ Dp K H y (dnum b) ∧ Q (.bl (atMost a b m)) H
end

theorem getN_M {l : List (Sta × Num)} {s : Sta} {n : Num} (h : getN l s = some n) : getM (tabN l) s = some (dnum n) := by
  rw [getM_N, h]
  rfl
theorem kept_eq {S : Sto} {l : List (Sta × Num)} {s : Sta} {n : Num} (h : getN l s = some n) : keptAt S l s = (!endBad S s n && (openSteps S s).all (keptStep S l s n)) := by
  unfold keptAt
  rw [h]
theorem all_no {α : Type} {f : α → Bool} {l : List α} {x : α} (h : x ∈ l) (e : f x = false) : l.all f = false := by
  cases ha : l.all f with
  | false => rfl
  | true =>
    have := List.all_eq_true.mp ha x h
    rw [e] at this
    cases this
theorem all_snoc {α : Type} {f : α → Bool} {l : List α} {i : Nat} {x : α} (h : l[i]? = some x) (a : (l.take i).all f = true) (e : f x = true) : (l.take (i + 1)).all f = true := by
  rw [take_snoc h, List.all_append, a, Bool.true_and, List.all_cons, e]
  rfl
section
variable {P : Program} {w : World} {K : PySem.W.Frag} {mg : Str → Option Value} {base : Heap}
def spKeptAt (P : Program) (w : World) (K : PySem.W.Frag) (C : Addr) : Sp := fun vs H Q _ => ∃ (p d : Addr) (v : V) (S : Sto) (s : Sta) (B : Hp) (l : List (Sta × Num)) (n : Num), vs = [.ref p, .ref d, v] ∧ Ob K C H p S ∧ StoOk S ∧ StaOk S s ∧ Dp K H v s.d ∧ TdR P w K B H d (tabN l) ∧ Same B H ∧ getN l s = some n ∧
  ∀ H', Same H H' → Q (.bl (keptAt S l s)) H'
end

/-- for k in d, d locked -/
theorem for_nkeys {P : Program} {w : World} {d : Addr} {o : Obj} {xs : List NE} {g : TG} {tb : L2.TS} {D : Ends} {σ : L2.St} {H : Hp} (Pv : Nat → L2.St → Hp → Prop) (h0 : Pv 0 σ H) (hl : ∀ i σ H, i ≤ xs.length → Pv i σ H → H d = some (.frz o (ndO P w d xs)))
    (hs : ∀ i k q v σ H, xs[i]? = some (k, q, v) → Pv i σ H → g (.ref q) σ H fun σ2 H2 => tb { D with nx := Pv (i + 1), ct := Pv (i + 1), bk := D.nx } σ2 H2) (hd : ∀ σ H, Pv xs.length σ H → D.nx σ H) :
    ∃ W : Nat → Nat → L2.St → Hp → Prop, (∃ m, W 0 m σ H) ∧ ∀ i m σ H, W i m σ H →
      ((Itn P w d o xs).stop i H ∧ D.nx σ H) ∨ ((Itn P w d o xs).go i H ∧ ∃ N : L2.St → Hp → Prop, (∀ σ' H', N σ' H' → ∃ m', m' < m ∧ W (i + 1) m' σ' H') ∧ ∀ x H', (Itn P w d o xs).yld i H x H' → g x σ H' fun σ2 H2 => tb { D with nx := N, ct := N, bk := D.nx } σ2 H2) := by
  refine ⟨fun i m σ H => m = xs.length - i ∧ i ≤ xs.length ∧ Pv i σ H, ⟨xs.length, by simp, Nat.zero_le _, h0⟩, ?_⟩
  rintro i m σ H ⟨rfl, hi, p⟩
  have q := hl i σ H hi p
  by_cases hlt : i < xs.length
  · refine .inr ⟨⟨q, hlt⟩, Pv (i + 1), fun σ' H' p' => ⟨xs.length - (i + 1), by omega, rfl, hlt, p'⟩, fun x H' y => ?_⟩
    obtain ⟨e, k, b, v, hx, ex⟩ := y
    subst e ex
    exact hs i k b v σ _ hx p
  · have e : i = xs.length := by omega
    subst e
    exact .inl ⟨⟨q, Nat.le_refl _⟩, hd σ H p⟩
theorem tab_at {K : PySem.W.Frag} {B : Hp} {es : List NE} {p : List (Sta × Num)} {i : Nat} {k : NK} {b : Addr} {v : V} (t : Tab K B es (tabN p)) (h : es[i]? = some (k, b, v)) : ∃ x, p[i]? = some x ∧ Dp K B (.ref b) x.1.d := by
  obtain ⟨y, hy, _, e2, _⟩ := paired_get t h
  unfold tabN at hy
  rw [List.getElem?_map] at hy
  cases hp : p[i]? with
  | none => rw [hp] at hy; cases hy
  | some x =>
    rw [hp] at hy
    have := Option.some.inj hy
    subst this
    exact ⟨x, rfl, e2⟩
section
variable {P : Program} {w : World} {K : PySem.W.Frag} {mg : Str → Option Value} {base : Heap}
def spShows (K : PySem.W.Frag) (C : Addr) : Sp := fun vs H Q _ => ∃ (p l : Addr) (x : V) (xs : List V) (S : Sto) (pap : List (Sta × Num)) (many : Num), vs = [.ref p, .ref l, x] ∧ Ob K C H p S ∧ StoOk S ∧ SqL K H l xs ∧ DpAll K H xs (dpaps pap) ∧ Dp K H x (dnum many) ∧ pap.length ≤ 4000 ∧ (∀ e ∈ pap, StaOk S e.1) ∧
  ∀ H', Same H H' → Q (.bl (shownS S pap many)) H'
end

theorem kpg_tup {X : Cx} {K : PySem.W.Frag} {es : List Expr} {k : Nat} {pos : Pos} {t : TGs} {n : Nat} (hc : X.calm = true) (h : PGs X es t)
    (hn : (assignEach es X.env).length = n := by rfl) (hst : (assignEach es X.env).findIdx? (·.1) = none := by rfl) (eK : X.K = K := by rfl) : PG X (.Tuple es k pos) (gTup K n t) := by
  subst eK
  exact pg_tup hc h hn hst
theorem paired_perm {α β : Type} {R : α → β → Prop} {xs xs' : List α} (p : xs'.Perm xs) : ∀ {ys : List β}, Paired R xs ys → ∃ ys', ys'.Perm ys ∧ Paired R xs' ys' := by
  induction p with
  | nil => intro ys h; exact ⟨ys, .refl _, h⟩
  | cons x _ ih =>
    intro ys h
    cases h with
    | @cons _ b _ bs h t =>
      obtain ⟨ys', p', r'⟩ := ih t
      exact ⟨b :: ys', p'.cons b, .cons h r'⟩
  | swap x y l =>
    intro ys h
    cases h with
    | @cons _ b _ bs h t =>
      cases t with
      | @cons _ c _ cs g u => exact ⟨c :: b :: cs, .swap b c cs, .cons g (.cons h u)⟩
  | trans _ _ ih1 ih2 =>
    intro ys h
    obtain ⟨y1, p1, r1⟩ := ih2 h
    obtain ⟨y2, p2, r2⟩ := ih1 r1
    exact ⟨y2, p2.trans p1, r2⟩
def numV (x : Option (Nat × Nat)) : Num := x.map fun p => (p.1 : Int)
def papOf (val : Val) (l : List Sta) : List (Sta × Num) := l.map fun s => (s, numV (val s))
theorem alike_sta (s t : Sta) : PySem.W.alike s.d t.d = true := by
  unfold Sta.d
  simp only [PySem.W.alike, PySem.W.alikeAll, Bool.and_true, Bool.true_and]
  unfold dints
  rw [PySem.W.alike_ints, PySem.W.alike_ints]
  rfl
theorem sta_depth (s : Sta) : s.d.depth ≤ 8 := Nat.le_trans s.lay.2 (by decide)
theorem tab_state {K : PySem.W.Frag} {B : Hp} {es : List NE} {m : List (Sta × PyData)} (t : Tab K B es m) : ∀ e ∈ es, ∃ s : Sta, e.1 = s.key := by
  induction t with
  | nil => intro e h; exact nomatch h
  | @cons a p es m h _ ih =>
    intro e he
    rcases List.mem_cons.mp he with c | he
    · rw [c]; exact ⟨_, h.1⟩
    · exact ih e he
theorem tab_sort {K : PySem.W.Frag} {B : Hp} {es : List NE} {m : List (Sta × PyData)} (t : Tab K B es m) : PySem.W.AllAlike (es.map fun e => e.1.data) ∧ PySem.W.Sortable (es.map fun e => e.1.data) ∧ ∀ e ∈ es, e.1.data.depth ≤ 8 := by
  have st : ∀ e ∈ es, ∃ s : Sta, e.1.data = s.d := fun e he => let ⟨s, h⟩ := tab_state t e he; ⟨s, by rw [h, Sta.key_data]⟩
  refine ⟨fun d hd d' hd' => ?_, .inl fun d hd => ?_, fun e he => ?_⟩
  · obtain ⟨e, he, rfl⟩ := List.mem_map.mp hd
    obtain ⟨e', he', rfl⟩ := List.mem_map.mp hd'
    obtain ⟨s, h⟩ := st e he
    obtain ⟨s', h'⟩ := st e' he'
    rw [h, h']
    exact alike_sta s s'
  · obtain ⟨e, he, rfl⟩ := List.mem_map.mp hd
    obtain ⟨s, h⟩ := st e he
    exact ⟨_, _, h⟩
  · obtain ⟨s, h⟩ := st e he
    rw [h]
    exact sta_depth s
theorem perm_tab {f : Sta → PyData} {m : List (Sta × PyData)} {fo : List Sta} (h : m.Perm (tabOf f fo)) : ∃ l, l.Perm fo ∧ m = tabOf f l := by
  refine ⟨m.map (·.1), ?_, ?_⟩
  · have e : fo = (tabOf f fo).map (·.1) := by
      unfold tabOf
      rw [List.map_map]
      exact (List.map_id _).symm
    rw [e]
    exact h.map _
  · have all : ∀ x ∈ m, x.2 = f x.1 := fun x hx => by
      obtain ⟨s, _, e⟩ := List.mem_map.mp (h.mem_iff.mp hx)
      rw [← e]
    clear h
    induction m with
    | nil => rfl
    | cons x m ih =>
      rw [List.map_cons]
      show x :: m = (x.1, f x.1) :: tabOf f (m.map (·.1))
      rw [← ih fun y hy => all y (List.mem_cons_of_mem _ hy), ← all x List.mem_cons_self]
theorem TdR.mu {P : Program} {w : World} {K : PySem.W.Frag} {B H : Hp} {d : Addr} {m : List (Sta × PyData)} (h : TdR P w K B H d m) : Mu [d] H := fun b hb => by
  rw [List.mem_singleton.mp hb]
  obtain ⟨es, e | ⟨o, e⟩, _⟩ := h
  · exact ⟨_, e, nt_nd⟩
  · exact ⟨_, e, fun _ => ⟨fun z => (by cases z), fun _ z => (by cases z)⟩⟩
/-! ### what is sorted -/
abbrev SLe (a b : Sta) : Prop := PySem.W.dataLt b.d a.d = false
theorem leE_sorted (es : List NE) : (es.mergeSort leE).Pairwise fun a b => leE a b = true := by
  refine List.pairwise_mergeSort (le := leE) (fun a b c h1 h2 => ?_) (fun a b => ?_) es
  · have k1 : PySem.W.dataLt b.1.data a.1.data = false := by simpa [leE, PySem.W.dataLe_eq] using h1
    have k2 : PySem.W.dataLt c.1.data b.1.data = false := by simpa [leE, PySem.W.dataLe_eq] using h2
    have k3 : PySem.W.dataLt c.1.data a.1.data = false := by
      cases hz : PySem.W.dataLt c.1.data a.1.data with
      | false => rfl
      | true =>
        rcases PyProof.Rows.lex_negTrans _ (PySem.W.keyToks b.1.data) _ hz with e | e
        · rw [show PyProof.Rows.lexLt PyProof.Rows.itemOrd (PySem.W.keyToks c.1.data) (PySem.W.keyToks b.1.data) = false from k2] at e
          cases e
        · rw [show PyProof.Rows.lexLt PyProof.Rows.itemOrd (PySem.W.keyToks b.1.data) (PySem.W.keyToks a.1.data) = false from k1] at e
          cases e
    simpa [leE, PySem.W.dataLe_eq] using k3
  · have k : PySem.W.dataLt b.1.data a.1.data = false ∨ PySem.W.dataLt a.1.data b.1.data = false := by
      cases h1 : PySem.W.dataLt b.1.data a.1.data with
      | false => exact .inl rfl
      | true =>
        cases h2 : PySem.W.dataLt a.1.data b.1.data with
        | false => exact .inr rfl
        | true =>
          have := PyProof.Rows.lex_trans _ _ _ h1 h2
          rw [PyProof.Rows.lex_irrefl] at this
          cases this
    simpa [leE, PySem.W.dataLe_eq] using k
theorem sorted_tab {K : PySem.W.Frag} {B : Hp} {f : Sta → PyData} : ∀ {es : List NE} {l : List Sta}, Tab K B es (tabOf f l) → es.Pairwise (fun a b => leE a b = true) → l.Pairwise SLe
  | _, [], _, _ => .nil
  | e :: es, s :: l, .cons h t, p => by
    rw [List.pairwise_cons] at p ⊢
    refine ⟨fun x hx => ?_, sorted_tab t p.2⟩
    obtain ⟨i, hi⟩ := List.mem_iff_getElem?.mp hx
    have ht : (tabOf f l)[i]? = some (x, f x) := by
      unfold tabOf
      rw [List.getElem?_map, hi]
      rfl
    have hl := Paired.length t
    have hil : i < (tabOf f l).length := (List.getElem?_eq_some_iff.mp ht).1
    have he' : es[i]? = some (es[i]'(by rw [hl]; exact hil)) := List.getElem?_eq_getElem _
    generalize es[i]'(by rw [hl]; exact hil) = e' at he'
    obtain ⟨y, hy, g⟩ := paired_get t he'
    have hy2 : (tabOf f l)[i]? = some y := hy
    rw [ht] at hy2
    obtain rfl := Option.some.inj hy2
    have q := p.1 _ (List.mem_of_getElem? he')
    have q2 : PySem.W.dataLt e'.1.data e.1.data = false := by simpa [leE, PySem.W.dataLe_eq] using q
    show PySem.W.dataLt x.d s.d = false
    rw [← Sta.key_data, ← Sta.key_data, ← show e'.1 = x.key from g.1, ← show e.1 = s.key from h.1]
    exact q2
theorem dints_lt (xs ys : List Int) : PySem.W.dataLt (.tuple (dints xs)) (.tuple (dints ys)) = decide (xs < ys) := by
  rw [PySem.W.dataLt_tuple]
  exact PySem.W.dataLt_ints xs ys
theorem ints_eqv (xs ys : List Int) (h : PyData.eqv (.tuple (dints xs)) (.tuple (dints ys)) = true) : xs = ys := by
  induction xs generalizing ys with
  | nil =>
    cases ys with
    | nil => rfl
    | cons y ys => simp [dints, PyData.eqv, PyData.eqvAll] at h
  | cons x xs ih =>
    cases ys with
    | nil => simp [dints, PyData.eqv, PyData.eqvAll] at h
    | cons y ys =>
      simp [dints, PyData.eqv, PyData.eqvAll] at h
      obtain ⟨h1, h2⟩ := h
      rw [h1, ih ys (by simpa [dints, PyData.eqv] using h2)]
abbrev LexT (xs ys : List PyData) : Bool := PyProof.Rows.lexLt PyProof.Rows.itemOrd (PySem.W.keyToksAll xs) (PySem.W.keyToksAll ys)
theorem step_int {a b : Int} {xs ys : List PyData} (h1 : LexT (.int b :: ys) (.int a :: xs) = false) (h2 : LexT (.int a :: xs) (.int b :: ys) = false) : a = b ∧ LexT ys xs = false ∧ LexT xs ys = false := by
  unfold LexT at h1 h2
  rw [PySem.W.dataLt_cons (by simp [PySem.W.alike])] at h1 h2
  by_cases e : a = b
  · subst e
    rw [if_pos (by simp [PyData.eqv])] at h1 h2
    exact ⟨rfl, h1, h2⟩
  · rw [if_neg (by simp [PyData.eqv]; exact fun z => e z.symm), PySem.W.dataLt_int] at h1
    rw [if_neg (by simp [PyData.eqv]; exact e), PySem.W.dataLt_int] at h2
    have := of_decide_eq_false h1
    have := of_decide_eq_false h2
    omega
theorem ints_refl : ∀ xs : List Int, PyData.eqv (.tuple (dints xs)) (.tuple (dints xs)) = true
  | [] => rfl
  | x :: xs => by
    have ih := ints_refl xs
    simp [dints, PyData.eqv, PyData.eqvAll] at ih ⊢
    exact ih
theorem ints_alike (xs ys : List Int) : PySem.W.alike (.tuple (dints xs)) (.tuple (dints ys)) = true := by
  unfold dints
  simp only [PySem.W.alike]
  rw [PySem.W.alike_ints]
theorem step_ints {a b : List Int} {xs ys : List PyData} (h1 : LexT (.tuple (dints b) :: ys) (.tuple (dints a) :: xs) = false) (h2 : LexT (.tuple (dints a) :: xs) (.tuple (dints b) :: ys) = false) : a = b ∧ LexT ys xs = false ∧ LexT xs ys = false := by
  unfold LexT at h1 h2
  rw [PySem.W.dataLt_cons (ints_alike _ _)] at h1 h2
  by_cases e : a = b
  · subst e
    rw [if_pos (ints_refl _)] at h1 h2
    exact ⟨rfl, h1, h2⟩
  · rw [if_neg (fun z => e (ints_eqv _ _ z).symm), dints_lt] at h1
    rw [if_neg (fun z => e (ints_eqv _ _ z)), dints_lt] at h2
    exact absurd (List.le_antisymm (of_decide_eq_false h1) (of_decide_eq_false h2)) e
theorem sle_anti {a b : Sta} (h1 : SLe a b) (h2 : SLe b a) : a = b := by
  unfold SLe at h1 h2
  unfold Sta.d at h1 h2
  obtain ⟨i1, d1, n1, k1⟩ := a
  obtain ⟨i2, d2, n2, k2⟩ := b
  rw [PySem.W.dataLt_tuple] at h1 h2
  obtain ⟨rfl, h1, h2⟩ := step_int h1 h2
  obtain ⟨rfl, h1, h2⟩ := step_ints h1 h2
  obtain ⟨rfl, h1, h2⟩ := step_ints h1 h2
  obtain ⟨rfl, h1, h2⟩ := step_int h1 h2
  rfl
theorem sorted_eq {l m : List Sta} (hl : l.Pairwise SLe) (hm : m.Pairwise SLe) (p : l.Perm m) : l = m := List.Perm.eq_of_pairwise (fun a b _ _ h1 h2 => sle_anti h1 h2) hl hm p
section
variable {P : Program} {w : World} {K : PySem.W.Frag} {mg : Str → Option Value} {base : Heap}
def spLawPaper (P : Program) (w : World) (K : PySem.W.Frag) : Sp := fun vs H Q _ => ∃ (d : Addr) (B : Hp) (fo : List Sta) (val : Val), vs = [.ref d] ∧ TdR P w K B H d (tabOf (fun s => dval (val s)) fo) ∧ Same B H ∧ B d = none ∧ fo.length ≤ 4000 ∧
  ∀ q zs H' l, Same H H' → H q = none → H' q = some (.lst zs) → l.Perm fo → l.Pairwise SLe → DpAll K (imm [d] H') zs (dpaps (papOf val l)) → Q (.ref q) H'
end

/-! ## heaps: the words -/
def gA (xs : Array Value) (i : Nat) : Value := xs[i]?.getD .none
def swA (xs : Array Value) (i j : Nat) : Array Value := (xs.setIfInBounds i (gA xs j)).setIfInBounds j (gA xs i)
theorem gA_at {xs : Array Value} {i : Nat} (h : i < xs.size) : xs[i]? = some (gA xs i) := by
  unfold gA
  rw [Array.getElem?_eq_getElem h]
  rfl
theorem swA_size {xs : Array Value} {i j : Nat} : (swA xs i j).size = xs.size := by
  unfold swA
  rw [Array.size_setIfInBounds, Array.size_setIfInBounds]
theorem gA_swA {xs : Array Value} {i j k : Nat} (hi : i < xs.size) (hj : j < xs.size) : gA (swA xs i j) k = if k = j then gA xs i else if k = i then gA xs j else gA xs k := by
  have e1 : (swA xs i j)[k]? = if j = k then (if j < xs.size then some (gA xs i) else none) else if i = k then (if i < xs.size then some (gA xs j) else none) else xs[k]? := by
    unfold swA
    rw [Array.getElem?_setIfInBounds, Array.getElem?_setIfInBounds, Array.size_setIfInBounds]
  show ((swA xs i j)[k]?).getD .none = _
  rw [e1, if_pos hj, if_pos hi]
  by_cases h1 : k = j
  · rw [if_pos h1.symm, if_pos h1]; rfl
  · rw [if_neg (fun z => h1 z.symm), if_neg h1]
    by_cases h2 : k = i
    · rw [if_pos h2.symm, if_pos h2]; rfl
    · rw [if_neg (fun z => h2 z.symm), if_neg h2]; rfl
theorem swA_perm {xs : Array Value} {i j : Nat} (hi : i < xs.size) (hj : j < xs.size) : (swA xs i j).toList.Perm xs.toList := by
  have e : swA xs i j = xs.swap i j hi hj := by
    refine Array.ext (by rw [swA_size, Array.size_swap]) fun k h1 h2 => ?_
    have a := gA_at (xs := swA xs i j) (i := k) h1
    rw [Array.getElem?_eq_getElem h1] at a
    rw [Option.some.inj a, gA_swA hi hj, Array.getElem_swap]
    have ai := gA_at hi
    have aj := gA_at hj
    rw [Array.getElem?_eq_getElem hi] at ai
    rw [Array.getElem?_eq_getElem hj] at aj
    by_cases c1 : k = i
    · by_cases c2 : k = j
      · rw [if_pos c2, if_pos c1, ← Option.some.inj ai]
        have : i = j := by omega
        subst this
        rfl
      · rw [if_neg c2, if_pos c1, if_pos c1, ← Option.some.inj aj]
    · by_cases c2 : k = j
      · rw [if_pos c2, if_neg c1, if_pos c2, ← Option.some.inj ai]
      · rw [if_neg c2, if_neg c1, if_neg c1, if_neg c2]
        have hk : k < xs.size := by rw [swA_size] at h1; exact h1
        have ak := gA_at hk
        rw [Array.getElem?_eq_getElem hk] at ak
        exact (Option.some.inj ak).symm
  rw [e]
  exact Array.perm_iff_toList_perm.mp (Array.swap_perm hi hj)
abbrev Less := Value → Value → Bool
/-- a heap -/
def HeapA (lt : Less) (xs : Array Value) : Prop := ∀ i, 0 < i → i < xs.size → lt (gA xs i) (gA xs ((i - 1) / 2)) = false
/-- a heap but for the item at p, which may go up -/
structure UpA (lt : Less) (xs : Array Value) (p : Nat) : Prop where
  ok : ∀ i, 0 < i → i < xs.size → i ≠ p → lt (gA xs i) (gA xs ((i - 1) / 2)) = false
  gr : 0 < p → ∀ i, 0 < i → i < xs.size → (i - 1) / 2 = p → lt (gA xs i) (gA xs ((p - 1) / 2)) = false
/-- .. which goes down -/
structure DownA (lt : Less) (xs : Array Value) (p : Nat) : Prop where
  ok : ∀ i, 0 < i → i < xs.size → i ≠ p → (i - 1) / 2 ≠ p → lt (gA xs i) (gA xs ((i - 1) / 2)) = false
  gr : 0 < p → ∀ i, 0 < i → i < xs.size → (i - 1) / 2 = p → lt (gA xs i) (gA xs ((p - 1) / 2)) = false
section
variable {lt : Less} {xs : Array Value} {p : Nat}
theorem UpA.stop0 (h : UpA lt xs 0) : HeapA lt xs := fun i h0 h1 => h.ok i h0 h1 (by omega)
theorem UpA.stop (h : UpA lt xs p) (hp : lt (gA xs p) (gA xs ((p - 1) / 2)) = false) : HeapA lt xs := fun i h0 h1 => by
  by_cases e : i = p
  · rw [e]; exact hp
  · exact h.ok i h0 h1 e
theorem UpA.step (O : SrtO.Swo lt) (h : UpA lt xs p) (p0 : 0 < p) (p1 : p < xs.size) (hp : lt (gA xs p) (gA xs ((p - 1) / 2)) = true) : UpA lt (swA xs ((p - 1) / 2) p) ((p - 1) / 2) := by
  have hq : (p - 1) / 2 < xs.size := by omega
  have hne : (p - 1) / 2 ≠ p := by omega
  refine ⟨fun i h0 h1 hi => ?_, fun q0 i h0 h1 hi => ?_⟩
  · rw [swA_size] at h1
    rw [gA_swA hq p1, gA_swA hq p1]
    by_cases c1 : i = p
    · subst c1
      rw [if_pos rfl, if_neg hne, if_pos rfl]
      exact O.asym _ _ hp
    · rw [if_neg c1, if_neg hi]
      by_cases c2 : (i - 1) / 2 = p
      · rw [if_pos c2]
        exact h.gr p0 i h0 h1 c2
      · rw [if_neg c2]
        by_cases c3 : (i - 1) / 2 = (p - 1) / 2
        · rw [if_pos c3]
          have hk := h.ok i h0 h1 c1
          rw [c3] at hk
          exact O.tr _ _ _ (O.asym _ _ hp) hk
        · rw [if_neg c3]
          exact h.ok i h0 h1 c1
  · rw [swA_size] at h1
    rw [gA_swA hq p1, gA_swA hq p1]
    have n1 : ((p - 1) / 2 - 1) / 2 ≠ p := by omega
    have n2 : ((p - 1) / 2 - 1) / 2 ≠ (p - 1) / 2 := by omega
    rw [if_neg n1, if_neg n2]
    have hg := h.ok ((p - 1) / 2) q0 hq hne
    by_cases c1 : i = p
    · rw [if_pos c1]
      exact hg
    · rw [if_neg c1, if_neg (show i ≠ (p - 1) / 2 by omega)]
      have hk := h.ok i h0 h1 c1
      rw [hi] at hk
      exact O.tr _ _ _ hg hk
theorem DownA.leaf (h : DownA lt xs p) (hl : ¬ p < xs.size / 2) : UpA lt xs p := ⟨fun i h0 h1 hi => h.ok i h0 h1 hi (by omega), h.gr⟩
theorem DownA.step (h : DownA lt xs p) {c : Nat} (c0 : c = 2 * p + 1 ∨ c = 2 * p + 2) (c1 : c < xs.size) (hc : ∀ i, 0 < i → i < xs.size → (i - 1) / 2 = p → lt (gA xs i) (gA xs c) = false) : DownA lt (swA xs c p) c := by
  have hp : p < xs.size := by omega
  have hcp : c ≠ p := by omega
  have hpc : (c - 1) / 2 = p := by omega
  refine ⟨fun i h0 h1 hi hi2 => ?_, fun q0 i h0 h1 hi => ?_⟩
  · rw [swA_size] at h1
    rw [gA_swA c1 hp, gA_swA c1 hp]
    by_cases e1 : i = p
    · subst e1
      rw [if_pos rfl, if_neg (show (i - 1) / 2 ≠ i by omega), if_neg (show (i - 1) / 2 ≠ c by omega)]
      exact h.gr h0 c (by omega) c1 hpc
    · rw [if_neg e1, if_neg hi]
      by_cases e2 : (i - 1) / 2 = p
      · rw [if_pos e2]
        exact hc i h0 h1 e2
      · rw [if_neg e2, if_neg hi2]
        exact h.ok i h0 h1 e1 e2
  · rw [swA_size] at h1
    rw [gA_swA c1 hp, gA_swA c1 hp, hpc, if_pos rfl]
    rw [if_neg (show i ≠ p by omega), if_neg (show i ≠ c by omega)]
    have hk := h.ok i h0 h1 (by omega) (by omega)
    rw [hi] at hk
    exact hk
theorem HeapA.least (O : SrtO.Swo lt) (h : HeapA lt xs) : ∀ i, i < xs.size → lt (gA xs i) (gA xs 0) = false := by
  intro i
  induction i using Nat.strongRecOn with
  | ind i ih =>
    intro hi
    by_cases h0 : i = 0
    · rw [h0]; exact O.refl _
    · exact O.tr _ _ _ (ih ((i - 1) / 2) (by omega) (by omega)) (h i (by omega) hi)
end

/-! ## heapq: what a sift does -/
section
variable {prog : Program} {w : World} {A : Around} {E : Value → Shared → Prop}
theorem hp_entry : entryFor table "_heapq.heapify.sift" = some Builtin.«_heapq.heapify.sift» := entryFor_of_tree (by kernel_rfl)
theorem hp_plain : plainId "_heapq.heapify.sift" = true := by decide +kernel
/-- how the items of the list at a compare, whatever becomes of the list -/
def Ask (A : Around) (s : Shared) (a : Addr) (its : List Value) (lt : Less) : Prop := ∀ h' : Heap, (∀ b o, b ≠ a → s.heap.get? b = some o → h'.get? b = some o) → ∀ x ∈ its, ∀ y ∈ its, SeqAt.RcLt A { s with heap := h' } x y (lt x y)
theorem Ask.perm {s : Shared} {a : Addr} {l m : List Value} {lt : Less} (h : Ask A s a l lt) (p : m.Perm l) : Ask A s a m lt := fun h' k x hx y hy => h h' k x (p.mem_iff.mp hx) y (p.mem_iff.mp hy)
theorem Ask.on {s : Shared} {a : Addr} {l : List Value} {lt : Less} {h1 : Heap} (h : Ask A s a l lt) (k : ∀ b o, b ≠ a → s.heap.get? b = some o → h1.get? b = some o) : Ask A { s with heap := h1 } a l lt := fun h' k' x hx y hy => h h' (fun b o hb e => k' b o hb (k b o hb e)) x hx y hy
theorem hp_at {xs : Array Value} {i : Nat} {s : Shared} {Q : Value → Shared → Prop} (h : i < xs.size) (q : Q (gA xs i) s) : wpAny (model prog w) A (match xs[i]? with
    | some v => pure v
    | none => unsupported "internal:_heapq.index") Q E s := by
  rw [gA_at h]
  exact wpAny_pure q
theorem gA_mem {xs : Array Value} {i : Nat} (h : i < xs.size) : gA xs i ∈ xs.toList := by
  have e := gA_at h
  rw [← Array.getElem?_toList] at e
  exact List.mem_of_getElem? e
theorem hp_less {s : Shared} {a : Addr} {xs : Array Value} {n : Nat} {x y : Value} {lt : Less} {Q : Bool → Shared → Prop} (ho : s.heap.get? a = some (seqObj "list" xs n)) (hk : Ask A s a xs.toList lt) (hx : x ∈ xs.toList) (hy : y ∈ xs.toList) (q : Q (lt x y) s) :
    wpAny (model prog w) A (do
      let less ← holding [x, y] (do truthOfDropped (← richCompare .Lt x y))
      let xs' ← (do
        let some xs' ← seqItems? (.ref a) | unsupported "internal:_heapq"
        return xs')
      if xs'.size != xs.size then rule "_heapq.size-changed"; raiseError "RuntimeError" "list changed size during iteration"
      return less) Q E s := by
  refine wpAny_bind (wpAny_holding (wpAny_bind ?_))
  refine hk s.heap (fun _ _ _ e => e) x hx y hy prog w E _ ?_
  show wpAny _ _ (truthy (.bool (lt x y))) _ _ _
  refine wpAny_truthy_bool ?_
  refine wpAny_bind (wpAny_bind (wpAny_seqItems ho rfl (wpAny_pure ?_)))
  rw [if_neg (by simp)]
  exact wpAny_pure q
theorem hp_swap {s : Shared} {a : Addr} {xs : Array Value} {n i j : Nat} {Q : Unit → Shared → Prop} (ho : s.heap.get? a = some (seqObj "list" xs n)) (hz : xs.size ≤ sizeLine) (hi : i < xs.size) (hj : j < xs.size)
    (q : ∀ h', h'.get? a = some (seqObj "list" (swA xs i j) n) → (∀ b o, b ≠ a → s.heap.get? b = some o → h'.get? b = some o) → Q () { s with heap := h' }) :
    wpAny (model prog w) A (do
      let xs' ← (do
        let some xs' ← seqItems? (.ref a) | unsupported "internal:_heapq"
        return xs')
      let x ← (match xs'[i]? with
        | some v => pure v
        | none => unsupported "internal:_heapq.index")
      let y ← (match xs'[j]? with
        | some v => pure v
        | none => unsupported "internal:_heapq.index")
      updateSeq a fun xs => (xs.setIfInBounds i y).setIfInBounds j x) Q E s := by
  refine wpAny_bind (wpAny_bind (wpAny_seqItems ho rfl (wpAny_pure ?_)))
  refine wpAny_bind (hp_at hi ?_)
  refine wpAny_bind (hp_at hj ?_)
  have e : ((xs.setIfInBounds i (gA xs j)).setIfInBounds j (gA xs i)).size = xs.size := by rw [Array.size_setIfInBounds, Array.size_setIfInBounds]
  refine wpAny_updateSeq ho rfl (q _ ?_ fun b o hb h => (Heap.get?_update_ne _ _ _ _ hb).trans h) hz (by rw [e]; omega)
  have g := PyProof.Rows.get?_update_seq ho (fun ys => (ys.setIfInBounds i (gA xs j)).setIfInBounds j (gA xs i))
  rw [g, if_pos (by rw [e]; simp)]
  rfl
end

section
variable {prog : Program} {w : World} {A : Around} {E : Value → Shared → Prop}
theorem sift_up {lt : Less} (O : SrtO.Swo lt) {a : Addr} {res : Value} {R : Result → Shared → Prop} : ∀ (pos : Nat) (xs : Array Value) (n : Nat) (s : Shared) (t t' t'' : Tok), s.heap.get? a = some (seqObj "list" xs n) → xs.size ≤ sizeLine → pos < xs.size → UpA lt xs pos → Ask A.in1 s a xs.toList lt →
    (∀ (xs' : Array Value) (h' : Heap), HeapA lt xs' → xs'.toList.Perm xs.toList → h'.get? a = some (seqObj "list" xs' n) → (∀ b o, b ≠ a → s.heap.get? b = some o → h'.get? b = some o) → R (.ok (.ret res)) { s with heap := h' }) →
    codeAny (model prog w) A (.builtin "_heapq.heapify.sift" ⟨[.ref a, .bool false, .bool false, .int (pos : Int) t, .int 0 t', res, .int (-1) t''], []⟩) R s := by
  intro pos
  induction pos using Nat.strongRecOn with
  | ind pos ih =>
    intro xs n s t t' t'' ho hz hp hu hk h
    refine codeAny_builtin hp_entry ?_
    rw [Around.under_plainId hp_plain _]
    unfold Builtin.«_heapq.heapify.sift»
    dsimp only
    refine wpAny_bind ?_
    show wpAny _ _ (seqItems? (.ref a) >>= _) _ _ _
    refine wpAny_bind (wpAny_seqItems ho rfl (wpAny_pure ?_))
    rw [if_neg Bool.false_ne_true, Int.toNat_natCast, show (0 : Int).toNat = 0 from rfl]
    by_cases p0 : pos > 0
    · rw [if_pos p0]
      refine wpAny_bind (hp_at hp ?_)
      refine wpAny_bind (hp_at (show (pos - 1) / 2 < xs.size by omega) ?_)
      rw [if_neg Bool.false_ne_true]
      refine wpAny_bind (hp_less ho hk (gA_mem hp) (gA_mem (by omega)) ?_)
      cases hl : lt (gA xs pos) (gA xs ((pos - 1) / 2)) with
      | true =>
        rw [if_pos rfl]
        refine wpAny_bind (hp_swap (i := (pos - 1) / 2) (j := pos) ho hz (by omega) hp fun h1 e1 k1 => ?_)
        show wpAny _ _ (pure _) _ _ _
        refine wpAny_pure ⟨plainId_quiet hp_plain _, ?_⟩
        refine ih ((pos - 1) / 2) (by omega) (swA xs ((pos - 1) / 2) pos) n { s with heap := h1 } _ _ _ e1 (by rw [swA_size]; exact hz) (by rw [swA_size]; omega) (hu.step O p0 hp hl) ((hk.perm (swA_perm (by omega) hp)).on k1) fun xs' h' a1 a2 a3 a4 => ?_
        exact h xs' h' a1 (a2.trans (swA_perm (by omega) hp)) a3 fun b o hb e => a4 b o hb (k1 b o hb e)
      | false =>
        rw [if_neg Bool.false_ne_true, if_pos (by decide)]
        exact wpAny_pure (h xs s.heap (hu.stop hl) (.refl _) ho fun _ _ _ e => e)
    · rw [if_neg p0, if_pos (by decide)]
      have e0 : pos = 0 := by omega
      subst e0
      exact wpAny_pure (h xs s.heap hu.stop0 (.refl _) ho fun _ _ _ e => e)
end
section
variable {prog : Program} {w : World} {A : Around} {E : Value → Shared → Prop}
theorem sift_down {lt : Less} (O : SrtO.Swo lt) {a : Addr} {res : Value} {R : Result → Shared → Prop} : ∀ (m pos : Nat) (xs : Array Value) (n : Nat) (s : Shared) (t t' t'' : Tok), m + pos = xs.size → s.heap.get? a = some (seqObj "list" xs n) → xs.size ≤ sizeLine → pos < xs.size → DownA lt xs pos → Ask A.in1 s a xs.toList lt →
    (∀ (xs' : Array Value) (h' : Heap), HeapA lt xs' → xs'.toList.Perm xs.toList → h'.get? a = some (seqObj "list" xs' n) → (∀ b o, b ≠ a → s.heap.get? b = some o → h'.get? b = some o) → R (.ok (.ret res)) { s with heap := h' }) →
    codeAny (model prog w) A (.builtin "_heapq.heapify.sift" ⟨[.ref a, .bool false, .bool true, .int (pos : Int) t, .int 0 t', res, .int (-1) t''], []⟩) R s := by
  intro m
  induction m using Nat.strongRecOn with
  | ind m ih =>
    intro pos xs n s t t' t'' hm ho hz hp hd hk h
    refine codeAny_builtin hp_entry ?_
    rw [Around.under_plainId hp_plain _]
    unfold Builtin.«_heapq.heapify.sift»
    dsimp only
    refine wpAny_bind ?_
    show wpAny _ _ (seqItems? (.ref a) >>= _) _ _ _
    refine wpAny_bind (wpAny_seqItems ho rfl (wpAny_pure ?_))
    rw [if_pos rfl, Int.toNat_natCast, show (0 : Int).toNat = 0 from rfl]
    by_cases p0 : pos < xs.size / 2
    · rw [if_pos p0]
      have go : ∀ c : Nat, c = 2 * pos + 1 ∨ c = 2 * pos + 2 → c < xs.size → (∀ i, 0 < i → i < xs.size → (i - 1) / 2 = pos → lt (gA xs i) (gA xs c) = false) → ∀ h1 : Heap, h1.get? a = some (seqObj "list" (swA xs c pos) n) → (∀ b o, b ≠ a → s.heap.get? b = some o → h1.get? b = some o) → ∀ t1 t2 t3 : Tok,
          codeAny (model prog w) A (.builtin "_heapq.heapify.sift" ⟨[.ref a, .bool false, .bool true, .int (c : Int) t1, .int 0 t2, res, .int (-1) t3], []⟩) R { s with heap := h1 } := by
        intro c c0 c1 hc h1 e1 k1 t1 t2 t3
        refine ih (xs.size - c) (by omega) c (swA xs c pos) n { s with heap := h1 } t1 t2 t3 (by rw [swA_size]; omega) e1 (by rw [swA_size]; exact hz) (by rw [swA_size]; exact c1) (hd.step c0 c1 hc) ((hk.perm (swA_perm c1 hp)).on k1) fun xs' h' a1 a2 a3 a4 => ?_
        exact h xs' h' a1 (a2.trans (swA_perm c1 hp)) a3 fun b o hb e => a4 b o hb (k1 b o hb e)
      by_cases p1 : 2 * pos + 1 + 1 < xs.size
      · rw [if_pos p1]
        refine wpAny_bind (hp_at (show 2 * pos + 1 < xs.size by omega) ?_)
        refine wpAny_bind (hp_at p1 ?_)
        rw [if_neg Bool.false_ne_true]
        refine wpAny_bind (hp_less ho hk (gA_mem (by omega)) (gA_mem p1) ?_)
        cases hl : lt (gA xs (2 * pos + 1)) (gA xs (2 * pos + 1 + 1)) with
        | true =>
          rw [if_neg (by decide)]
          refine wpAny_bind (hp_swap (i := 2 * pos + 1) (j := pos) ho hz (by omega) hp fun h1 e1 k1 => ?_)
          show wpAny _ _ (pure _) _ _ _
          refine wpAny_pure ⟨plainId_quiet hp_plain _, go _ (.inl rfl) (by omega) (fun i i0 i1 i2 => ?_) h1 e1 k1 _ _ _⟩
          have : i = 2 * pos + 1 ∨ i = 2 * pos + 1 + 1 := by omega
          rcases this with rfl | rfl
          · exact O.refl _
          · exact O.asym _ _ hl
        | false =>
          rw [if_pos (by decide)]
          refine wpAny_bind (hp_swap (i := 2 * pos + 1 + 1) (j := pos) ho hz p1 hp fun h1 e1 k1 => ?_)
          show wpAny _ _ (pure _) _ _ _
          refine wpAny_pure ⟨plainId_quiet hp_plain _, go _ (.inr rfl) p1 (fun i i0 i1 i2 => ?_) h1 e1 k1 _ _ _⟩
          have : i = 2 * pos + 1 ∨ i = 2 * pos + 1 + 1 := by omega
          rcases this with rfl | rfl
          · exact hl
          · exact O.refl _
      · rw [if_neg p1]
        refine wpAny_bind (hp_swap (i := 2 * pos + 1) (j := pos) ho hz (by omega) hp fun h1 e1 k1 => ?_)
        show wpAny _ _ (pure _) _ _ _
        refine wpAny_pure ⟨plainId_quiet hp_plain _, go _ (.inl rfl) (by omega) (fun i i0 i1 i2 => ?_) h1 e1 k1 _ _ _⟩
        have : i = 2 * pos + 1 := by omega
        subst this
        exact O.refl _
    · rw [if_neg p0]
      show wpAny _ _ (pure _) _ _ _
      exact wpAny_pure ⟨plainId_quiet hp_plain _, sift_up O pos xs n s _ _ _ ho hz hp (hd.leaf p0) hk h⟩
end

theorem push_entry : entryFor table "_heapq.heappush" = some Builtin.«_heapq.heappush» := entryFor_of_tree (by kernel_rfl)
theorem push_plain : plainId "_heapq.heappush" = true := by decide +kernel
theorem push_kind : builtinKind "_heapq.heappush" = none := by decide +kernel
theorem push_args (a b : Value) : argsOk "_heapq.heappush" ⟨[a, b], []⟩ := by unfold argsOk; kernel_rfl
theorem pop_entry : entryFor table "_heapq.heappop" = some Builtin.«_heapq.heappop» := entryFor_of_tree (by kernel_rfl)
theorem pop_plain : plainId "_heapq.heappop" = true := by decide +kernel
theorem pop_kind : builtinKind "_heapq.heappop" = none := by decide +kernel
theorem pop_args (a : Value) : argsOk "_heapq.heappop" ⟨[a], []⟩ := by unfold argsOk; kernel_rfl
theorem sub_list_self : isSubtype (.type "list") (.type "list") = pure true := by rw [isSubtype_type]; kernel_rfl
section
variable {prog : Program} {w : World} {A : Around} {E : Value → Shared → Prop}
/-- a built-in function that goes on with another code -/
theorem call_goes {id : String} {b : Builtin} {args : List Value} {s : Shared} {Q : Value → Shared → Prop} (hk : builtinKind id = none) (hp : plainId id = true) (hb : entryFor table id = some b) (ha : argsOk id ⟨args, []⟩)
    (hc : wpAny (model prog w) A.in1 (b ⟨args, []⟩) (fun fin s' => match fin with
      | .done f => (match (Except.ok f : Result) with | .ok (.ret v) => Q v s' | .ok _ => False | .error e => E e s')
      | .again c' => c'.quiet = true ∧ codeAny (model prog w) A c' (fun r s' => match r with | .ok (.ret v) => Q v s' | .ok _ => False | .error e => E e s') s') E s) :
    wpAny (model prog w) A (call (.builtin id) args) Q E s := by
  refine wpAny_call (codeAny_call_builtin hp hb ?_)
  simp only [checkBuiltinCall, hk]
  cases hsig : Manifest.signature? id with
  | none => exact wpAny_pure hc
  | some sig =>
    simp only [argsOk, hsig] at ha
    have h2 : Bind.checkArgs id sig ⟨args, []⟩ = pure () := ha
    show wpAny _ A.in1 (Bind.checkArgs id sig ⟨args, []⟩) _ _ s
    rw [h2]
    exact wpAny_pure hc
theorem gA_push {xs : Array Value} {x : Value} {i : Nat} (h : i < xs.size) : gA (xs.push x) i = gA xs i := by
  unfold gA
  rw [Array.getElem?_push_lt h, Array.getElem?_eq_getElem h]
theorem up_push {lt : Less} {xs : Array Value} {x : Value} (h : HeapA lt xs) : UpA lt (xs.push x) xs.size := by
  refine ⟨fun i h0 h1 hi => ?_, fun p0 i h0 h1 hi => ?_⟩
  · rw [Array.size_push] at h1
    rw [gA_push (by omega), gA_push (by omega)]
    exact h i h0 (by omega)
  · rw [Array.size_push] at h1
    omega
theorem call_heappush {lt : Less} (O : SrtO.Swo lt) {s : Shared} {a : Addr} {xs : Array Value} {n : Nat} {x : Value} {Q : Value → Shared → Prop} (ho : s.heap.get? a = some (seqObj "list" xs n)) (hz : xs.size < sizeLine) (hh : HeapA lt xs) (hk : Ask A.in1 s a (xs.push x).toList lt)
    (q : ∀ (xs' : Array Value) (n' : Nat) (h' : Heap), HeapA lt xs' → xs'.toList.Perm (xs.push x).toList → h'.get? a = some (seqObj "list" xs' n') → (∀ b o, b ≠ a → s.heap.get? b = some o → h'.get? b = some o) → Q .none { s with heap := h' }) :
    wpAny (model prog w) A (call (.builtin "_heapq.heappush") [.ref a, x]) Q E s := by
  refine call_goes push_kind push_plain push_entry (push_args _ _) ?_
  unfold Builtin.«_heapq.heappush»
  refine wpAny_bind ?_
  refine wpAny_bind (m := noKeywords "_heapq.heappush" _) (wpAny_pure ?_)
  refine wpAny_bind (m := checkCount "heappush" 2 2 _) (wpAny_pure ?_)
  dsimp only
  refine wpAny_bind ?_
  show wpAny _ _ (isInstance (.ref a) (.type "list") >>= _) _ _ _
  refine wpAny_bind (wpAny_isInstance (T := "list") ⟨_, ho, rfl⟩ sub_list_self ?_)
  rw [if_pos rfl]
  refine wpAny_pure (wpAny_pure ?_)
  dsimp only
  have ez : (xs.push x).size = xs.size + 1 := Array.size_push ..
  refine wpAny_bind (wpAny_updateSeq ho rfl ?_ (Nat.le_of_lt hz) (by rw [ez]; omega))
  have g := PyProof.Rows.get?_update_seq ho (fun ys => ys.push x)
  refine wpAny_bind ?_
  show wpAny _ _ (seqItems? (.ref a) >>= _) _ _ _
  refine wpAny_bind (wpAny_seqItems g rfl (wpAny_pure ?_))
  show wpAny _ _ (pure _) _ _ _
  have k1 : ∀ b o, b ≠ a → s.heap.get? b = some o → (s.heap.update a (Obj.mapSeq fun ys => ys.push x)).get? b = some o := fun b o hb e => (Heap.get?_update_ne _ _ _ _ hb).trans e
  have e1 : (xs.push x).size - 1 = xs.size := by rw [ez]; omega
  refine wpAny_pure ⟨plainId_quiet hp_plain _, ?_⟩
  rw [e1]
  refine sift_up O xs.size (xs.push x) _ { s with heap := s.heap.update a (Obj.mapSeq fun ys => ys.push x) } _ _ _ g (by rw [ez]; omega) (by rw [ez]; omega) (up_push hh) (hk.on k1) fun xs' h' a1 a2 a3 a4 => ?_
  exact q xs' _ h' a1 a2 a3 fun b o hb e => a4 b o hb (k1 b o hb e)
theorem gA_set0 {xs : Array Value} {v : Value} {i : Nat} (h : 0 < xs.size) : gA (xs.setIfInBounds 0 v) i = if i = 0 then v else gA xs i := by
  unfold gA
  rw [Array.getElem?_setIfInBounds]
  by_cases e : i = 0
  · rw [if_pos e.symm, if_pos h, if_pos e]; rfl
  · rw [if_neg (fun z => e z.symm), if_neg e]
theorem gA_pop {xs : Array Value} {i : Nat} (h : i < xs.pop.size) : gA xs.pop i = gA xs i := by
  unfold gA
  have h2 : i < xs.size := by rw [Array.size_pop] at h; omega
  rw [Array.getElem?_eq_getElem h, Array.getElem?_eq_getElem h2, Array.getElem_pop]
theorem down_pop {lt : Less} {xs : Array Value} {v : Value} (h : HeapA lt xs) (h2 : 2 ≤ xs.size) : DownA lt (xs.pop.setIfInBounds 0 v) 0 := by
  refine ⟨fun i h0 h1 hi hp => ?_, fun p0 => absurd p0 (by omega)⟩
  rw [Array.size_setIfInBounds] at h1
  have hs : xs.pop.size = xs.size - 1 := Array.size_pop
  rw [gA_set0 (by omega), gA_set0 (by omega), if_neg hi, if_neg hp, gA_pop h1, gA_pop (by omega)]
  exact h i h0 (by omega)
theorem perm_pop {xs : Array Value} (h2 : 2 ≤ xs.size) : (gA xs 0 :: (xs.pop.setIfInBounds 0 (gA xs (xs.size - 1))).toList).Perm xs.toList := by
  obtain ⟨l⟩ := xs
  cases l with
  | nil => simp at h2
  | cons f r =>
    rcases List.eq_nil_or_concat r with e | ⟨mid, z, e⟩
    · subst e
      simp at h2
    · rw [List.concat_eq_append] at e
      subst e
      have e1 : gA ⟨f :: (mid ++ [z])⟩ 0 = f := rfl
      have e2 : gA ⟨f :: (mid ++ [z])⟩ ((⟨f :: (mid ++ [z])⟩ : Array Value).size - 1) = z := by
        unfold gA
        simp
      rw [e1, e2]
      have e3 : ((⟨f :: (mid ++ [z])⟩ : Array Value).pop.setIfInBounds 0 z).toList = z :: mid := by
        simp [Array.toList_pop, List.dropLast]
      rw [e3]
      exact List.Perm.cons f ((List.perm_append_singleton z mid).symm)
theorem call_heappop {lt : Less} (O : SrtO.Swo lt) {s : Shared} {a : Addr} {xs : Array Value} {n : Nat} {Q : Value → Shared → Prop} (ho : s.heap.get? a = some (seqObj "list" xs n)) (hz : xs.size ≤ sizeLine) (h0 : 0 < xs.size) (hh : HeapA lt xs) (hk : Ask A.in1 s a xs.toList lt)
    (q : ∀ (xs' : Array Value) (n' : Nat) (h' : Heap), HeapA lt xs' → (gA xs 0 :: xs'.toList).Perm xs.toList → h'.get? a = some (seqObj "list" xs' n') → (∀ b o, b ≠ a → s.heap.get? b = some o → h'.get? b = some o) → Q (gA xs 0) { s with heap := h' }) :
    wpAny (model prog w) A (call (.builtin "_heapq.heappop") [.ref a]) Q E s := by
  refine call_goes pop_kind pop_plain pop_entry (pop_args _) ?_
  unfold Builtin.«_heapq.heappop»
  refine wpAny_bind ?_
  refine wpAny_bind (m := oneArg _ _) (wpAny_pure ?_)
  refine wpAny_bind ?_
  show wpAny _ _ (isInstance (.ref a) (.type "list") >>= _) _ _ _
  refine wpAny_bind (wpAny_isInstance (T := "list") ⟨_, ho, rfl⟩ sub_list_self ?_)
  rw [if_pos rfl]
  refine wpAny_pure (wpAny_pure ?_)
  dsimp only
  refine wpAny_bind ?_
  show wpAny _ _ (seqItems? (.ref a) >>= _) _ _ _
  refine wpAny_bind (wpAny_seqItems ho rfl (wpAny_pure ?_))
  have eb : xs.back? = some (gA xs (xs.size - 1)) := by
    rw [Array.back?_eq_getElem?]
    exact gA_at (by omega)
  rw [eb]
  dsimp only
  have es : xs.pop.size = xs.size - 1 := Array.size_pop
  refine wpAny_bind (wpAny_updateSeq ho rfl ?_ hz (by rw [es]; omega))
  have g := PyProof.Rows.get?_update_seq ho (fun ys => ys.pop)
  have k1 : ∀ b o, b ≠ a → s.heap.get? b = some o → (s.heap.update a (Obj.mapSeq fun ys => ys.pop)).get? b = some o := fun b o hb e => (Heap.get?_update_ne _ _ _ _ hb).trans e
  by_cases h1 : xs.size = 1
  · rw [if_pos (by rw [h1]; rfl)]
    have e0 : gA xs (xs.size - 1) = gA xs 0 := by rw [h1]
    have hp : (gA xs 0 :: xs.pop.toList).Perm xs.toList := by
      obtain ⟨l⟩ := xs
      match l, h1 with
      | [v], _ => exact List.Perm.refl _
    rw [e0]
    refine wpAny_pure ?_
    exact q xs.pop _ _ (fun i i0 i1 => by rw [es] at i1; omega) hp g k1
  · rw [if_neg (by simp [h1])]
    refine wpAny_bind (hp_at h0 ?_)
    have e2 : (xs.pop.setIfInBounds 0 (gA xs (xs.size - 1))).size = xs.size - 1 := by rw [Array.size_setIfInBounds, es]
    refine wpAny_bind (wpAny_updateSeq g rfl ?_ (by rw [es]; omega) (by rw [e2]; omega))
    have g2 := PyProof.Rows.get?_update_seq g (fun ys => ys.setIfInBounds 0 (gA xs (xs.size - 1)))
    have k2 : ∀ b o, b ≠ a → s.heap.get? b = some o → ((s.heap.update a (Obj.mapSeq fun ys => ys.pop)).update a (Obj.mapSeq fun ys => ys.setIfInBounds 0 (gA xs (xs.size - 1)))).get? b = some o := fun b o hb e => (Heap.get?_update_ne _ _ _ _ hb).trans (k1 b o hb e)
    have pp := perm_pop (xs := xs) (by omega)
    show wpAny _ _ (pure _) _ _ _
    refine wpAny_pure ⟨plainId_quiet hp_plain _, ?_⟩
    refine sift_down O (xs.size - 1) 0 (xs.pop.setIfInBounds 0 (gA xs (xs.size - 1))) _ { s with heap := (s.heap.update a (Obj.mapSeq fun ys => ys.pop)).update a (Obj.mapSeq fun ys => ys.setIfInBounds 0 (gA xs (xs.size - 1))) } _ _ _ (by rw [e2]; rfl) g2 (by rw [e2]; omega) (by rw [e2]; omega) (down_pop hh (by omega)) ?_ fun xs' h' a1 a2 a3 a4 => ?_
    · refine Ask.on (fun h' kk x hx y hy => hk h' kk x (pp.mem_iff.mp (List.mem_cons_of_mem _ hx)) y (pp.mem_iff.mp (List.mem_cons_of_mem _ hy))) k2
    · exact q xs' _ h' a1 ((a2.cons _).trans pp) a3 fun b o hb e => a4 b o hb (k2 b o hb e)
end

/-! ### heaps of data that lie in tuples -/
mutual
theorem reads_as {h : Heap} : ∀ {d : PyData} {v : Value} {as : List Addr}, Reads h v d as → noL d = true → as = []
  | .none, _, _, r, _ => by cases r; rfl
  | .bool _, _, _, r, _ => by cases r; rfl
  | .int _, _, _, r, _ => by cases r; rfl
  | .str _, _, _, r, _ => by cases r; rfl
  | .list _, _, _, _, n => by cases n
  | .tuple xs, _, _, r, n => by
    cases r with
    | tuple h1 h2 h3 h4 => exact reads_asAll (ds := xs) h4 n
  | .dict _, _, _, _, n => by cases n
theorem reads_asAll {h : Heap} : ∀ {ds : List PyData} {vs : List Value} {as : List Addr}, ReadsAll h vs ds as → noLs ds = true → as = []
  | [], _, _, r, _ => by cases r; rfl
  | d :: ds, _, _, r, n => by
    cases r with
    | cons h1 h2 =>
      have n' : (noL d && noLs ds) = true := n
      rw [Bool.and_eq_true] at n'
      rw [reads_as h1 n'.1, reads_asAll h2 n'.2]
      rfl
end
abbrev Ps := List (V × PyData)
noncomputable def keyV (h : Heap) (ds : List PyData) (v : Value) : List (Int ⊕ List Nat) := ((PySem.W.dataKind h ds).keyOf v).getD []
noncomputable def ltV (h : Heap) (ds : List PyData) : Less := fun v u => PyProof.Rows.lexLt PyProof.Rows.itemOrd (keyV h ds v) (keyV h ds u)
theorem swo_ltV (h : Heap) (ds : List PyData) : SrtO.Swo (ltV h ds) := by
  refine ⟨fun x y hx => ?_, fun x y z h1 h2 => ?_⟩
  · cases hy : ltV h ds y x with
    | false => rfl
    | true =>
      have := PyProof.Rows.lex_trans _ _ _ hx hy
      rw [PyProof.Rows.lex_irrefl] at this
      cases this
  · cases hz : ltV h ds z x with
    | false => rfl
    | true =>
      rcases PyProof.Rows.lex_negTrans _ (keyV h ds y) _ hz with e | e
      · rw [show PyProof.Rows.lexLt PyProof.Rows.itemOrd (keyV h ds z) (keyV h ds y) = false from h2] at e
        cases e
      · rw [show PyProof.Rows.lexLt PyProof.Rows.itemOrd (keyV h ds y) (keyV h ds x) = false from h1] at e
        cases e
theorem ltV_eq {h : Heap} {ds : List PyData} (hal : PySem.W.AllAlike ds) {v u : Value} {d e : PyData} {as bs : List Addr} (hd : d ∈ ds) (he : e ∈ ds) (r1 : Reads h v d as) (r2 : Reads h u e bs) : ltV h ds v u = PySem.W.dataLt d e := by
  unfold ltV keyV
  rw [PySem.W.dataKind_some hal hd r1, PySem.W.dataKind_some hal he r2]
  rfl
/-- what the items of a heap may be -/
structure HeapOk (ds : List PyData) : Prop where
  al : PySem.W.AllAlike ds
  no : ∀ d ∈ ds, d ≠ .none ∧ noL d = true ∧ d.depth ≤ 8
def HeapD (ps : Ps) : Prop := ∀ i p q, 0 < i → ps[i]? = some p → ps[(i - 1) / 2]? = some q → PySem.W.dataLt p.2 q.2 = false
/-- the values of a heap as they stand -/
abbrev PV (h : Heap) : List Value → Ps → Prop := Paired fun v p => RelV p.1 v ∧ ∃ as, Reads h v p.2 as
theorem pv_of {X : Cx} {pins : List (Addr × Obj)} {σ : L2.St} {H : Hp} {s : Shared} (I : Inv X pins σ H s) : ∀ {ps : Ps} {its : List Value}, (∀ p ∈ ps, Dp X.K H p.1 p.2) → Vals (ps.map (·.1)) its → PV s.heap its ps
  | [], _, _, r => by cases r; exact .nil
  | p :: ps, _, h, r => by
    cases r with
    | cons r1 r2 => exact .cons ⟨r1, Dp.reads I p.2 p.1 _ (h p List.mem_cons_self) r1⟩ (pv_of I (fun q hq => h q (List.mem_cons_of_mem _ hq)) r2)
theorem pv_vals {h : Heap} : ∀ {its : List Value} {ps : Ps}, PV h its ps → Vals (ps.map (·.1)) its
  | _, _, .nil => .nil
  | _, _, .cons h t => .cons h.1 (pv_vals t)
theorem pv_get {h : Heap} {its : List Value} {ps : Ps} (r : PV h its ps) {i : Nat} {p : V × PyData} (e : ps[i]? = some p) : ∃ v, its[i]? = some v ∧ RelV p.1 v ∧ ∃ as, Reads h v p.2 as := by
  induction r generalizing i with
  | nil => simp at e
  | @cons v q vs qs hr t ih =>
    cases i with
    | zero =>
      obtain rfl : q = p := Option.some.inj e
      exact ⟨v, rfl, hr⟩
    | succ i => exact ih (by simpa using e)
theorem pv_mem {h : Heap} {its : List Value} {ps : Ps} (r : PV h its ps) : ∀ v ∈ its, ∃ p ∈ ps, ∃ as, Reads h v p.2 as := by
  induction r with
  | nil => intro v hv; exact nomatch hv
  | @cons v q vs qs hr t ih =>
    intro u hu
    rcases List.mem_cons.mp hu with e | hu
    · rw [e]; exact ⟨q, List.mem_cons_self, hr.2⟩
    · obtain ⟨p, hp, z⟩ := ih u hu
      exact ⟨p, List.mem_cons_of_mem _ hp, z⟩
theorem gA_toList {its : List Value} {i : Nat} {v : Value} (e : its[i]? = some v) : gA its.toArray i = v := by
  unfold gA
  rw [← Array.getElem?_toList]
  show (its[i]?).getD _ = v
  rw [e]
  rfl
theorem heap_to {h : Heap} {ds : List PyData} {its : List Value} {ps : Ps} (hal : PySem.W.AllAlike ds) (hm : ∀ p ∈ ps, p.2 ∈ ds) (r : PV h its ps) (hd : HeapD ps) : HeapA (ltV h ds) its.toArray := fun i h0 h1 => by
  have hl : its.length = ps.length := Paired.length r
  have h1' : i < ps.length := by simpa [hl] using h1
  have e1 := List.getElem?_eq_getElem h1'
  have h2' : (i - 1) / 2 < ps.length := by omega
  have e2 := List.getElem?_eq_getElem h2'
  obtain ⟨v, hv, _, as, rv⟩ := pv_get r e1
  obtain ⟨u, hu, _, bs, ru⟩ := pv_get r e2
  rw [gA_toList hv, gA_toList hu, ltV_eq hal (hm _ (List.getElem_mem h1')) (hm _ (List.getElem_mem h2')) rv ru]
  exact hd i _ _ h0 e1 e2
theorem heap_from {h : Heap} {ds : List PyData} {its : List Value} {ps : Ps} (hal : PySem.W.AllAlike ds) (hm : ∀ p ∈ ps, p.2 ∈ ds) (r : PV h its ps) (hh : HeapA (ltV h ds) its.toArray) : HeapD ps := fun i p q h0 e1 e2 => by
  obtain ⟨v, hv, _, as, rv⟩ := pv_get r e1
  obtain ⟨u, hu, _, bs, ru⟩ := pv_get r e2
  have hi : i < its.toArray.size := by
    have := (List.getElem?_eq_some_iff.mp hv).1
    simpa using this
  have z := hh i h0 hi
  rw [gA_toList hv, gA_toList hu, ltV_eq hal (hm _ (List.mem_of_getElem? e1)) (hm _ (List.mem_of_getElem? e2)) rv ru] at z
  exact z
theorem ask_of {A : Around} {s : Shared} {a : Addr} {ds : List PyData} {its : List Value} {ps : Ps} (ok : HeapOk ds) (hu : A.units + 16 < cLine) (hm : ∀ p ∈ ps, p.2 ∈ ds) (r : PV s.heap its ps) (ha : ∀ o, s.heap.get? a = some o → o.cls = .type "list") : Ask A s a its (ltV s.heap ds) := by
  intro h' k x hx y hy
  obtain ⟨p, hp, as, rx⟩ := pv_mem r x hx
  obtain ⟨q, hq, bs, ry⟩ := pv_mem r y hy
  obtain ⟨n1, n2, n3⟩ := ok.no _ (hm p hp)
  obtain ⟨m1, m2, m3⟩ := ok.no _ (hm q hq)
  have ea := reads_as rx n2
  have eb := reads_as ry m2
  subst ea eb
  rw [ltV_eq ok.al (hm p hp) (hm q hq) rx ry]
  refine PySem.W.rcLt_alike p.2 q.2 A { s with heap := h' } x y [] [] (PySem.W.Reads.keepBut k ha p.2 x [] (ok.al _ (hm p hp) _ (hm p hp)) rx (by simp)) (PySem.W.Reads.keepBut k ha q.2 y [] (ok.al _ (hm q hq) _ (hm q hq)) ry (by simp)) (ok.al _ (hm p hp) _ (hm q hq)) n1 ?_
  have := Nat.min_le_left p.2.depth q.2.depth
  omega

section
variable {X : Cx} {K : PySem.W.Frag}
def rHPush (K : PySem.W.Frag) : List V → Hp → VK → Prop := fun args H Q => ∃ (a : Addr) (x : V) (d : PyData) (ps : Ps), args = [.ref a, x] ∧ H a = some (.lst (ps.map (·.1))) ∧ (∀ p ∈ ps, Dp K H p.1 p.2) ∧ Dp K H x d ∧ HeapOk (d :: ps.map (·.2)) ∧ HeapD ps ∧ ps.length < sizeLine ∧
  ∀ ps' : Ps, ps'.Perm (ps ++ [(x, d)]) → HeapD ps' → Q .non (upd H a (.lst (ps'.map (·.1))))
def rHPop (K : PySem.W.Frag) : List V → Hp → VK → Prop := fun args H Q => ∃ (a : Addr) (p0 : V × PyData) (ps : Ps), args = [.ref a] ∧ H a = some (.lst ((p0 :: ps).map (·.1))) ∧ (∀ p ∈ p0 :: ps, Dp K H p.1 p.2) ∧ HeapOk ((p0 :: ps).map (·.2)) ∧ HeapD (p0 :: ps) ∧
  ∀ ps' : Ps, ps'.Perm ps → HeapD ps' → (∀ p ∈ ps, PySem.W.dataLt p.2 p0.2 = false) → Q p0.1 (upd H a (.lst (ps'.map (·.1))))
theorem pv_snoc {h : Heap} {its : List Value} {ps : Ps} {u : Value} {p : V × PyData} (r : PV h its ps) (g : RelV p.1 u ∧ ∃ as, Reads h u p.2 as) : PV h (its ++ [u]) (ps ++ [p]) := Paired.snoc r g
theorem cr_push (hu : X.A.units + 20 < cLine) (eK : X.K = K := by rfl) : CallR X (.builtin "_heapq.heappush") (rHPush K) := by
  subst eK
  rintro pins s σ H args us Q I r ⟨a, x, d, ps, ex, hH, hps, hx, ok, hd, hz, q⟩
  subst ex
  cases r with
  | cons r0 rr =>
    cases rr with
    | @cons _ u _ _ r1 rr =>
      cases rr
      cases r0
      obtain ⟨z, its, n, rv, hl, e⟩ := I.lstM hH
      have pv := pv_of I hps rv
      have pv2 := pv_snoc pv (p := (x, d)) ⟨r1, Dp.reads I d x u hx r1⟩
      have mm : ∀ p ∈ ps ++ [(x, d)], p.2 ∈ d :: ps.map (·.2) := fun p hp => by
        rcases List.mem_append.mp hp with hp | hp
        · exact List.mem_cons_of_mem _ (List.mem_map.mpr ⟨p, hp, rfl⟩)
        · rw [List.mem_singleton.mp hp]; exact List.mem_cons_self
      have hls : its.length = ps.length := Paired.length pv
      refine call_heappush (swo_ltV s.heap (d :: ps.map (·.2))) (xs := its.toArray) e (by rw [List.size_toArray, hls]; exact hz) (heap_to ok.al (fun p hp => mm p (List.mem_append_left _ hp)) pv hd) ?_ fun xs' n' h' a1 a2 a3 a4 => ?_
      · have et : (its.toArray.push u).toList = its ++ [u] := by simp
        rw [et]
        exact ask_of ok (by show X.A.units + 1 + 16 < cLine; omega) mm pv2 fun o ho => by rw [e] at ho; rw [← Option.some.inj ho]
      · have et : (its.toArray.push u).toList = its ++ [u] := by simp
        rw [et] at a2
        obtain ⟨ps', pp, pv3⟩ := paired_perm a2 pv2
        have a1' : HeapA (ltV s.heap (d :: ps.map (·.2))) xs'.toList.toArray := by rw [Array.toArray_toList]; exact a1
        have hd' := heap_from ok.al (fun p hp => mm p (pp.mem_iff.mp hp)) pv3 a1'
        have hlen : (ps'.map (·.1)).length ≤ sizeLine := by
          rw [List.length_map, pp.length_eq, List.length_append, List.length_singleton]
          exact hz
        refine ⟨.non, upd H a (.lst (ps'.map (·.1))), ?_, rfl, q ps' pp hd'⟩
        exact I.write (x := a) (e := a) (t' := s.toks) (by rw [hH]; exact True.intro) (.inl rfl) (fun b v hb hv => a4 b v hb hv) ⟨_, a3⟩
          (show ObjOk X.prog X.w _ _ _ (.lst (ps'.map (·.1))) from ⟨hlen, xs'.toList, n', pv_vals pv3, by rw [Array.toArray_toList]; exact a3⟩)
theorem heapD_least {ds : List PyData} {p0 : V × PyData} {ps : Ps} {h : Heap} {its : List Value} (ok : HeapOk ds) (hm : ∀ p ∈ p0 :: ps, p.2 ∈ ds) (r : PV h its (p0 :: ps)) (hd : HeapD (p0 :: ps)) : ∀ p ∈ ps, PySem.W.dataLt p.2 p0.2 = false := fun p hp => by
  have hh := (heap_to ok.al hm r hd).least (swo_ltV h ds)
  obtain ⟨i, hi, e⟩ := List.getElem_of_mem hp
  have e1 : (p0 :: ps)[i + 1]? = some p := by
    rw [List.getElem?_cons_succ, List.getElem?_eq_getElem hi, e]
  obtain ⟨v, hv, _, as, rv⟩ := pv_get r e1
  obtain ⟨u, hu, _, bs, ru⟩ := pv_get r (i := 0) (p := p0) rfl
  have hs : i + 1 < its.toArray.size := by
    have := (List.getElem?_eq_some_iff.mp hv).1
    simpa using this
  have z := hh (i + 1) hs
  rw [gA_toList hv, gA_toList hu, ltV_eq ok.al (hm p (List.mem_cons_of_mem _ hp)) (hm p0 List.mem_cons_self) rv ru] at z
  exact z
theorem cr_pop (hu : X.A.units + 20 < cLine) (eK : X.K = K := by rfl) : CallR X (.builtin "_heapq.heappop") (rHPop K) := by
  subst eK
  rintro pins s σ H args us Q I r ⟨a, p0, ps, ex, hH, hps, ok, hd, q⟩
  subst ex
  cases r with
  | cons r0 rr =>
    cases rr
    cases r0
    obtain ⟨z, its, n, rv, hl, e⟩ := I.lstM hH
    have pv := pv_of I hps rv
    have mm : ∀ p ∈ p0 :: ps, p.2 ∈ (p0 :: ps).map (·.2) := fun p hp => List.mem_map.mpr ⟨p, hp, rfl⟩
    have hls : its.length = ps.length + 1 := Paired.length pv
    have hle : its.length ≤ sizeLine := by rw [← hl]; exact z
    have lst := heapD_least ok mm pv hd
    refine call_heappop (swo_ltV s.heap ((p0 :: ps).map (·.2))) (xs := its.toArray) e (by rw [List.size_toArray]; exact hle) (by rw [List.size_toArray]; omega) (heap_to ok.al mm pv hd) ?_ fun xs' n' h' a1 a2 a3 a4 => ?_
    · exact ask_of ok (by show X.A.units + 1 + 16 < cLine; omega) mm pv fun o ho => by rw [e] at ho; rw [← Option.some.inj ho]
    · cases pv with
      | @cons v0 _ vs _ hv0 tv =>
        have e0 : gA (v0 :: vs).toArray 0 = v0 := rfl
        rw [e0] at a2 ⊢
        have a2' : xs'.toList.Perm vs := List.Perm.cons_inv a2
        obtain ⟨ps', pp, pv3⟩ := paired_perm a2' tv
        have a1' : HeapA (ltV s.heap ((p0 :: ps).map (·.2))) xs'.toList.toArray := by rw [Array.toArray_toList]; exact a1
        have hd' := heap_from ok.al (fun p hp => mm p (List.mem_cons_of_mem _ (pp.mem_iff.mp hp))) pv3 a1'
        have hlen : (ps'.map (·.1)).length ≤ sizeLine := by
          rw [List.length_map, pp.length_eq]
          have : (v0 :: vs).length = ps.length + 1 := hls
          omega
        refine ⟨p0.1, upd H a (.lst (ps'.map (·.1))), ?_, hv0.1, q ps' pp hd' lst⟩
        exact I.write (x := a) (e := a) (t' := s.toks) (by rw [hH]; exact True.intro) (.inl rfl) (fun b v hb hv => a4 b v hb hv) ⟨_, a3⟩
          (show ObjOk X.prog X.w _ _ _ (.lst (ps'.map (·.1))) from ⟨hlen, xs'.toList, n', pv_vals pv3, by rw [Array.toArray_toList]; exact a3⟩)
end

/-! ### min of a list of data -/
theorem dlt_asym {x y : PyData} (h : PySem.W.dataLt x y = true) : PySem.W.dataLt y x = false := by
  cases hy : PySem.W.dataLt y x with
  | false => rfl
  | true =>
    have := PyProof.Rows.lex_trans _ _ _ h hy
    rw [PyProof.Rows.lex_irrefl] at this
    cases this
theorem dlt_tr {x y z : PyData} (h1 : PySem.W.dataLt y x = false) (h2 : PySem.W.dataLt z y = false) : PySem.W.dataLt z x = false := by
  cases hz : PySem.W.dataLt z x with
  | false => rfl
  | true =>
    rcases PyProof.Rows.lex_negTrans _ (PySem.W.keyToks y) _ hz with e | e
    · rw [show PyProof.Rows.lexLt PyProof.Rows.itemOrd (PySem.W.keyToks z) (PySem.W.keyToks y) = false from h2] at e
      cases e
    · rw [show PyProof.Rows.lexLt PyProof.Rows.itemOrd (PySem.W.keyToks y) (PySem.W.keyToks x) = false from h1] at e
      cases e
theorem minD_le : ∀ (xs : List PyData) (x : PyData), PySem.W.dataLt x (PySem.W.minD x xs) = false ∧ ∀ y ∈ xs, PySem.W.dataLt y (PySem.W.minD x xs) = false
  | [], x => ⟨PyProof.Rows.lex_irrefl _, fun y h => (nomatch h)⟩
  | z :: xs, x => by
    have e : PySem.W.minD x (z :: xs) = PySem.W.minD (if PySem.W.dataLt z x = true then z else x) xs := rfl
    rw [e]
    obtain ⟨h1, h2⟩ := minD_le xs (if PySem.W.dataLt z x = true then z else x)
    by_cases c : PySem.W.dataLt z x = true
    · rw [if_pos c] at h1 h2 ⊢
      refine ⟨dlt_tr h1 (dlt_asym c), fun y hy => ?_⟩
      rcases List.mem_cons.mp hy with q | hy
      · rw [q]; exact h1
      · exact h2 y hy
    · rw [if_neg c] at h1 h2 ⊢
      have c' : PySem.W.dataLt z x = false := by
        cases q : PySem.W.dataLt z x with
        | false => rfl
        | true => exact absurd q c
      refine ⟨h1, fun y hy => ?_⟩
      rcases List.mem_cons.mp hy with q | hy
      · rw [q]; exact dlt_tr h1 c'
      · exact h2 y hy
theorem minD_mem : ∀ (xs : List PyData) (x : PyData), PySem.W.minD x xs ∈ x :: xs
  | [], x => List.mem_cons_self
  | z :: xs, x => by
    have e : PySem.W.minD x (z :: xs) = PySem.W.minD (if PySem.W.dataLt z x = true then z else x) xs := rfl
    rw [e]
    have h := minD_mem xs (if PySem.W.dataLt z x = true then z else x)
    rcases List.mem_cons.mp h with q | q
    · rw [q]
      by_cases c : PySem.W.dataLt z x = true
      · rw [if_pos c]; simp
      · rw [if_neg c]; simp
    · exact List.mem_cons_of_mem _ (List.mem_cons_of_mem _ q)
def rMinD (K : PySem.W.Frag) : List V → Hp → VK → Prop := fun vs H Q => ∃ (a : Addr) (us : List V) (ds : List PyData), vs = [.ref a] ∧ SqL K H a us ∧ DpAll K H us ds ∧ 0 < ds.length ∧ (∀ x ∈ ds, ∀ y ∈ ds, PySem.W.alike x y = true) ∧ (∀ x ∈ ds, x ≠ .none) ∧ PyData.depthAll ds ≤ 8 ∧
  ∀ (i : Nat) v d, us[i]? = some v → ds[i]? = some d → (∀ y ∈ ds, PySem.W.dataLt y d = false) → Q v H
theorem reads_get {h : Heap} : ∀ {vs : List Value} {ds : List PyData} {as : List Addr}, ReadsAll h vs ds as → ∀ {i : Nat} {v : Value} {d : PyData}, vs[i]? = some v → ds[i]? = some d → ∃ bs, Reads h v d bs
  | _, _, _, .nil, i, v, d, e, _ => by simp at e
  | _, _, _, .cons h1 h2, i, v, d, e, f => by
    cases i with
    | zero =>
      obtain rfl := Option.some.inj e
      obtain rfl := Option.some.inj f
      exact ⟨_, h1⟩
    | succ i => exact reads_get h2 (i := i) (by simpa using e) (by simpa using f)
theorem cr_minD {X : Cx} {K : PySem.W.Frag} (hc : X.calm = true) (hu : X.A.units + 20 < cLine) (eK : X.K = K := by rfl) : CallR X (.builtin "min") (rMinD K) := by
  subst eK
  rintro pins s σ H vs us Q I r ⟨a, ws, ds, ex, hs, dp, h0, hal, hno, hdp, q⟩
  subst ex
  obtain ⟨its, rv, hl, _⟩ := I.list hs
  rw [Vals.ref1 r]
  obtain ⟨as, hr⟩ := Dp.readsAll I ds ws its dp rv
  cases ds with
  | nil => exact absurd h0 (Nat.lt_irrefl _)
  | cons d ds =>
    have hr' : ReadsAll s.heap its.toArray.toList (d :: ds) as := hr
    refine PySem.W.min_list_data (I.ok.hd hc) hl.isList hr' ⟨hal, hno⟩ (by omega) fun i v h' tk bs hi rd hk => ?_
    have hi' : its[i]? = some v := by rw [← Array.getElem?_toList] at hi; exact hi
    have hlen := rv.length
    have hli : i < its.length := (List.getElem?_eq_some_iff.mp hi').1
    have hld : its.length = (d :: ds).length := by rw [← hlen, dps_len dp]
    have hd' := List.getElem?_eq_getElem (l := d :: ds) (i := i) (by omega)
    generalize (d :: ds)[i] = e at hd'
    have me : e ∈ d :: ds := List.mem_of_getElem? hd'
    obtain ⟨bs2, rd2⟩ := reads_get hr hi' hd'
    have hw := List.getElem?_eq_getElem (l := ws) (i := i) (by omega)
    generalize ws[i] = wv at hw
    obtain ⟨u, hu2, ru⟩ := rv.get hw
    rw [hi'] at hu2
    obtain rfl := Option.some.inj hu2
    have mm : PySem.W.minD d ds ∈ d :: ds := by
      exact minD_mem ds d
    have ee : e = PySem.W.minD d ds := PySem.W.alike_unique _ _ _ _ _ (hal _ me _ mm) (PyProof.Rows.Reads.keeps hk rd2) rd
    refine ⟨wv, H, I.kept hk, ru, q i wv e hw hd' ?_⟩
    rw [ee]
    intro y hy
    obtain ⟨m1, m2⟩ := minD_le ds d
    rcases List.mem_cons.mp hy with z | hy
    · rw [z]; exact m1
    · exact m2 y hy

/-! ### d.items() -/
theorem inv_frzV {X : Cx} {pins : List (Addr × Obj)} {σ : L2.St} {H : Hp} {s : Shared} {d : Addr} {o : Obj} {xs : List NE} (I : Inv X pins σ H s) (h : H d = some (.frz o (ndO X.prog X.w d xs))) :
    s.heap.get? d = some o ∧ o.ExactDict ∧ ∃ (es : Array DictEntry) (ep : Nat), o.data = .dict es ep ∧ es.size = xs.length ∧ ∀ (i : Nat) (k : NK) (q : Addr) (v : V), xs[i]? = some (k, q, v) → ∃ en : DictEntry, es[i]? = some en ∧ en.key = .ref q ∧ RelV v en.val := by
  obtain ⟨hd, ⟨ys, o', es, ep, rel, ho, hx, hdt, he, _⟩, _⟩ := I.hok d _ h
  rw [hd] at ho
  cases ho
  refine ⟨hd, hx, es, ep, hdt, ?_, fun i k q v e => ?_⟩
  · have l1 : es.size = ys.length := size_of_entries he
    have l2 : xs.length = ys.length := Paired.length rel
    omega
  · obtain ⟨b, hb, e1, e2, e3⟩ := paired_get rel e
    have z := entry_at he i
    rw [hb] at z
    exact ⟨_, z, by show Value.ref b.2.1 = Value.ref q; rw [show q = b.2.1 from e2], e3⟩
def Itni (P : Program) (w : World) (d : Addr) (o : Obj) (xs : List NE) : It :=
  ⟨fun i H => H d = some (.frz o (ndO P w d xs)) ∧ i < xs.length, fun i H x H' => ∃ (T : Addr) (k : NK) (q : Addr) (v : V), xs[i]? = some (k, q, v) ∧ x = .ref T ∧ H T = none ∧ H' = upd H T (.tup [.ref q, v]), fun i H => H d = some (.frz o (ndO P w d xs)) ∧ xs.length ≤ i⟩
section
variable {P : Program} {w : World} {K : PySem.W.Frag} {d : Addr} {o : Obj} {es : Array DictEntry} {ep : Nat}
theorem turn_itemsN {xs : List NE} {elts : List Expr} {kk : Nat} {tpos : Pos} (it : Addr) (hod : o.data = .dict es ep) :
    Turn P w K (.Tuple elts kk tpos) (Itni P w d o xs) [it] it (fun i h => ∃ ok ov, IsItemIter h it d i xs.length ep ok ov) where
  mem := by simp
  obj := fun i h st b hb => by
    have e : b = it := by simpa using hb
    subst e
    obtain ⟨ok, ov, e⟩ := st
    exact ⟨_, e, fun v z => nomatch z⟩
  keep := fun i h h' st k => let ⟨ok, ov, e⟩ := st; ⟨ok, ov, k it (by simp) _ e⟩
  item := by
    intro X hP hw hK hc i pins s σ H E I hf st hg
    subst hP hw hK
    obtain ⟨hd, hi⟩ := hg
    obtain ⟨hgd, hx, es', ep', hdt, hsz, ent⟩ := inv_frzV I hd
    obtain ⟨rfl, rfl⟩ := dict_ep hod hdt
    obtain ⟨⟨k, q, v⟩, hkv⟩ : ∃ p, xs[i]? = some p := ⟨xs[i], List.getElem?_eq_getElem hi⟩
    obtain ⟨en, hen, hkey, hval⟩ := ent i k q v hkv
    have hi' : i < es'.size := by rw [hsz]; exact hi
    have ee : es'[i] = en := by
      rw [Array.getElem?_eq_getElem hi'] at hen
      exact Option.some.inj hen
    obtain ⟨ok, ov, he⟩ := st
    rw [← hsz] at he
    have hlt : it < s.heap.objs.size := Heap.lt_size he
    refine DT.nextI he ⟨o, hgd, hx, hdt⟩ hi' fun h' ho hT hz hk => ?_
    rw [ee] at ho hT
    refine ⟨_, rfl, wpAny_letOwnedTupleGo_items (s := { s with heap := h' }) ho fun h'' he' sb => ?_⟩
    have hT2 : h''.get? s.heap.objs.size = some { cls := .type "tuple", data := .seq #[en.key, en.val] } := (sb.2 _ (Nat.ne_of_gt hlt)).trans hT
    have new : ObjOk X.prog X.w (upd H s.heap.objs.size (.tup [.ref q, v])) h'' s.heap.objs.size (.tup [.ref q, v]) :=
      ⟨by show 2 ≤ sizeLine; decide, [en.key, en.val], .cons hkey (.cons hval .nil), ⟨_, hT2, rfl, _, rfl⟩⟩
    have I1 : Inv X pins σ (upd H s.heap.objs.size (.tup [.ref q, v])) { s with heap := h'' } :=
      I.turnedNew (t' := s.toks) (ch := [it]) (fun b ob hb e => (sb.2 b (by simpa using hb)).trans (hk b ob (by simpa using hb) e)) hf (Nat.le_refl _) new
    refine ⟨.ref s.heap.objs.size, _, I1, rfl, ⟨_, k, q, v, hkv, rfl, I.hok.fresh (Nat.le_refl _), rfl⟩, ⟨en.key, en.val, ?_⟩, fun b hb => ?_⟩
    · rw [← hsz]; exact he'
    · have e : b = it := by simpa using hb
      rw [e, upd_ne (Nat.ne_of_lt hlt)]
      exact (hf it (by simp)).1
  done := by
    intro X hP hw hK hc i pins s σ H E I hf st hg
    subst hP hw hK
    obtain ⟨hd, hi⟩ := hg
    obtain ⟨f0, f1, f2, f3, f4, f5⟩ := hf it (by simp)
    obtain ⟨hgd, hx, es', ep', hdt, hsz, ent⟩ := inv_frzV I hd
    obtain ⟨rfl, rfl⟩ := dict_ep hod hdt
    obtain ⟨ok, ov, he⟩ := st
    rw [← hsz] at he
    exact DT.endI (I.ok.hd hc) he ⟨o, hgd, hx, hdt⟩ (by rw [hsz]; exact hi) fun h' eb => ⟨rfl, I.turned (t' := s.toks) (fun b ob hb e => eb b ob hb e) f0 f1 f3 f4 f5⟩
  self := fun A i s Q E st h => let ⟨_, _, e⟩ := st; PySem.W.kcp_self e h
end
def iNItems (P : Program) (w : World) (td : TE) : TI := fun σ H R => td σ H fun x H1 => ∃ (d : Addr) (o : Obj) (xs : List NE), x = .ref d ∧ (d == sysModules) = false ∧ H1 d = some (.frz o (ndO P w d xs)) ∧ R (Itni P w d o xs) H1
section
variable {X : Cx} {P : Program} {w : World} {e : Expr} {td : TE} {apos cpos : Pos}
theorem pi_nitems {elts : List Expr} {kk : Nat} {tpos : Pos} (he : PE X e td) (hbase : attributeBase e "items" X.env (eval e X.env) = eval e X.env := by rfl) (hline : (apos.endLine == cpos.line) = true := by rfl) (eP : X.prog = P := by rfl) (eW : X.w = w := by rfl) :
    PI X (.Tuple elts kk tpos) (.Call (.Attribute e "items" apos) [] [] cpos) (iNItems P w td) := by
  subst eP eW
  refine ⟨fun pins s σ H R I h => ?_⟩
  refine wpAny_Call_method (T := "dict") (id := "dict.items") hbase rfl hline F.plainAttrs_dict F.slot_dict_items F.type_dict_items (thn (he.run pins s σ H _ I h) fun u s1 ⟨x, H1, I1, rx, d, o, xs, ex, hs, hd, q⟩ => ?_)
  subst ex
  obtain rfl : u = Value.ref d := rx
  obtain ⟨hgd, hx, es, ep, hdt, hsz, ent⟩ := inv_frzV I1 hd
  have raw : DT.Raw s1.heap d es ep := ⟨o, hgd, hx, hdt⟩
  refine ⟨raw.typeIs, fun b z => ?_, ?_⟩
  · cases z
    exact ⟨o, hgd, hx.2.1⟩
  have I2 : Inv X pins σ H1 { s1 with heap := s1.heap.push { cls := .type "dict_items", data := .fields #[.ref d] } } := I1.kept (t' := s1.toks) fun b ob q => Heap.get?_push_of_some _ q
  have fin : wpAny (model X.prog X.w) X.A (pyIter (.ref s1.heap.objs.size)) (PIE X pins σ (.Tuple elts kk tpos) R) X.xe { s1 with heap := s1.heap.push { cls := .type "dict_items", data := .fields #[.ref d] } } := by
    refine DT.iterI (d := d) ⟨_, Heap.get?_push_size _ rfl, rfl, rfl⟩ (raw.push _) (pi_one (tk := s1.toks) I2 _ (turn_itemsN _ hdt) ⟨.none, .none, ?_⟩ q)
    rw [← hsz]
    exact Heap.get?_push_size _ rfl
  show wpAny _ _ (callWith cpos (.builtin "dict.items") [.ref d] [] []) _ X.xe s1
  exact method_meetsIn F.slot_dict_items F.entry_dict_items rfl (PySem.evalArgs_none ⟨rfl, raw.typeIs, F.args_dict_items_1 _, _, DT.meetsItems (es := es) (ep := ep) hs, raw, fin⟩)
end

/-! ## the least cost of a way to an end: there is one -/
/-- c is the least cost of a way from s to an end, none where there is no way -/
def Least (S : Sto) (s : Sta) : Option (Nat × Nat) → Prop
  | none => ∀ ts u, Way S s ts u → isEndS S u = false
  | some c => (∃ ts u, Way S s ts u ∧ isEndS S u = true ∧ costP ts = c) ∧ ∀ ts u, Way S s ts u → isEndS S u = true → ¬ ltp (costP ts) c
theorem ltp_tot {x y : Nat × Nat} (h : ¬ ltp x y) (g : ¬ ltp y x) : x = y := by
  unfold ltp at h g
  obtain ⟨a, b⟩ := x
  obtain ⟨c, d⟩ := y
  simp only at h g
  have e1 : a = c := by omega
  subst e1
  have e2 : b = d := by omega
  rw [e2]
theorem Least.eq {S : Sto} {s : Sta} {x y : Option (Nat × Nat)} (h : Least S s x) (g : Least S s y) : x = y := by
  cases x with
  | none =>
    cases y with
    | none => rfl
    | some d =>
      obtain ⟨⟨ts, u, w, e, _⟩, _⟩ := g
      rw [h ts u w] at e
      cases e
  | some c =>
    cases y with
    | none =>
      obtain ⟨⟨ts, u, w, e, _⟩, _⟩ := h
      rw [g ts u w] at e
      cases e
    | some d =>
      obtain ⟨⟨ts, u, w, e, hc⟩, h2⟩ := h
      obtain ⟨⟨ts', u', w', e', hd⟩, g2⟩ := g
      have a := g2 ts u w e
      have b := h2 ts' u' w' e'
      rw [hc] at a
      rw [hd] at b
      rw [ltp_tot a b]
theorem ltp_more {x y : Nat × Nat} {t : Stp} (h : ¬ ltp x y) : ¬ ltp (moreT x t) (moreT y t) := by
  unfold ltp moreT at *
  simp only at h ⊢
  omega
theorem ltp_trn {x y z : Nat × Nat} (h : ¬ ltp x y) (g : ¬ ltp y z) : ¬ ltp x z := by
  unfold ltp at *
  omega
theorem way_head {S : Sto} {s u : Sta} {t : Stp} {ts : List Stp} (w : Way S s (t :: ts) u) : t ∈ openSteps S s ∧ Way S (behindS S s t) ts u :=
  ⟨open_of (w.ok t List.mem_cons_self) w.op.1, ⟨fun x hx => w.ok x (List.mem_cons_of_mem _ hx), w.op.2, w.run⟩⟩
theorem costP_cons (t : Stp) (ts : List Stp) : costP (t :: ts) = moreT (costP ts) t := by
  unfold costP moreT
  simp
  omega
/-- values with these three words are the least costs -/
theorem below {S : Sto} {fo : List Sta} {v : Val} (cl : ∀ s ∈ fo, ∀ t ∈ openSteps S s, behindS S s t ∈ fo) (ends : ∀ s ∈ fo, isEndS S s = true → v s = some (0, 0)) (gain : ∀ s ∈ fo, NoGain S v s) {u : Sta} (hu : isEndS S u = true) :
    ∀ {ts : List Stp} {s : Sta}, s ∈ fo → Way S s ts u → ∃ c, v s = some c ∧ ¬ ltp (costP ts) c
  | [], s, hs, w => by
    have e : s = u := w.run
    rw [← e] at hu
    refine ⟨(0, 0), ends s hs hu, ?_⟩
    unfold ltp costP
    simp
  | t :: ts, s, hs, w => by
    obtain ⟨ht, w'⟩ := way_head w
    obtain ⟨o, ho, hl⟩ := below cl ends gain hu (cl s hs t ht) w'
    obtain ⟨c, hc, hg⟩ := gain s hs t ht o ho
    refine ⟨c, hc, ?_⟩
    rw [costP_cons]
    exact ltp_trn (ltp_more hl) hg
theorem least_of {S : Sto} {fo : List Sta} {v : Val} (cl : ∀ s ∈ fo, ∀ t ∈ openSteps S s, behindS S s t ∈ fo) (va : Valid S v) (ends : ∀ s ∈ fo, isEndS S s = true → v s = some (0, 0)) (gain : ∀ s ∈ fo, NoGain S v s) : ∀ s ∈ fo, Least S s (v s) := by
  intro s hs
  cases hv : v s with
  | none =>
    intro ts u w
    cases hu : isEndS S u with
    | false => rfl
    | true =>
      obtain ⟨c, hc, _⟩ := below cl ends gain hu hs w
      rw [hv] at hc
      cases hc
  | some c =>
    refine ⟨?_, fun ts u w hu => ?_⟩
    · obtain ⟨ts, u, w, hu, hc⟩ := va s c hv
      exact ⟨ts, u, w, hu, hc⟩
    · obtain ⟨d, hd, hl⟩ := below cl ends gain hu hs w
      rw [hv] at hd
      rw [Option.some.inj hd]
      exact hl
theorem Best.least {S : Sto} {s0 : Sta} {fo : List Sta} {v : Val} (F : Found S s0 fo fo.length) (B : Best S fo v) : ∀ s ∈ fo, Least S s (v s) :=
  least_of (fun s hs t ht => F.cl s (by rw [List.take_length]; exact hs) t ht) B.valid B.ends B.gain
/-- what is found is what steps come to, and nothing else -/
theorem found_iff {S : Sto} {s0 s : Sta} {fo : List Sta} (F : Found S s0 fo fo.length) : s ∈ fo ↔ ∃ ts, Way S s0 ts s := by
  refine ⟨F.way s, fun ⟨ts, w⟩ => ?_⟩
  have go : ∀ {ts : List Stp} {a : Sta}, a ∈ fo → Way S a ts s → s ∈ fo := by
    intro ts
    induction ts with
    | nil => intro a ha w; rw [← show a = s from w.run]; exact ha
    | cons t ts ih =>
      intro a ha w
      obtain ⟨ht, w'⟩ := way_head w
      exact ih (F.cl a (by rw [List.take_length]; exact ha) t ht) w'
  exact go F.hd w

/-! ## the search by a queue: what stays so -/
abbrev Item := (Nat × Nat) × Sta
structure Dij (S : Sto) (fo : List Sta) (v : Val) (q : List Item) : Prop where
  va : Valid S v
  qv : ∀ x ∈ q, x.2 ∈ fo ∧ ∃ ts u, Way S x.2 ts u ∧ isEndS S u = true ∧ costP ts = x.1
  ends : ∀ s ∈ fo, isEndS S s = true → v s = some (0, 0) ∨ ((0, 0), s) ∈ q
  gain : ∀ s ∈ fo, ∀ t ∈ openSteps S s, ∀ o, v (behindS S s t) = some o → (∃ c, v s = some c ∧ ¬ ltp (moreT o t) c) ∨ (moreT o t, s) ∈ q
  mono : ∀ s c, v s = some c → ∀ x ∈ q, ¬ ltp x.1 c
theorem ltp_irr (x : Nat × Nat) : ¬ ltp x x := by
  unfold ltp
  omega
theorem more_ge (x : Nat × Nat) (t : Stp) : ¬ ltp (moreT x t) x := by
  unfold ltp moreT
  simp only
  omega
theorem zero_le {x : Nat × Nat} (h : ¬ ltp (0, 0) x) : x = (0, 0) := by
  unfold ltp at h
  obtain ⟨a, b⟩ := x
  simp only at h
  have e1 : a = 0 := by omega
  subst e1
  have e2 : b = 0 := by omega
  rw [e2]
/-- the state that comes out has its cost already -/
theorem Dij.skip {S : Sto} {fo : List Sta} {v : Val} {q q' : List Item} {c : Nat × Nat} {s : Sta} {c0 : Nat × Nat} (D : Dij S fo v q) (p : ((c, s) :: q').Perm q) (h : v s = some c0) : Dij S fo v q' := by
  have sub : ∀ x ∈ q', x ∈ q := fun x hx => p.mem_iff.mp (List.mem_cons_of_mem _ hx)
  have hm := D.mono s c0 h (c, s) (p.mem_iff.mp List.mem_cons_self)
  refine ⟨D.va, fun x hx => D.qv x (sub x hx), fun a ha he => ?_, fun a ha t ht o ho => ?_, fun a d hd x hx => D.mono a d hd x (sub x hx)⟩
  · rcases D.ends a ha he with e | e
    · exact .inl e
    · rcases List.mem_cons.mp (p.mem_iff.mpr e) with z | z
      · obtain ⟨z1, z2⟩ := Prod.mk.inj z
        subst z2
        rw [← z1] at hm
        exact .inl (by rw [h, zero_le hm])
      · exact .inr z
  · rcases D.gain a ha t ht o ho with e | e
    · exact .inl e
    · rcases List.mem_cons.mp (p.mem_iff.mpr e) with z | z
      · obtain ⟨z1, z2⟩ := Prod.mk.inj z
        subst z2
        exact .inl ⟨c0, h, by rw [z1]; exact hm⟩
      · exact .inr z
/-- the state gets its cost, and those ahead of it come into the queue -/
theorem Dij.take {S : Sto} {fo : List Sta} {v : Val} {q q' r : List Item} {c : Nat × Nat} {s : Sta} (D : Dij S fo v q) (p : ((c, s) :: q').Perm q) (h : v s = none) (hmin : ∀ x ∈ q', ¬ ltp x.1 c)
    (r1 : ∀ x ∈ r, ∃ a t, a ∈ fo ∧ t ∈ openSteps S a ∧ behindS S a t = s ∧ x = (moreT c t, a)) (r2 : ∀ a ∈ fo, ∀ t ∈ openSteps S a, behindS S a t = s → (moreT c t, a) ∈ r) : Dij S fo (setv v s (some c)) (q' ++ r) := by
  have sub : ∀ x ∈ q', x ∈ q := fun x hx => p.mem_iff.mp (List.mem_cons_of_mem _ hx)
  have inq := p.mem_iff.mp (List.mem_cons_self (a := (c, s)) (l := q'))
  obtain ⟨_, ts0, u0, w0, e0, k0⟩ := D.qv _ inq
  have sv : ∀ a, a ≠ s → setv v s (some c) a = v a := fun a ha => if_neg ha
  refine ⟨fun a x e => ?_, fun x hx => ?_, fun a ha he => ?_, fun a ha t ht o ho => ?_, fun a d hd x hx => ?_⟩
  · by_cases ea : a = s
    · subst ea
      rw [setv_at] at e
      exact ⟨ts0, u0, w0, e0, by rw [k0]; exact Option.some.inj e⟩
    · rw [sv a ea] at e
      exact D.va a x e
  · rcases List.mem_append.mp hx with hx | hx
    · exact D.qv x (sub x hx)
    · obtain ⟨a, t, ha, ht, hb, rfl⟩ := r1 x hx
      refine ⟨ha, t :: ts0, u0, Way.cons ht (by rw [hb]; exact w0), e0, ?_⟩
      rw [costP_cons, k0]
  · by_cases ea : a = s
    · subst ea
      rcases D.ends a ha he with e | e
      · rw [h] at e; cases e
      · rcases List.mem_cons.mp (p.mem_iff.mpr e) with z | z
        · exact .inl (by rw [setv_at, (Prod.mk.inj z).1])
        · have m := hmin _ z
          exact .inl (by rw [setv_at, zero_le m])
    · rw [sv a ea]
      rcases D.ends a ha he with e | e
      · exact .inl e
      · rcases List.mem_cons.mp (p.mem_iff.mpr e) with z | z
        · exact absurd (Prod.mk.inj z).2 ea
        · exact .inr (List.mem_append_left _ z)
  · by_cases eb : behindS S a t = s
    · rw [eb, setv_at] at ho
      rw [← Option.some.inj ho]
      exact .inr (List.mem_append_right _ (r2 a ha t ht eb))
    · rw [sv _ eb] at ho
      rcases D.gain a ha t ht o ho with ⟨d, hd, hl⟩ | e
      · have ea : a ≠ s := fun z => by rw [z, h] at hd; cases hd
        exact .inl ⟨d, by rw [sv a ea]; exact hd, hl⟩
      · rcases List.mem_cons.mp (p.mem_iff.mpr e) with z | z
        · obtain ⟨z1, z2⟩ := Prod.mk.inj z
          subst z2
          exact .inl ⟨c, setv_at, by rw [z1]; exact ltp_irr c⟩
        · exact .inr (List.mem_append_left _ z)
  · have hc : ∀ d', v a = some d' → ¬ ltp c d' := fun d' hd' => D.mono a d' hd' (c, s) inq
    by_cases ea : a = s
    · subst ea
      rw [setv_at] at hd
      rw [← Option.some.inj hd]
      rcases List.mem_append.mp hx with hx | hx
      · exact hmin x hx
      · obtain ⟨b, t, _, _, _, rfl⟩ := r1 x hx
        exact more_ge c t
    · rw [sv a ea] at hd
      rcases List.mem_append.mp hx with hx | hx
      · exact D.mono a d hd x (sub x hx)
      · obtain ⟨b, t, _, _, _, rfl⟩ := r1 x hx
        exact ltp_trn (more_ge c t) (hc d hd)
/-- the queue is empty: the costs are the least -/
theorem Dij.least {S : Sto} {fo : List Sta} {v : Val} (cl : ∀ s ∈ fo, ∀ t ∈ openSteps S s, behindS S s t ∈ fo) (D : Dij S fo v []) : ∀ s ∈ fo, Least S s (v s) :=
  least_of cl D.va (fun s hs he => (D.ends s hs he).elim id fun z => (nomatch z)) fun s hs t ht o ho => (D.gain s hs t ht o ho).elim id fun z => (nomatch z)

/-! ## the search by a stack: what stays so -/
structure Stk (S : Sto) (s0 : Sta) (vis wait : List Sta) : Prop where
  nd : vis.Nodup
  st : s0 ∈ vis ∨ s0 ∈ wait
  wv : ∀ s ∈ vis, ∃ ts, Way S s0 ts s
  ww : ∀ s ∈ wait, ∃ ts, Way S s0 ts s
  nx : ∀ s ∈ vis, ∀ t ∈ openSteps S s, behindS S s t ∈ vis ∨ behindS S s t ∈ wait
theorem Stk.start {S : Sto} {s0 : Sta} : Stk S s0 [] [s0] := ⟨List.nodup_nil, .inr (List.mem_singleton.mpr rfl), fun s h => (nomatch h), fun s h => by rw [List.mem_singleton.mp h]; exact ⟨[], .nil⟩, fun s h => (nomatch h)⟩
theorem Stk.len {S : Sto} {s0 : Sta} {vis wait : List Sta} (h : Stk S s0 vis wait) (ok : StoOk S) (h0 : StaOk S s0) : vis.length ≤ 3072 :=
  Nat.le_trans (nodup_len h.nd fun s hs => mem_univ (let ⟨_, w⟩ := h.wv s hs; w.sta ok h0)) (univ_few ok)
theorem Stk.seen {S : Sto} {s0 s : Sta} {vis wait : List Sta} (h : Stk S s0 vis (wait ++ [s])) (m : s ∈ vis) : Stk S s0 vis wait := by
  have out : ∀ x, x ∈ wait ++ [s] → x ∈ vis ∨ x ∈ wait := fun x hx => by
    rcases List.mem_append.mp hx with z | z
    · exact .inr z
    · rw [List.mem_singleton.mp z]; exact .inl m
  exact ⟨h.nd, h.st.elim .inl (out _), h.wv, fun x hx => h.ww x (List.mem_append_left _ hx), fun x hx t ht => (h.nx x hx t ht).elim .inl (out _)⟩
theorem Stk.see {S : Sto} {s0 s : Sta} {vis wait : List Sta} (h : Stk S s0 vis (wait ++ [s])) (m : s ∉ vis) : Stk S s0 (vis ++ [s]) (wait ++ nextsS S s) := by
  obtain ⟨ts, w⟩ := h.ww s (List.mem_append_right _ (List.mem_singleton.mpr rfl))
  have out : ∀ x, x ∈ wait ++ [s] → x ∈ vis ++ [s] ∨ x ∈ wait ++ nextsS S s := fun x hx => by
    rcases List.mem_append.mp hx with z | z
    · exact .inr (List.mem_append_left _ z)
    · exact .inl (List.mem_append_right _ z)
  refine ⟨?_, h.st.elim (fun z => .inl (List.mem_append_left _ z)) (out _), fun x hx => ?_, fun x hx => ?_, fun x hx t ht => ?_⟩
  · rw [List.nodup_append]
    refine ⟨h.nd, by simp, fun x hx y hy => ?_⟩
    rw [List.mem_singleton.mp hy]
    exact fun e => m (by rw [← e]; exact hx)
  · rcases List.mem_append.mp hx with z | z
    · exact h.wv x z
    · rw [List.mem_singleton.mp z]; exact ⟨ts, w⟩
  · rcases List.mem_append.mp hx with z | z
    · exact h.ww x (List.mem_append_left _ z)
    · obtain ⟨t, ht, rfl⟩ := List.mem_map.mp z
      exact ⟨_, w.snoc ht⟩
  · rcases List.mem_append.mp hx with z | z
    · exact (h.nx x z t ht).elim (fun q => .inl (List.mem_append_left _ q)) (out _)
    · rw [List.mem_singleton.mp z] at ht ⊢
      exact .inr (List.mem_append_right _ (List.mem_map.mpr ⟨t, ht, rfl⟩))
theorem Stk.all {S : Sto} {s0 : Sta} {vis : List Sta} (h : Stk S s0 vis []) : Found S s0 vis vis.length :=
  ⟨h.nd, h.st.elim id fun z => (nomatch z), h.wv, fun s hs t ht => (h.nx s (by rw [List.take_length] at hs; exact hs) t ht).elim id fun z => (nomatch z)⟩

structure WS (P : Program) (w : World) (K : PySem.W.Frag) (S : Sto) (H0 H : Hp) (q W : Addr) (wait vis : List Sta) (xs : List V) : Prop where
  base : Same H0 (imm [q, W] H)
  el : H q = some (.lst xs)
  dx : DpAll K (imm [q, W] H) xs (dstates wait)
  n : TdW P w K (imm [q, W] H) H W (tabOf (dnext S) vis)
section
variable {P : Program} {w : World} {K : PySem.W.Frag} {S : Sto} {H0 H H' : Hp} {q W : Addr} {wait vis : List Sta} {xs : List V}
theorem WS.pure (A : WS P w K S H0 H q W wait vis xs) (s : Same H H') : WS P w K S H0 H' q W wait vis xs := ⟨A.base.trans (imm_mono s), s _ _ A.el, dps_mono (imm_mono s) A.dx, A.n.mono (imm_mono s) s⟩
theorem WS.mu (A : WS P w K S H0 H q W wait vis xs) : Mu [q, W] H := fun b hb => by
  obtain ⟨es, e1, _⟩ := A.n
  simp only [List.mem_cons, List.not_mem_nil, or_false] at hb
  rcases hb with rfl | rfl
  · exact ⟨_, A.el, nt_lst⟩
  · exact ⟨_, e1, nt_nd⟩
theorem WS.ne (A : WS P w K S H0 H q W wait vis xs) : q ≠ W := A.n.ne A.el
theorem WS.set (A : WS P w K S H0 H q W wait vis xs) {ys : List V} {wait' : List Sta} (d : DpAll K (imm [q, W] H) ys (dstates wait')) : WS P w K S H0 (upd H q (.lst ys)) q W wait' vis ys := by
  have e : imm [q, W] (upd H q (.lst ys)) = imm [q, W] H := imm_upd (by simp)
  exact ⟨by rw [e]; exact A.base, upd_same, by rw [e]; exact d, by rw [e]; exact A.n.at_ (upd_ne (Ne.symm A.ne))⟩
end
section
variable {P : Program} {w : World} {K : PySem.W.Frag} {mg : Str → Option Value} {base : Heap}
def spWaysFrom (P : Program) (w : World) (K : PySem.W.Frag) (C : Addr) : Sp := fun vs H Q _ => ∃ (p : Addr) (v : V) (S : Sto) (s : Sta), vs = [.ref p, v] ∧ Ob K C H p S ∧ StoOk S ∧ Dp K H v s.d ∧ StaOk S s ∧
  ∀ d B' H' vis, Same H B' → Same B' H' → B' d = none → H d = none → TdW P w K B' H' d (tabOf (dnext S) vis) → Found S s vis vis.length → Q (.ref d) H'
/-! _ways_from: 0 store, 1 first, 2 ways, 3 waiting, 4 state, 5 step, 6 _, 7 later -/
abbrev s__ways_from : Stmt := topS 27
abbrev N__ways_from : List Str := ["store", "first", "ways", "waiting", "state", "step", "_", "later"]
theorem sc__ways_from : FnScope N__ways_from ["store", "first"] (defScope s__ways_from) := ⟨rfl, rfl, rfl, by decide +kernel, rfl, by decide +kernel, by decide +kernel⟩
theorem ok__ways_from {f f1 f2 C : Addr} {fd fd1 fd2 : FuncData} (D : Dfs K mg "_ways_from" s__ways_from ["store", "first"] f fd) (T : Tx K mg) (C_steps_at : Cal P w K mg base 6 "steps_at" ["store", "state"] (spStepsAt K C) f1 fd1)
    (C_behind : Cal P w K mg base 2 "behind" ["store", "state", "step"] (spBehind K C) f2 fd2) : Cal P w K mg base 7 "_ways_from" ["store", "first"] (spWaysFrom P w K C) f fd := by
  refine D.cal (D.F.ok sc__ways_from (fun vs H Q E h => ?_) (fun cdv A outer s H vs Q E hr h => ?_))
  · obtain ⟨p, v, S, s, rfl, _⟩ := h
    rfl
  · obtain ⟨p, v, S, st, rfl, ob, ok, hv, sk, q⟩ := h
    obtain ⟨b0, rfl⟩ := sta_ref hv
    refine ⟨_, (pss_cons (ps_set (i := 2) sc__ways_from.nd rfl (Or.inl rfl) (pe_nnew (P := P) (w := w)))
      (pss_cons (ps_set (i := 3) sc__ways_from.nd rfl (Or.inl rfl) (pe_lst (pa_cons (pv 1) pa_nil)))
      (pss_cons (ps_while PassesOwn.never (pt_cmpR op_gt (pe_callB (klen (K := K)) (by rfl) T.n_len (by decide +kernel) (pa_cons (pv 3) pa_nil)) pe_int (nomark _)) (pss_cons (ps_set (i := 4) sc__ways_from.nd rfl (Or.inr rfl) (pe_bm0 PySem.F.plainAttrs_list PySem.F.slot_list_pop PySem.F.type_list_pop mt_pop (pv 3)))
      (pss_one (ps_if (pt_cmpR (op_nnotin (P := P) (w := w) (K := K) (hu16 hr)) (pv 4) (pv 2) (by rfl)) (pss_cons (ps_nput (P := P) (w := w) (K := K) (hu16 hr) (pv 2) (pv 4) (pe_lc (own := [("step", 5)]) (g := gName 5) rfl sc__ways_from.nd (pi_list (by exact (pe_call C_steps_at.G (hr.mono (by decide)) (by rfl) C_steps_at.g C_steps_at.kp C_steps_at.b .nil pass0 (pa_cons (pv 0) (pa_cons (pv 4) pa_nil))))) (blkOk_by (own := [("step", 5)]) (N := N__ways_from) (sc := defScope s__ways_from) (by decide +kernel)) (fun _ _ _ _ _ => (pg_name (i := 5) sc__ways_from.nd rfl (Or.inl rfl))) (fun _ _ _ _ _ => pts_nil) (fun _ _ _ _ _ => by exact (pe_tup (pa_cons (pv 5) (pa_cons (pe_call C_behind.G (hr.mono (by decide)) (by rfl) C_behind.g C_behind.kp C_behind.b .nil pass0 (pa_cons (pv 0) (pa_cons (pv 4) (pa_cons (pv 5) pa_nil)))) pa_nil))))) rfl)
      (pss_one (ps_expr (pe_bm PySem.F.plainAttrs_list PySem.F.slot_list_extend PySem.F.type_list_extend mt_extend (pv 3) (pa_cons (pe_lc (own := [("_", 6), ("later", 7)]) (g := gTup K 2 (gCons (gName 6) (gCons (gName 7) gNil))) rfl sc__ways_from.nd (pi_list (by exact (pe_nget (P := P) (w := w) (K := K) (hu16 hr) (pv 2) (pv 4) (fun _ _ => rfl)))) (blkOk_by (own := [("_", 6), ("later", 7)]) (N := N__ways_from) (sc := defScope s__ways_from) (by decide +kernel)) (fun _ _ _ _ _ => (kpg_tup (K := K) (by rfl) (pgs_cons (pg_name (i := 6) sc__ways_from.nd rfl (Or.inl rfl)) (pgs_cons (pg_name (i := 7) sc__ways_from.nd rfl (Or.inl rfl)) pgs_nil)))) (fun _ _ _ _ _ => pts_nil) (fun _ _ _ _ _ => (pv 7))) pa_nil))))) pss_nil))))
      (pss_one (ps_ret (pv 2)))))), ?_⟩
    refine fun W nW sW => ⟨_, rfl, small (by simp), fun F nF => ?_⟩
    have A0 : WS P w K S H (upd (upd H W (ndO P w W [])) F (.lst [.ref b0])) F W [st] [] [.ref b0] := by
      have nFW : F ≠ W := fun e => by rw [e, upd_same] at nF; cases nF
      have hF : H F = none := by rw [upd_ne nFW] at nF; exact nF
      have e : imm [F, W] (upd (upd H W (ndO P w W [])) F (.lst [.ref b0])) = imm [F, W] H := by rw [imm_upd (by simp), imm_upd (by simp)]
      have sb : Same H (imm [F, W] H) := imm_keep (Same.refl _) fun a ha => by
        simp only [List.mem_cons, List.not_mem_nil, or_false] at ha
        rcases ha with rfl | rfl
        · exact hF
        · exact nW
      exact ⟨by rw [e]; exact sb, upd_same, by rw [e]; exact .cons (dp_mono sb hv) .nil, ⟨[], by rw [upd_ne (Ne.symm nFW)]; exact upd_same, .nil, Nat.zero_le _, sW⟩⟩
    generalize upd (upd H W (ndO P w W [])) F (.lst [.ref b0]) = H4 at A0 ⊢
    refine ⟨fun m σ H' => ∃ (wait vis : List Sta) (xs : List V) (v4 : Option V), σ = [some (.ref p), some (.ref b0), some (.ref W), some (.ref F), v4, none, none, none] ∧ m + 13 * vis.length = 13 * 3072 + wait.length ∧ Stk S st vis wait ∧ wait.length ≤ 1 + 12 * vis.length ∧ WS P w K S H H' F W wait vis xs,
      ⟨13 * 3072 + 1, [st], [], _, none, rfl, rfl, Stk.start, by simp, A0⟩, ?_⟩
    rintro m σ H5 ⟨wait, vis, xs, v4, rfl, em, K5, lw, A⟩
    have few := K5.len ok sk
    have lx : xs.length = wait.length := (dps_len A.dx).trans (List.length_map ..)
    refine ⟨_, rfl, F, xs, rfl, .inl (SqL.of A.el), _, _, rfl, rfl, _, rfl, ?_⟩
    by_cases hw : wait = []
    · subst hw
      refine (if_neg (by rw [decide_eq_false (by rw [lx]; simp)]; exact Bool.false_ne_true)).mpr ?_
      exact ⟨_, rfl, q W (imm [F, W] H5) H5 vis A.base imm_sub (imm_in (by simp)) (A.base.free (imm_in (by simp))) A.n K5.all⟩
    · obtain ⟨wait', here, ew⟩ : ∃ l x, wait = l ++ [x] := by
        rcases List.eq_nil_or_concat wait with e | ⟨l, x, e⟩
        · exact absurd e hw
        · exact ⟨l, x, by rw [e, List.concat_eq_append]⟩
      subst ew
      have lw1 : (wait' ++ [here]).length = wait'.length + 1 := by rw [List.length_append, List.length_singleton]
      have hmem : (wait' ++ [here])[wait'.length]? = some here := by
        rw [List.getElem?_append_right (Nat.le_refl _), Nat.sub_self]
        rfl
      obtain ⟨y, hy, dy⟩ := dps_get A.dx (i := wait'.length) (d := here.d) (by unfold dstates; rw [List.getElem?_map, hmem]; rfl)
      have okh : StaOk S here := let ⟨_, w⟩ := K5.ww here (List.mem_of_getElem? hmem); w.sta ok sk
      obtain ⟨by_, rfl⟩ := sta_ref dy
      refine (if_pos (decide_eq_true (by rw [lx, lw1]; omega))).mpr ⟨fun σ' H' => ∃ m', m' < m ∧ ∃ (wait vis : List Sta) (xs : List V) (v4 : Option V), σ' = [some (.ref p), some (.ref b0), some (.ref W), some (.ref F), v4, none, none, none] ∧ m' + 13 * vis.length = 13 * 3072 + wait.length ∧ Stk S st vis wait ∧ wait.length ≤ 1 + 12 * vis.length ∧ WS P w K S H H' F W wait vis xs, fun _ _ h => h, ?_⟩
      refine ⟨_, rfl, .inl ⟨rfl, _, SqL.of A.el⟩, F, xs, _, rfl, rfl, A.el, by rw [lx, lw1]; exact hy, ?_⟩
      have A6 : WS P w K S H (upd H5 F (.lst xs.dropLast)) F W wait' vis xs.dropLast := A.set (by
        have h := dps_take A.dx wait'.length
        have e1 : xs.take wait'.length = xs.dropLast := by rw [List.dropLast_eq_take, lx, lw1]; rfl
        have e2 : (dstates (wait' ++ [here])).take wait'.length = dstates wait' := by
          unfold dstates
          rw [← List.map_take, List.take_left]
        rw [e1, e2] at h
        exact h)
      have e6 : imm [F, W] (upd H5 F (.lst xs.dropLast)) = imm [F, W] H5 := imm_upd (by simp)
      have dy6 : Dp K (imm [F, W] (upd H5 F (.lst xs.dropLast))) (.ref by_) here.d := by rw [e6]; exact dy
      generalize upd H5 F (.lst xs.dropLast) = H6 at A6 dy6 ⊢
      obtain ⟨o, g, ro⟩ := td_get A6.n.r imm_sub (dp_mono imm_sub dy6)
      refine ⟨_, rfl, _, rfl, W, o, rfl, g, _, rfl, ?_⟩
      by_cases hm : here ∈ vis
      · rw [getM_in hm] at ro
        refine (if_neg (by rw [ro.some_eq]; exact Bool.false_ne_true)).mpr ?_
        exact ⟨m - 1, by omega, wait', vis, _, _, rfl, by omega, K5.seen hm, by omega, A6⟩
      · rw [getM_out hm] at ro
        refine (if_pos (by rw [ro.some_eq]; rfl)).mpr ?_
        have K6 := K5.see hm
        have hn : (nextsS S here).length ≤ 12 := by
          unfold nextsS
          rw [List.length_map]
          exact open_few ok
        obtain ⟨lf1, lf2⟩ := sta_few ok okh
        have ob6 := (ob.mono A6.base).mono (imm_sub (ms := [F, W]) (H := H6))
        refine ⟨_, rfl, _, rfl, p, _, S, here, rfl, ob6, dp_mono imm_sub dy6, ok, okh.done, fun r zs H7 s7 nr7 e7 dz => ?_⟩
        refine ⟨r, rfl, ⟨zs, SqL.of e7⟩, fun D nD => ?_⟩
        have A7 := A6.pure s7
        have lz : zs.length = (openSteps S here).length := (dps_len dz).trans (List.length_map ..)
        refine lc_list (K := K) (a := r) (xs := zs) (fun j H' => ∃ us, AcqM K [F, W] H7 H' D us (((openSteps S here).take j).map (pairT S here))) ⟨[], AcqM.start nD⟩ (fun j H' _ ⟨us, C⟩ => SqL.of (C.same _ _ e7)) ?_ ?_
        · rintro j z H8 hz ⟨us, C⟩
          obtain ⟨d, hd, dz8⟩ := dps_of_get dz hz
          obtain ⟨t, ht, rfl⟩ := step_item hd
          have s8 := C.same
          refine ⟨rfl, _, rfl, _, rfl, _, rfl, _, rfl, p, _, z, S, here, t, rfl, ob6.mono (s7.trans s8), dp_mono (s7.trans s8) (dp_mono imm_sub dy6), dp_mono s8 dz8, (open_ok (List.mem_of_getElem? ht)).1, by omega, by omega, fun b H9 s9 db => ⟨small (by simp), fun pp np => ?_⟩⟩
          have C9 := (C.pure s9).pure (same_new (o := .tup [z, b]) np)
          refine ⟨us, C9.el, ?_, us ++ [.ref pp], ?_⟩
          · have e := dps_len C.dx
            have e2 := open_few (s := here) ok
            rw [List.length_map, List.length_take] at e
            exact size4 (by omega)
          · have e : (((openSteps S here).take (j + 1)).map (pairT S here)) = ((openSteps S here).take j).map (pairT S here) ++ [pairT S here t] := by
              rw [take_snoc ht, List.map_append]
              rfl
            rw [e]
            refine C9.app (dp_imm (C9.mu A7.mu).no (.tup tup_new (.cons (dp_mono ((s8.trans s9).trans (same_new np)) dz8) (.cons (dp_mono (same_new np) db) .nil))) (noL_pair S here t))
        · rintro H8 ⟨us, C⟩
          rw [lz, List.take_length] at C
          have A8 := A7.pure C.same
          have dn := C.end_ A7.mu nD
          have dy8 := dp_mono (imm_mono (ms := [F, W]) (s7.trans C.same)) dy6
          obtain ⟨es9, np, t9⟩ := td_put (u := dnext S here) A8.n imm_sub dy8 dn (size4 (by rw [tabOf_len]; omega))
          rw [putM_new hm rfl fun _ _ => rfl] at t9
          have e9 : imm [F, W] (upd H8 W (ndO P w W es9)) = imm [F, W] H8 := imm_upd (by simp)
          have A9 : WS P w K S H (upd H8 W (ndO P w W es9)) F W wait' (vis ++ [here]) xs.dropLast := ⟨by rw [e9]; exact A8.base, by rw [upd_ne A8.ne]; exact A8.el, by rw [e9]; exact A8.dx, by rw [e9]; exact t9⟩
          have dy9 : Dp K (imm [F, W] (upd H8 W (ndO P w W es9))) (.ref by_) here.d := by rw [e9]; exact dy8
          refine ⟨_, rfl, _, rfl, W, _, rfl, np, ?_⟩
          generalize upd H8 W (ndO P w W es9) = H9 at A9 dy9 ⊢
          -- waiting.extend
          obtain ⟨v8, g8, d8⟩ := td_at A9.n.r imm_sub (dp_mono imm_sub dy9) (getM_in (List.mem_append_right _ (List.mem_singleton.mpr rfl)))
          obtain ⟨D8, ps, rfl, hD8, dps8⟩ := dp_lst d8
          have lps : ps.length = (openSteps S here).length := (dps_len dps8).trans (List.length_map ..)
          refine ⟨_, rfl, .inl ⟨rfl, _, SqL.of A9.el⟩, _, rfl, _, rfl, W, _, rfl, g8, D8, rfl, ⟨ps, Same.l imm_sub hD8⟩, fun D2 nD2 => ?_⟩
          refine lc_list (K := K) (a := D8) (xs := ps) (fun j H' => ∃ us, AcqM K [F, W] H9 H' D2 us (dstates (((openSteps S here).take j).map (behindS S here)))) ⟨[], AcqM.start nD2⟩ (fun j H' _ ⟨us, C⟩ => Same.l (imm_sub.trans C.same) hD8) ?_ ?_
          · rintro j z H10 hz ⟨us, C⟩
            obtain ⟨d, hd, dz10⟩ := dps_of_get dps8 hz
            rw [List.getElem?_map] at hd
            cases ht : (openSteps S here)[j]? with
            | none => rw [ht] at hd; cases hd
            | some t =>
              rw [ht] at hd
              rw [← Option.some.inj hd] at dz10
              obtain ⟨az, zz, rfl, hz1, hz2⟩ := dp_tup dz10
              obtain ⟨x1, r1, rfl, g1, k1⟩ := dps_cons hz2
              obtain ⟨x2, r2, rfl, g2, k2⟩ := dps_cons k1
              obtain rfl := dps_nil k2
              refine ⟨az, _, rfl, Same.t (imm_sub.trans C.same) hz1, rfl, _, _, rfl, _, _, rfl, rfl, rfl, _, rfl, us, C.el, ?_, us ++ [x2], ?_⟩
              · have e := dps_len C.dx
                have e2 := open_few (s := here) ok
                unfold dstates at e
                rw [List.length_map, List.length_map, List.length_take] at e
                exact size4 (by omega)
              · have e : dstates (((openSteps S here).take (j + 1)).map (behindS S here)) = dstates (((openSteps S here).take j).map (behindS S here)) ++ [(behindS S here t).d] := by
                  rw [take_snoc ht, List.map_append]
                  exact List.map_append ..
                rw [e]
                refine C.app (dp_imm (C.mu (fun a ha => A9.mu a ha)).no (dp_mono (imm_sub.trans C.same) g2) (noL_sta _))
          · rintro H10 ⟨us, C⟩
            rw [lps, List.take_length] at C
            have A10 := A9.pure C.same
            have dn2 := C.end_ A9.mu nD2
            have du : DpAll K (imm [F, W] H10) us (dstates (nextsS S here)) := dps_mono imm_cons C.dx
            have lu : us.length = (nextsS S here).length := (dps_len du).trans (List.length_map ..)
            have ldl : xs.dropLast.length = wait'.length := (dps_len A10.dx).trans (List.length_map ..)
            have few2 := K6.len ok sk
            rw [List.length_append, List.length_singleton] at few2
            refine ⟨F, D2, xs.dropLast, us, rfl, rfl, A10.el, C.el, by rw [sizeLine_eq]; omega, ?_⟩
            have A11 := A10.set (ys := xs.dropLast ++ us) (wait' := wait' ++ nextsS S here) (by
              have e : dstates (wait' ++ nextsS S here) = dstates wait' ++ dstates (nextsS S here) := List.map_append ..
              rw [e]
              exact dps_app A10.dx du)
            refine ⟨m + (nextsS S here).length - 14, ?_, wait' ++ nextsS S here, vis ++ [here], _, _, rfl, ?_, K6, ?_, A11⟩
            · omega
            · simp only [List.length_append, List.length_singleton]
              omega
            · simp only [List.length_append, List.length_singleton]
              omega
end

theorem hu20 {k : Nat} {A : Around} (hr : Room k A) : A.units + 20 < cLine := by
  have := hr.un
  omega
section
variable {P : Program} {w : World} {K : PySem.W.Frag} {mg : Str → Option Value} {base : Heap}
def CostsAre (m : List (Sta × PyData)) (v : Val) (vis : List Sta) : Prop := ∀ s ∈ vis, getM m s = (v s).map fun c => dval (some c)
def spPaperP (P : Program) (w : World) (K : PySem.W.Frag) : Sp := fun vs H Q _ => ∃ (dw dc : Addr) (B : Hp) (S : Sto) (vis : List Sta) (v : Val) (m : List (Sta × PyData)), vs = [.ref dw, .ref dc] ∧ TdR P w K B H dw (tabOf (dnext S) vis) ∧ TdR P w K B H dc m ∧ CostsAre m v vis ∧ Same B H ∧ vis.length ≤ 3900 ∧
  ∀ q zs H' l, Same H H' → H q = none → H' q = some (.lst zs) → l.Perm vis → l.Pairwise SLe → DpAll K (imm [dw, dc] H') zs (dpaps (papOf v l)) → Q (.ref q) H'
/-! _paper: 0 ways, 1 costs, 2 paper, 3 state, 4 number, 5 _ -/
abbrev s__paper : Stmt := topS 32
abbrev N__paper : List Str := ["ways", "costs", "paper", "state", "number", "_"]
theorem sc__paper : FnScope N__paper ["ways", "costs"] (defScope s__paper) := ⟨rfl, rfl, rfl, by decide +kernel, rfl, by decide +kernel, by decide +kernel⟩
theorem ok__paper {f : Addr} {fd : FuncData} (D : Dfs K mg "_paper" s__paper ["ways", "costs"] f fd) (T : Tx K mg) : Cal P w K mg base 1 "_paper" ["ways", "costs"] (spPaperP P w K) f fd := by
  refine D.cal (D.F.ok sc__paper (fun vs H Q E h => ?_) (fun cdv A outer s H vs Q E hr h => ?_))
  · obtain ⟨dw, dc, B, S, vis, v, m, rfl, _⟩ := h
    rfl
  · obtain ⟨dw, dc, B, S, vis, v, m, rfl, tw, tc, cs, R, lv, q⟩ := h
    refine ⟨_, (pss_cons (ps_set (i := 2) sc__paper.nd rfl (Or.inl rfl) (pe_lst pa_nil))
      (pss_cons (ps_for PassesOwn.never rfl (pi_list (by exact (pe_callB (call_nsort (P := P) (w := w) (K := K) rfl (hu16 hr)) (by rfl) T.n_sorted (by decide +kernel) (pa_cons (pv 0) pa_nil)))) (pg_name (i := 3) sc__paper.nd rfl (Or.inl rfl)) (pss_cons (ps_set (i := 4) sc__paper.nd rfl (Or.inl rfl) pe_non)
      (C8.pss_cut (ps_if (pt_cmpR (op_nin (P := P) (w := w) (K := K) (hu16 hr)) (pv 3) (pv 1) (by rfl)) (pss_one (ps_asg (pe_nget (P := P) (w := w) (K := K) (hu16 hr) (pv 1) (pv 3) (fun _ _ => rfl)) (pg_tup (by rfl) (pgs_cons (pg_name (i := 4) sc__paper.nd rfl (Or.inl rfl)) (pgs_cons (pg_name (i := 5) sc__paper.nd rfl (Or.inl rfl)) pgs_nil))))) pss_nil)
      (pss_one (ps_expr (pe_bm PySem.F.plainAttrs_list PySem.F.slot_list_append PySem.F.type_list_append mt_append (pv 2) (pa_cons (pe_tup (pa_cons (pv 3) (pa_cons (pv 4) pa_nil))) pa_nil)))))))
      (pss_one (ps_ret (pv 2))))), ?_⟩
    refine ⟨small (by simp), fun q1 n1 => ?_⟩
    have mu : Mu [dw, dc] H := fun b hb => by
      simp only [List.mem_cons, List.not_mem_nil, or_false] at hb
      rcases hb with rfl | rfl
      · exact tw.mu _ (by simp)
      · exact tc.mu _ (by simp)
    have C1 : AcqM K [dw, dc] H (upd H q1 (.lst [])) q1 [] [] := AcqM.start n1
    have tw1 := tw.mono (Same.refl B) C1.same
    obtain ⟨es, nr, tt⟩ := tw1.ndr (R.trans C1.same)
    obtain ⟨a1, a2, a3⟩ := tab_sort tt
    refine ⟨_, rfl, dw, es, rfl, nr, a1, a2, a3, fun q2 n2 => ?_⟩
    obtain ⟨m', pm, tm⟩ := paired_perm (List.mergeSort_perm es leE) tt
    obtain ⟨l, pl, rfl⟩ := perm_tab pm
    have ll : l.length = vis.length := pl.length_eq
    have lm : (es.mergeSort leE).length = l.length := (Paired.length tm).trans tabOf_len
    have C2 := C1.pure (same_new (o := .lst ((es.mergeSort leE).map fun e => V.ref e.2.1)) n2)
    have n21 : q2 ≠ q1 := fun e => by rw [e, upd_same] at n2; cases n2
    refine ⟨q2, rfl, ⟨_, lst_new⟩, for_list (K := K) (a := q2) (xs := (es.mergeSort leE).map fun e => V.ref e.2.1) (fun j σ H' => ∃ (us : List V) (v3 v4 v5 : Option V), σ = [some (.ref dw), some (.ref dc), some (.ref q1), v3, v4, v5] ∧ H' q2 = some (.lst ((es.mergeSort leE).map fun e => V.ref e.2.1)) ∧ AcqM K [dw, dc] H H' q1 us (dpaps (papOf v (l.take j))))
      ⟨[], none, none, none, rfl, upd_same, C2⟩ (fun j σ H' _ ⟨us, v3, v4, v5, _, e, _⟩ => SqL.of e) ?_ ?_⟩
    · rintro j x σ H3 hx ⟨us, v3, v4, v5, rfl, e3, C⟩
      rw [List.getElem?_map] at hx
      cases he : (es.mergeSort leE)[j]? with
      | none => rw [he] at hx; cases hx
      | some e =>
        rw [he] at hx
        obtain rfl := Option.some.inj hx
        obtain ⟨y, hy, h1, h2, h3⟩ := paired_get tm he
        unfold tabOf at hy
        rw [List.getElem?_map] at hy
        cases hl : l[j]? with
        | none => rw [hl] at hy; cases hy
        | some st =>
          rw [hl] at hy
          obtain rfl := Option.some.inj hy
          have ms : st ∈ vis := pl.mem_iff.mp (List.mem_of_getElem? hl)
          have R3 := R.trans C.same
          obtain ⟨o, g, ro⟩ := td_get (tc.mono (Same.refl B) C.same) R3 (dp_mono R3 h2)
          rw [cs st ms] at ro
          refine ⟨fun σ H' => H' = H3 ∧ ∃ (n : V) (v5 : Option V), σ = [some (.ref dw), some (.ref dc), some (.ref q1), some (.ref e.2.1), some n, v5] ∧ Dp K B n (dnum (numV (v st))), ?_, ?_⟩
          · refine ⟨_, rfl, _, rfl, dc, o, rfl, g, _, rfl, ?_⟩
            cases hv : v st with
            | none =>
              rw [hv] at ro
              exact (if_neg (by rw [ro.some_eq]; exact Bool.false_ne_true)).mpr ⟨rfl, .non, _, rfl, .non⟩
            | some c =>
              rw [hv] at ro
              obtain ⟨vo, rfl, dv⟩ := ro.of_some
              obtain ⟨ao, zz, rfl, z1, z2⟩ := dp_tup dv
              obtain ⟨y1, r1, rfl, i1, j1⟩ := dps_cons z2
              obtain ⟨y2, r2, rfl, i2, j2⟩ := dps_cons j1
              obtain rfl := dps_nil j2
              refine (if_pos rfl).mpr ?_
              exact ⟨_, rfl, _, rfl, dc, _, rfl, g, ao, _, rfl, Same.t R3 z1, rfl, _, _, rfl, _, _, rfl, rfl, rfl, y1, _, rfl, i1⟩
          · rintro σ H3' ⟨rfl, n, v5', rfl, hn⟩
            refine ⟨_, rfl, .inl ⟨rfl, _, SqL.of C.el⟩, _, rfl, _, rfl, small (by simp), fun p np => ?_⟩
            have sp := same_new (o := .tup [.ref e.2.1, n]) np
            have C4 := C.pure sp
            have el := dps_len C.dx
            refine ⟨q1, us, _, rfl, rfl, C4.el, ?_, us ++ [.ref p], _, _, _, rfl, ?_, ?_⟩
            · unfold dpaps papOf at el
              rw [List.length_map, List.length_map, List.length_take] at el
              exact size4 (by omega)
            · rw [upd_ne n21]
              exact sp _ _ e3
            · have ee : dpaps (papOf v (l.take (j + 1))) = dpaps (papOf v (l.take j)) ++ [dpap (st, numV (v st))] := by
                rw [take_snoc hl]
                unfold dpaps papOf
                rw [List.map_append, List.map_append]
                rfl
              rw [ee]
              refine C4.app (dp_imm (C4.mu mu).no (.tup tup_new (.cons (dp_mono (R3.trans sp) h2) (.cons (dp_mono (R3.trans sp) hn) .nil))) ?_)
              show (noL st.d && (noL (dnum _) && true)) = true
              rw [noL_sta, nodot]
              rfl
    · rintro σ H3 ⟨us, v3, v4, v5, rfl, e3, C⟩
      rw [List.length_map, lm, List.take_length] at C
      exact ⟨_, rfl, q q1 us H3 l C.same n1 C.el pl (sorted_tab tm (leE_sorted es)) (dps_mono imm_cons C.dx)⟩
end

/-! ## choices: what the least of them tells -/
def choiceD (S : Sto) (s : Sta) (t : Stp) (o : Nat × Nat) : PyData := .tuple [.int ((o.1 : Int) + costOf t), .int (o.2 : Int), t.d, (behindS S s t).d]
theorem choice_lt {S : Sto} {s : Sta} {t t' : Stp} {o o' : Nat × Nat} (h : PySem.W.dataLt (choiceD S s t' o') (choiceD S s t o) = false) : ¬ ltp (moreT o' t') (moreT o t) := by
  intro l
  have c1 : costOf t = (shiftsT t : Nat) := isShift_n t
  have c2 : costOf t' = (shiftsT t' : Nat) := isShift_n t'
  unfold choiceD at h
  rw [PySem.W.dataLt_tuple, PySem.W.dataLt_cons (by simp [PySem.W.alike]), PySem.W.dataLt_int] at h
  unfold ltp moreT at l
  simp only at l
  by_cases e : PyData.eqv (.int ((o'.1 : Int) + costOf t')) (.int ((o.1 : Int) + costOf t)) = true
  · rw [if_pos e, PySem.W.dataLt_cons (by simp [PySem.W.alike]), PySem.W.dataLt_int] at h
    have e' : (o'.1 : Int) + costOf t' = (o.1 : Int) + costOf t := by simpa [PyData.eqv] using e
    by_cases f : PyData.eqv (.int (o'.2 : Int)) (.int (o.2 : Int)) = true
    · have f' : (o'.2 : Int) = (o.2 : Int) := by simpa [PyData.eqv] using f
      omega
    · rw [if_neg f] at h
      have := of_decide_eq_false h
      omega
  · rw [if_neg e] at h
    have := of_decide_eq_false h
    have e' : ¬ (o'.1 : Int) + costOf t' = (o.1 : Int) + costOf t := fun z => e (by simp [PyData.eqv, z])
    omega
theorem stp_alike (t t' : Stp) : PySem.W.alike t.d t'.d = true := by
  cases t <;> cases t' <;> simp [Stp.d, PySem.W.alike, PySem.W.alikeAll]
theorem choice_alike (S : Sto) (s : Sta) (t t' : Stp) (o o' : Nat × Nat) : PySem.W.alike (choiceD S s t o) (choiceD S s t' o') = true := by
  unfold choiceD
  simp only [PySem.W.alike, PySem.W.alikeAll, stp_alike, alike_sta, Bool.and_true, Bool.true_and]

section
variable {P : Program} {w : World} {K : PySem.W.Frag} {mg : Str → Option Value} {base : Heap}
def choicesD (S : Sto) (s : Sta) (v : Val) (l : List Stp) : List PyData := l.filterMap fun t => (v (behindS S s t)).map fun o => choiceD S s t o
def spBestStep (P : Program) (w : World) (K : PySem.W.Frag) : Sp := fun vs H Q _ => ∃ (ls dc : Addr) (B : Hp) (S : Sto) (s : Sta) (us : List V) (v : Val) (m : List (Sta × PyData)), vs = [.ref ls, .ref dc] ∧ StoOk S ∧ SqL K B ls us ∧ DpAll K B us ((openSteps S s).map (pairT S s)) ∧ TdR P w K B H dc m ∧ CostsAre m v (nextsS S s) ∧ Same B H ∧
  (∃ t ∈ openSteps S s, (v (behindS S s t)).isSome = true) ∧ ∀ p x y H' t o, Same H H' → SqT K H' p [x, y] → Dp K H' x t.d → Dp K H' y (behindS S s t).d → t ∈ openSteps S s → v (behindS S s t) = some o → (∀ t' ∈ openSteps S s, ∀ o', v (behindS S s t') = some o' → ¬ ltp (moreT o' t') (moreT o t)) → Q (.ref p) H'
/-! _best_step: 0 steps, 1 costs, 2 choices, 3 step, 4 later, 5 moved, 6 many, 7 _ -/
abbrev s__best_step : Stmt := topS 31
abbrev N__best_step : List Str := ["steps", "costs", "choices", "step", "later", "moved", "many", "_"]
theorem sc__best_step : FnScope N__best_step ["steps", "costs"] (defScope s__best_step) := ⟨rfl, rfl, rfl, by decide +kernel, rfl, by decide +kernel, by decide +kernel⟩
theorem ok__best_step {f f1 : Addr} {fd fd1 : FuncData} (D : Dfs K mg "_best_step" s__best_step ["steps", "costs"] f fd) (T : Tx K mg) (C_shifts_of : Cal P w K mg base 1 "shifts_of" ["step"] (spShiftsOf K) f1 fd1) : Cal P w K mg base 2 "_best_step" ["steps", "costs"] (spBestStep P w K) f fd := by
  refine D.cal (D.F.ok sc__best_step (fun vs H Q E h => ?_) (fun cdv A outer s H vs Q E hr h => ?_))
  · obtain ⟨ls, dc, B, S, s, us, v, m, rfl, _⟩ := h
    rfl
  · obtain ⟨ls, dc, B, S, st, us, v, m, rfl, ok, hl, dx, tc, cs, R, ⟨t0, ht0, hv0⟩, q⟩ := h
    refine ⟨_, (pss_cons (ps_set (i := 2) sc__best_step.nd rfl (Or.inl rfl) (pe_lst pa_nil))
      (pss_cons (ps_for PassesOwn.never rfl (pi_list (pv 0)) (pg_tup (by rfl) (pgs_cons (pg_name (i := 3) sc__best_step.nd rfl (Or.inl rfl)) (pgs_cons (pg_name (i := 4) sc__best_step.nd rfl (Or.inl rfl)) pgs_nil))) (pss_one (ps_if (pt_cmpR (op_nin (P := P) (w := w) (K := K) (hu16 hr)) (pv 4) (pv 1) (by rfl)) (pss_cons (ps_asg (pe_nget (P := P) (w := w) (K := K) (hu16 hr) (pv 1) (pv 4) (fun _ _ => rfl)) (pg_tup (by rfl) (pgs_cons (pg_name (i := 5) sc__best_step.nd rfl (Or.inl rfl)) (pgs_cons (pg_name (i := 6) sc__best_step.nd rfl (Or.inl rfl)) pgs_nil))))
      (pss_one (ps_expr (pe_bm PySem.F.plainAttrs_list PySem.F.slot_list_append PySem.F.type_list_append mt_append (pv 2) (pa_cons (pe_tup (pa_cons (pe_op op_add (pv 5) (pe_call C_shifts_of.G (hr.mono (by decide)) (by rfl) C_shifts_of.g C_shifts_of.kp C_shifts_of.b .nil pass0 (pa_cons (pv 3) pa_nil))) (pa_cons (pv 6) (pa_cons (pv 3) (pa_cons (pv 4) pa_nil))))) pa_nil))))) pss_nil)))
      (pss_cons (ps_asg (pe_callB (cr_minD (K := K) rfl (hu20 hr)) (by rfl) T.n_min (by decide +kernel) (pa_cons (pv 2) pa_nil)) (pg_tup (by rfl) (pgs_cons (pg_name (i := 7) sc__best_step.nd rfl (Or.inl rfl)) (pgs_cons (pg_name (i := 7) sc__best_step.nd rfl (Or.inl rfl)) (pgs_cons (pg_name (i := 3) sc__best_step.nd rfl (Or.inl rfl)) (pgs_cons (pg_name (i := 4) sc__best_step.nd rfl (Or.inl rfl)) pgs_nil))))))
      (pss_one (ps_ret (pe_tup (pa_cons (pv 3) (pa_cons (pv 4) pa_nil)))))))), ?_⟩
    refine ⟨small (by simp), fun q1 n1 => ?_⟩
    have mu : Mu [dc] H := tc.mu
    have C1 : AcqM K [dc] H (upd H q1 (.lst [])) q1 [] [] := AcqM.start n1
    have lx : us.length = (openSteps S st).length := (dps_len dx).trans (List.length_map ..)
    refine ⟨_, rfl, ls, rfl, ⟨us, Same.l (R.trans C1.same) hl⟩, for_list (K := K) (a := ls) (xs := us) (fun j σ H' => ∃ (zs : List V) (v3 v4 v5 v6 v7 : Option V), σ = [some (.ref ls), some (.ref dc), some (.ref q1), v3, v4, v5, v6, v7] ∧ AcqM K [dc] H H' q1 zs (choicesD S st v ((openSteps S st).take j)))
      ⟨[], none, none, none, none, none, rfl, C1⟩ (fun j σ H' _ ⟨zs, v3, v4, v5, v6, v7, _, C⟩ => Same.l (R.trans C.same) hl) ?_ ?_⟩
    · rintro j z σ H3 hz ⟨zs, v3, v4, v5, v6, v7, rfl, C⟩
      obtain ⟨d, hd, dz⟩ := dps_of_get dx hz
      rw [List.getElem?_map] at hd
      cases ht : (openSteps S st)[j]? with
      | none => rw [ht] at hd; cases hd
      | some t =>
        rw [ht] at hd
        rw [← Option.some.inj hd] at dz
        obtain ⟨az, zz, rfl, hz1, hz2⟩ := dp_tup dz
        obtain ⟨x1, r1, rfl, g1, k1⟩ := dps_cons hz2
        obtain ⟨x2, r2, rfl, g2, k2⟩ := dps_cons k1
        obtain rfl := dps_nil k2
        have mt := List.mem_of_getElem? ht
        have mn : behindS S st t ∈ nextsS S st := List.mem_map.mpr ⟨t, mt, rfl⟩
        have R3 := R.trans C.same
        have ec : choicesD S st v ((openSteps S st).take (j + 1)) = choicesD S st v ((openSteps S st).take j) ++ (match v (behindS S st t) with
          | none => []
          | some o => [choiceD S st t o]) := by
          rw [take_snoc ht]
          unfold choicesD
          rw [List.filterMap_append]
          congr 1
          cases hv : v (behindS S st t) <;> simp [hv]
        obtain ⟨o, g, ro⟩ := td_get (tc.mono (Same.refl B) C.same) R3 (dp_mono R3 g2)
        rw [cs _ mn] at ro
        refine ⟨az, _, rfl, Same.t R3 hz1, rfl, _, _, rfl, _, _, rfl, rfl, _, rfl, _, rfl, dc, o, rfl, g, _, rfl, ?_⟩
        cases hv : v (behindS S st t) with
        | none =>
          rw [hv] at ro ec
          refine (if_neg (by rw [ro.some_eq]; exact Bool.false_ne_true)).mpr ⟨zs, _, _, _, _, _, rfl, ?_⟩
          rw [show choicesD S st v ((openSteps S st).take (j + 1)) = choicesD S st v ((openSteps S st).take j) from ec.trans (List.append_nil _)]
          exact C
        | some c =>
          rw [hv] at ro ec
          obtain ⟨vo, rfl, dv⟩ := ro.of_some
          obtain ⟨ao, zz, rfl, z1, z2⟩ := dp_tup dv
          obtain ⟨y1, r1, rfl, i1, j1⟩ := dps_cons z2
          obtain ⟨y2, r2, rfl, i2, j2⟩ := dps_cons j1
          obtain rfl := dps_nil j2
          rw [dp_int i1, dp_int i2] at z1
          refine (if_pos rfl).mpr ?_
          refine ⟨_, rfl, _, rfl, dc, _, rfl, g, ao, _, rfl, Same.t R3 z1, rfl, _, _, rfl, _, _, rfl, rfl, ?_⟩
          refine ⟨_, rfl, .inl ⟨rfl, _, SqL.of C.el⟩, _, rfl, _, rfl, x1, t, rfl, dp_mono R3 g1, fun H4 s4 => ?_⟩
          refine ⟨(c.1 : Int), costOf t, rfl, rfl, _, rfl, _, rfl, _, rfl, small (by simp), fun p np => ?_⟩
          have sp := same_new (o := .tup [.int ((c.1 : Int) + costOf t), .int (c.2 : Int), x1, x2]) np
          have C4 := (C.pure s4).pure sp
          have el := dps_len C.dx
          have R4 := (R3.trans s4).trans sp
          refine ⟨q1, zs, _, rfl, rfl, C4.el, ?_, zs ++ [.ref p], _, _, _, _, _, rfl, ?_⟩
          · have h1 : (choicesD S st v ((openSteps S st).take j)).length ≤ ((openSteps S st).take j).length := List.length_filterMap_le _ _
            have h2 := open_few (s := st) ok
            rw [List.length_take] at h1
            exact size4 (by omega)
          · rw [ec]
            refine C4.app (dp_imm (C4.mu mu).no (.tup tup_new (.cons (.int _) (.cons (.int _) (.cons (dp_mono R4 g1) (.cons (dp_mono R4 g2) .nil))))) ?_)
            show (true && (true && (noL t.d && (noL (behindS S st t).d && true)))) = true
            rw [noL_stp, noL_sta]
            rfl
    · rintro σ H3 ⟨zs, v3, v4, v5, v6, v7, rfl, C⟩
      rw [lx, List.take_length] at C
      have dC : DpAll K H3 zs (choicesD S st v (openSteps S st)) := dps_mono imm_sub C.dx
      have memc : ∀ x ∈ choicesD S st v (openSteps S st), ∃ t ∈ openSteps S st, ∃ o, v (behindS S st t) = some o ∧ x = choiceD S st t o := fun x hx => by
        obtain ⟨t, ht, e⟩ := List.mem_filterMap.mp hx
        cases hv : v (behindS S st t) with
        | none => rw [hv] at e; cases e
        | some o => rw [hv] at e; exact ⟨t, ht, o, hv, (Option.some.inj e).symm⟩
      have cmem : ∀ t ∈ openSteps S st, ∀ o, v (behindS S st t) = some o → choiceD S st t o ∈ choicesD S st v (openSteps S st) := fun t ht o hv => List.mem_filterMap.mpr ⟨t, ht, by rw [hv]; rfl⟩
      obtain ⟨o0, ho0⟩ := Option.isSome_iff_exists.mp hv0
      have dep : ∀ d ∈ choicesD S st v (openSteps S st), d.depth ≤ 3 := fun d hd => by
        obtain ⟨t, _, o, _, rfl⟩ := memc d hd
        have := (Lays.tup (n := 2) (Lays.cons lay_int (Lays.cons lay_int (Lays.cons ⟨t.lay.1, Nat.le_trans t.lay.2 (by decide)⟩ (Lays.cons (behindS S st t).lay lays_nil)))) : Lay 3 (choiceD S st t o))
        exact this.2
      have depAll : ∀ l : List PyData, (∀ d ∈ l, d.depth ≤ 3) → PyData.depthAll l ≤ 8 := fun l => by
        induction l with
        | nil => intro _; exact Nat.zero_le _
        | cons a l ih =>
          intro h
          have h1 := h a List.mem_cons_self
          have h2 := ih fun x hx => h x (List.mem_cons_of_mem _ hx)
          unfold PyData.depthAll
          omega
      refine ⟨_, rfl, q1, zs, choicesD S st v (openSteps S st), rfl, SqL.of C.el, dC, List.length_pos_of_mem (cmem t0 ht0 o0 ho0), fun x hx y hy => ?_, fun x hx => ?_, depAll _ dep, fun i x d hx hd hmin => ?_⟩
      · obtain ⟨t, _, o, _, rfl⟩ := memc x hx
        obtain ⟨t', _, o', _, rfl⟩ := memc y hy
        exact choice_alike S st t t' o o'
      · obtain ⟨t, _, o, _, rfl⟩ := memc x hx
        exact fun z => by cases z
      · obtain ⟨t, ht, o, hv, rfl⟩ := memc d (List.mem_of_getElem? hd)
        obtain ⟨x', hx', dx'⟩ := dps_get dC hd
        rw [hx] at hx'
        obtain rfl := Option.some.inj hx'
        obtain ⟨az, zz, rfl, hz1, hz2⟩ := dp_tup dx'
        obtain ⟨y1, r1, rfl, g1, k1⟩ := dps_cons hz2
        obtain ⟨y2, r2, rfl, g2, k2⟩ := dps_cons k1
        obtain ⟨y3, r3, rfl, g3, k3⟩ := dps_cons k2
        obtain ⟨y4, r4, rfl, g4, k4⟩ := dps_cons k3
        obtain rfl := dps_nil k4
        refine ⟨az, _, rfl, hz1, rfl, _, _, rfl, _, _, rfl, _, _, rfl, _, _, rfl, rfl, _, rfl, _, rfl, small (by simp), fun p np => ?_⟩
        have sp := same_new (o := .tup [y3, y4]) np
        exact q p y3 y4 _ t o (C.same.trans sp) tup_new (dp_mono sp g3) (dp_mono sp g4) ht hv fun t' ht' o' hv' => choice_lt (hmin _ (cmem t' ht' o' hv'))
end

/-! ## the plan: step by step the cost falls -/
/-- costs as the program knows them -/
structure Costs (S : Sto) (fo : List Sta) (v : Val) : Prop where
  cl : ∀ s ∈ fo, ∀ t ∈ openSteps S s, behindS S s t ∈ fo
  va : Valid S v
  ends : ∀ s ∈ fo, isEndS S s = true → v s = some (0, 0)
  gain : ∀ s ∈ fo, NoGain S v s
theorem Costs.least {S : Sto} {fo : List Sta} {v : Val} (C : Costs S fo v) : ∀ s ∈ fo, Least S s (v s) := least_of C.cl C.va C.ends C.gain
theorem ltp_moreT (o : Nat × Nat) (t : Stp) : ltp o (moreT o t) := by
  unfold ltp moreT
  simp only
  omega
theorem costP_zero {ts : List Stp} (h : costP ts = (0, 0)) : ts = [] := by
  unfold costP at h
  exact List.length_eq_zero_iff.mp (congrArg Prod.snd h)
theorem Costs.end_ {S : Sto} {fo : List Sta} {v : Val} (C : Costs S fo v) {s : Sta} (h : v s = some (0, 0)) : isEndS S s = true := by
  obtain ⟨ts, u, w, e, c⟩ := C.va s _ h
  rw [costP_zero c] at w
  have : s = u := w.run
  rw [this]
  exact e
/-- where it isn't an end, a step makes up the cost -/
theorem Costs.step {S : Sto} {fo : List Sta} {v : Val} (C : Costs S fo v) {s : Sta} {c : Nat × Nat} (hs : s ∈ fo) (h : v s = some c) (hc : c ≠ (0, 0)) : ∃ t ∈ openSteps S s, ∃ o, v (behindS S s t) = some o ∧ moreT o t = c := by
  obtain ⟨ts, u, w, e, k⟩ := C.va s _ h
  cases ts with
  | nil => exact absurd k.symm hc
  | cons t ts =>
    obtain ⟨ht, w'⟩ := way_head w
    obtain ⟨o, ho, hl⟩ := below C.cl C.ends C.gain e (C.cl s hs t ht) w'
    obtain ⟨c', hc', hg⟩ := C.gain s hs t ht o ho
    rw [h] at hc'
    obtain rfl := Option.some.inj hc'
    refine ⟨t, ht, o, ho, ltp_tot hg ?_⟩
    rw [← k, costP_cons]
    exact ltp_more hl
/-- the best of all steps does -/
theorem Costs.best {S : Sto} {fo : List Sta} {v : Val} (C : Costs S fo v) {s : Sta} {c o : Nat × Nat} {t : Stp} (hs : s ∈ fo) (h : v s = some c) (hc : c ≠ (0, 0)) (ht : t ∈ openSteps S s) (ho : v (behindS S s t) = some o)
    (hb : ∀ t' ∈ openSteps S s, ∀ o', v (behindS S s t') = some o' → ¬ ltp (moreT o' t') (moreT o t)) : moreT o t = c := by
  obtain ⟨t', ht', o', ho', e⟩ := C.step hs h hc
  have a := hb t' ht' o' ho'
  obtain ⟨c', hc', hg⟩ := C.gain s hs t ht o ho
  rw [h] at hc'
  obtain rfl := Option.some.inj hc'
  rw [e] at a
  exact ltp_tot hg a
def addC (x y : Nat × Nat) : Nat × Nat := (x.1 + y.1, x.2 + y.2)
/-- where the plan stands -/
structure Pln (S : Sto) (fo : List Sta) (v : Val) (s0 : Sta) (c0 : Nat × Nat) (ts : List Stp) (s : Sta) (c : Nat × Nat) : Prop where
  way : Way S s0 ts s
  at_ : s ∈ fo
  vc : v s = some c
  sum : addC (costP ts) c = c0
  pre : ∃ pre : List Sta, pre.Nodup ∧ pre.length = ts.length ∧ ∀ x ∈ pre, x ∈ fo ∧ ∃ d, v x = some d ∧ ltp c d
theorem Pln.start {S : Sto} {fo : List Sta} {v : Val} {s0 : Sta} {c0 : Nat × Nat} (h : s0 ∈ fo) (hv : v s0 = some c0) : Pln S fo v s0 c0 [] s0 c0 := ⟨.nil, h, hv, by simp [addC, costP], [], List.nodup_nil, rfl, fun _ z => (nomatch z)⟩
theorem Pln.len {S : Sto} {fo : List Sta} {v : Val} {s0 s : Sta} {c0 c : Nat × Nat} {ts : List Stp} (P : Pln S fo v s0 c0 ts s c) : ts.length ≤ fo.length := by
  obtain ⟨pre, h1, h2, h3⟩ := P.pre
  rw [← h2]
  exact nodup_len h1 fun x hx => (h3 x hx).1
theorem costP_snoc (ts : List Stp) (t : Stp) : costP (ts ++ [t]) = moreT (costP ts) t := by
  unfold costP moreT
  simp
theorem Pln.next {S : Sto} {fo : List Sta} {v : Val} {s0 s : Sta} {c0 c o : Nat × Nat} {ts : List Stp} {t : Stp} (C : Costs S fo v) (P : Pln S fo v s0 c0 ts s c) (hc : c ≠ (0, 0)) (ht : t ∈ openSteps S s) (ho : v (behindS S s t) = some o)
    (hb : ∀ t' ∈ openSteps S s, ∀ o', v (behindS S s t') = some o' → ¬ ltp (moreT o' t') (moreT o t)) : Pln S fo v s0 c0 (ts ++ [t]) (behindS S s t) o ∧ o.2 < c.2 := by
  have e := C.best P.at_ P.vc hc ht ho hb
  have lt : ltp o c := by rw [← e]; exact ltp_moreT o t
  obtain ⟨pre, h1, h2, h3⟩ := P.pre
  refine ⟨⟨P.way.snoc ht, C.cl s P.at_ t ht, ho, ?_, pre ++ [s], ?_, ?_, ?_⟩, ?_⟩
  · rw [costP_snoc, ← P.sum, ← e]
    unfold addC moreT
    simp only
    rw [Prod.mk.injEq]
    omega
  · rw [List.nodup_append]
    refine ⟨h1, by simp, fun x hx y hy => ?_⟩
    rw [List.mem_singleton.mp hy]
    intro z
    obtain ⟨_, d, hd, hl⟩ := h3 x hx
    rw [z, P.vc] at hd
    rw [← Option.some.inj hd] at hl
    exact ltp_irr c hl
  · rw [List.length_append, List.length_append, h2]
    rfl
  · intro x hx
    rcases List.mem_append.mp hx with z | z
    · obtain ⟨a, d, hd, hl⟩ := h3 x z
      exact ⟨a, d, hd, ltp_tr lt hl⟩
    · rw [List.mem_singleton.mp z]
      exact ⟨P.at_, c, P.vc, lt⟩
  · rw [← e]
    unfold moreT
    simp only
    omega
/-! ### the edges, by where they lead -/
def edges (S : Sto) (l : List Sta) : List (Sta × Stp) := l.flatMap fun s => (openSteps S s).map fun t => (s, t)
def leads (S : Sto) (e : Sta × Stp) : Sta := behindS S e.1 e.2
def into (S : Sto) (es : List (Sta × Stp)) (s : Sta) : List (Sta × Stp) := es.filter fun e => decide (leads S e = s)
def pairE (e : Sta × Stp) : PyData := .tuple [.int (shiftsT e.2 : Nat), e.1.d]
def earD (S : Sto) (es : List (Sta × Stp)) (s : Sta) : PyData := .list ((into S es s).map pairE)
theorem edges_len {S : Sto} (ok : StoOk S) : ∀ l : List Sta, (edges S l).length ≤ 12 * l.length
  | [] => Nat.le_refl _
  | s :: l => by
    have ih := edges_len ok l
    have h := open_few (s := s) ok
    unfold edges at ih ⊢
    rw [List.flatMap_cons, List.length_append, List.length_map, List.length_cons]
    omega
theorem into_cons_at {S : Sto} {e : Sta × Stp} {es : List (Sta × Stp)} : into S (e :: es) (leads S e) = e :: into S es (leads S e) := by
  unfold into
  rw [List.filter_cons, if_pos (by simp)]
theorem into_cons_ne {S : Sto} {e : Sta × Stp} {es : List (Sta × Stp)} {s : Sta} (h : leads S e ≠ s) : into S (e :: es) s = into S es s := by
  unfold into
  rw [List.filter_cons, if_neg (by simp [h])]
theorem into_sum {S : Sto} {l : List Sta} (hl : l.Nodup) : ∀ es : List (Sta × Stp), (l.map fun s => (into S es s).length).sum ≤ es.length
  | [] => by
    have : ∀ l : List Sta, (l.map fun s => (into S [] s).length).sum = 0 := fun l => by
      induction l with
      | nil => rfl
      | cons a l ih => rw [List.map_cons, List.sum_cons, ih]; rfl
    rw [this]
    exact Nat.le_refl _
  | e :: es => by
    have ih := into_sum (S := S) hl es
    have go : ∀ {l : List Sta}, l.Nodup → (l.map fun s => (into S (e :: es) s).length).sum ≤ (l.map fun s => (into S es s).length).sum + 1 ∧ (leads S e ∉ l → (l.map fun s => (into S (e :: es) s).length).sum = (l.map fun s => (into S es s).length).sum) := by
      intro l hl
      induction l with
      | nil => exact ⟨Nat.zero_le _, fun _ => rfl⟩
      | cons a l ih =>
        rw [List.nodup_cons] at hl
        obtain ⟨i1, i2⟩ := ih hl.2
        rw [List.map_cons, List.map_cons, List.sum_cons, List.sum_cons]
        by_cases c : leads S e = a
        · have := i2 (by rw [c]; exact hl.1)
          subst c
          rw [into_cons_at, this, List.length_cons]
          exact ⟨by omega, fun z => absurd List.mem_cons_self z⟩
        · rw [into_cons_ne c]
          exact ⟨by omega, fun z => by rw [i2 fun y => z (List.mem_cons_of_mem _ y)]⟩
    have := (go hl).1
    rw [List.length_cons]
    omega
theorem mem_into {S : Sto} {fo : List Sta} {s a : Sta} {t : Stp} : (a, t) ∈ into S (edges S fo) s ↔ a ∈ fo ∧ t ∈ openSteps S a ∧ behindS S a t = s := by
  unfold into edges
  rw [List.mem_filter, List.mem_flatMap]
  constructor
  · rintro ⟨⟨b, hb, hm⟩, d⟩
    obtain ⟨u, hu, e⟩ := List.mem_map.mp hm
    obtain ⟨rfl, rfl⟩ := Prod.mk.inj e
    exact ⟨hb, hu, of_decide_eq_true d⟩
  · rintro ⟨h1, h2, h3⟩
    exact ⟨⟨a, h1, List.mem_map.mpr ⟨t, h2, rfl⟩⟩, decide_eq_true h3⟩

section
variable {P : Program} {w : World} {K : PySem.W.Frag} {mg : Str → Option Value} {base : Heap}
theorem costs_next {S : Sto} {vis : List Sta} {v : Val} {m : List (Sta × PyData)} {s : Sta} (C : Costs S vis v) (cs : CostsAre m v vis) (hs : s ∈ vis) : CostsAre m v (nextsS S s) := fun x hx => by
  obtain ⟨t, ht, rfl⟩ := List.mem_map.mp hx
  exact cs _ (C.cl s hs t ht)
def spPlan (P : Program) (w : World) (K : PySem.W.Frag) : Sp := fun vs H Q _ => ∃ (dw dc : Addr) (u : V) (B : Hp) (S : Sto) (s : Sta) (vis : List Sta) (v : Val) (m : List (Sta × PyData)) (c0 : Nat × Nat), vs = [.ref dw, .ref dc, u] ∧ StoOk S ∧ TdR P w K B H dw (tabOf (dnext S) vis) ∧ TdR P w K B H dc m ∧ CostsAre m v vis ∧ Same B H ∧ Dp K H u s.d ∧ s ∈ vis ∧ Costs S vis v ∧ vis.length ≤ 3900 ∧ v s = some c0 ∧
  ∀ q zs H' ts e, Same H H' → H q = none → H' q = some (.lst zs) → DpAll K (imm [q, dw, dc] H') zs (ts.map (·.d)) → Way S s ts e → isEndS S e = true → costP ts = c0 → ts.length ≤ 3900 → Q (.ref q) H'
/-! _plan: 0 ways, 1 costs, 2 first, 3 plan, 4 state, 5 step -/
abbrev s__plan : Stmt := topS 30
abbrev N__plan : List Str := ["ways", "costs", "first", "plan", "state", "step"]
theorem sc__plan : FnScope N__plan ["ways", "costs", "first"] (defScope s__plan) := ⟨rfl, rfl, rfl, by decide +kernel, rfl, by decide +kernel, by decide +kernel⟩
theorem ok__plan {f f1 : Addr} {fd fd1 : FuncData} (D : Dfs K mg "_plan" s__plan ["ways", "costs", "first"] f fd) (T : Tx K mg) (C__best_step : Cal P w K mg base 2 "_best_step" ["steps", "costs"] (spBestStep P w K) f1 fd1) : Cal P w K mg base 3 "_plan" ["ways", "costs", "first"] (spPlan P w K) f fd := by
  refine D.cal (D.F.ok sc__plan (fun vs H Q E h => ?_) (fun cdv A outer s H vs Q E hr h => ?_))
  · obtain ⟨dw, dc, u, B, S, s, vis, v, m, c0, rfl, _⟩ := h
    rfl
  · obtain ⟨dw, dc, u, B, S, st, vis, v, m, c0, rfl, ok, tw, tc, cs, R, hu, hs, C, lv, hc, q⟩ := h
    refine ⟨_, (pss_cons (ps_set (i := 3) sc__plan.nd rfl (Or.inl rfl) (pe_lst pa_nil))
      (pss_cons (ps_set (i := 4) sc__plan.nd rfl (Or.inl rfl) (pv 2))
      (pss_cons (ps_while PassesOwn.never (pt_cmpR (kneD (K := K) hr.units) (pe_nget (P := P) (w := w) (K := K) (hu16 hr) (pv 1) (pv 4) (fun _ _ => rfl)) (pe_tup (pa_cons pe_int (pa_cons pe_int pa_nil))) (nomark _)) (pss_cons (ps_asg (pe_call C__best_step.G (hr.mono (by decide)) (by rfl) C__best_step.g C__best_step.kp C__best_step.b .nil pass0 (pa_cons (pe_nget (P := P) (w := w) (K := K) (hu16 hr) (pv 0) (pv 4) (fun _ _ => rfl)) (pa_cons (pv 1) pa_nil))) (pg_tup (by rfl) (pgs_cons (pg_name (i := 5) sc__plan.nd rfl (Or.inl rfl)) (pgs_cons (pg_name (i := 4) sc__plan.nd rfl (Or.inl rfl)) pgs_nil))))
      (pss_one (ps_expr (pe_bm PySem.F.plainAttrs_list PySem.F.slot_list_append PySem.F.type_list_append mt_append (pv 3) (pa_cons (pv 5) pa_nil))))))
      (pss_one (ps_ret (pv 3)))))), ?_⟩
    refine ⟨small (by simp), fun q1 n1 => ⟨_, rfl, ?_⟩⟩
    have mu : Mu [dw, dc] H := fun b hb => by
      simp only [List.mem_cons, List.not_mem_nil, or_false] at hb
      rcases hb with rfl | rfl
      · exact tw.mu _ (by simp)
      · exact tc.mu _ (by simp)
    have C1 : AcqM K [dw, dc] H (upd H q1 (.lst [])) q1 [] [] := AcqM.start n1
    have du := dp_imm (C1.mu mu).no (dp_mono C1.same hu) (noL_sta st)
    refine ⟨fun k σ H' => ∃ (ts : List Stp) (a : Sta) (c : Nat × Nat) (zs : List V) (va : V) (v5 : Option V), σ = [some (.ref dw), some (.ref dc), some u, some (.ref q1), some va, v5] ∧ k = c.2 ∧ Pln S vis v st c0 ts a c ∧ Dp K (imm [q1, dw, dc] H') va a.d ∧ AcqM K [dw, dc] H H' q1 zs (ts.map (·.d)),
      ⟨c0.2, [], st, c0, [], u, none, rfl, rfl, Pln.start hs hc, du, C1⟩, ?_⟩
    rintro k σ H3 ⟨ts, a, c, zs, va, v5, rfl, ek, Pn, da, C3⟩
    subst ek
    have R3 := R.trans C3.same
    have da3 := dp_mono imm_sub da
    obtain ⟨vc, g, dv⟩ := td_at (tc.mono (Same.refl B) C3.same) R3 da3 (show getM m a = some (dval (some c)) by rw [cs a Pn.at_, Pn.vc]; rfl)
    refine ⟨_, rfl, _, rfl, dc, vc, rfl, g, ?_⟩
    refine ⟨small (by simp), fun p np => ?_⟩
    have sp := same_new (o := .tup [.int 0, .int 0]) np
    have C4 := C3.pure sp
    have R4 := R3.trans sp
    have da4 := dp_mono (imm_mono (ms := [q1, dw, dc]) sp) da
    have mu4 := C4.mu mu
    have ee : PyData.eqv (dval (some c)) (.tuple [.int 0, .int 0]) = decide (c = (0, 0)) := by
      obtain ⟨x, y⟩ := c
      show (decide ((x : Int) = 0) && (decide ((y : Int) = 0) && true)) = _
      rw [Bool.and_true]
      by_cases h1 : (x : Int) = 0 <;> by_cases h2 : (y : Int) = 0 <;> simp [h1, h2] <;> omega
    refine ⟨dval (some c), .tuple [.int 0, .int 0], dp_mono R4 dv, .tup tup_new (.cons (.int 0) (.cons (.int 0) .nil)), rfl, rfl, _, rfl, ?_⟩
    by_cases hz : c = (0, 0)
    · refine (if_neg (by rw [ee, decide_eq_true hz]; exact Bool.false_ne_true)).mpr ?_
      refine ⟨_, rfl, q q1 zs _ ts a C4.same n1 C4.el C4.dx Pn.way ?_ ?_ (Nat.le_trans Pn.len lv)⟩
      · exact C.end_ (by rw [Pn.vc, hz])
      · rw [← Pn.sum, hz]
        rfl
    · refine (if_pos (by rw [ee, decide_eq_false hz]; rfl)).mpr ?_
      refine ⟨fun σ' H' => ∃ m', m' < c.2 ∧ ∃ (ts : List Stp) (a : Sta) (c : Nat × Nat) (zs : List V) (va : V) (v5 : Option V), σ' = [some (.ref dw), some (.ref dc), some u, some (.ref q1), some va, v5] ∧ m' = c.2 ∧ Pln S vis v st c0 ts a c ∧ Dp K (imm [q1, dw, dc] H') va a.d ∧ AcqM K [dw, dc] H H' q1 zs (ts.map (·.d)), fun _ _ h => h, ?_⟩
      generalize upd H3 p (.tup [.int 0, .int 0]) = H4 at C4 R4 da4 mu4 ⊢
      obtain ⟨vl, gl, dl⟩ := td_at (tw.mono (Same.refl B) C4.same) R4 (dp_mono imm_sub da4) (getM_in Pn.at_)
      obtain ⟨D8, ps, rfl, hD8, dps8⟩ := dp_lst dl
      obtain ⟨t0, ht0, o0, ho0, _⟩ := C.step Pn.at_ Pn.vc hz
      refine ⟨_, rfl, _, rfl, dw, _, rfl, gl, _, rfl, ?_⟩
      refine ⟨D8, dc, B, S, a, ps, v, m, rfl, ok, hD8, dps8, tc.mono (Same.refl B) C4.same, costs_next C cs Pn.at_, R4, ⟨t0, ht0, by rw [ho0]; rfl⟩, fun pp x y H5 t o s5 hpp hx hy ht ho hb => ?_⟩
      obtain ⟨Pn5, lt5⟩ := Pn.next C hz ht ho hb
      have C5 := C4.pure s5
      have mu5 := C5.mu mu
      refine ⟨pp, _, rfl, hpp, rfl, _, _, rfl, _, _, rfl, rfl, ?_⟩
      have eu : imm [q1, dw, dc] (upd H5 q1 (.lst (zs ++ [x]))) = imm [q1, dw, dc] H5 := imm_upd (by simp)
      refine ⟨_, rfl, .inl ⟨rfl, _, SqL.of C5.el⟩, _, rfl, q1, zs, _, rfl, rfl, C5.el, ?_, o.2, lt5, ts ++ [t], behindS S a t, o, zs ++ [x], y, _, rfl, rfl, Pn5, ?_, ?_⟩
      · have e := dps_len C5.dx
        have e2 := Pn.len
        rw [List.length_map] at e
        exact size4 (by omega)
      · rw [eu]
        exact dp_imm mu5.no hy (noL_sta _)
      · rw [List.map_append]
        exact C5.app (dp_imm mu5.no hx (noL_stp t))
end

/-! ## {k: v for target in iter}, its keys nested tuples -/
theorem nd_store {X : Cx} {A : Around} {E : Value → Shared → Prop} {pins : List (Addr × Obj)} {σ : L2.St} {H : Hp} {s : Shared} {d : Addr} {xs : List NE} {k : NK} {b : Addr} {u r : Value} {v : V} {Q : Unit → Shared → Prop} (hu : A.units + 16 < cLine) (I : Inv X pins σ H s) (h : NdW X.prog X.w X.K H d xs) (hk : Dp X.K H (.ref b) k.data) (hdp : k.depth ≤ 8) (ry : RelV (.ref b) u) (rv : RelV v r)
    (hl : xs.length < sizeLine) (q : ∀ s', Inv X pins σ (upd H d (ndO X.prog X.w d (putE xs k b v))) s' → Q () s') : wpAny (model X.prog X.w) A (dictSet d u r) Q E s := by
  cases (show u = Value.ref b from ry)
  obtain ⟨ys, rel, dd, hn⟩ := nd_raw I h.r
  refine wpAny_dictSet_heap (knd := PySem.nestedKind X.prog X.w) (k := k) (hsz := by rw [← Paired.length rel]; exact Nat.le_of_lt hl) (show A.units + 8 < cLine by omega) ⟨nk_is I hk rfl, hdp⟩ dd fun h' dd' hs => q _ ?_
  exact d_write I (by rw [h.1]; exact True.intro) hs (let ⟨z, _, _, hz, _⟩ := dd'; ⟨z, hz⟩) (nd_ext (pe3_put rel k b rv) (putE_nodup hn) dd')
/-- the reading: D the new dict -/
def tDcN (P : Program) (w : World) (K : PySem.W.Frag) (wi : TI) (g : TG) (tk tv : TE) (vs : List Nat) : TE := fun σ H Q => wi σ H fun J H1 => ∀ D, H1 D = none → (D == sysModules) = false → ∃ W : Nat → Nat → Hp → Prop, (∃ m, W 0 m (upd H1 D (ndO P w D []))) ∧ ∀ i m H2, W i m H2 →
  (J.stop i H2 ∧ Q (.ref D) H2) ∨ (J.go i H2 ∧ ∃ Nx : Hp → Prop, (∀ H', Nx H' → ∃ m', m' < m ∧ W (i + 1) m' H') ∧ ∀ x H', J.yld i H2 x H' → g x (wipe σ vs) H' fun σ2 H3 => wipe σ2 vs = wipe σ vs ∧ tk σ2 H3 fun y H4 => tv σ2 H4 fun z H5 => ∃ H6, NPut P w K H5 D y z H6 ∧ Nx H6)
theorem dcN_core {X : Cx} {P : Program} {w : World} {K : PySem.W.Frag} {pins : List (Addr × Obj)} {σ : L2.St} {H : Hp} {s : Shared} {Q : VK} {kx vx tg iter : Expr} {scope : Scope} {own : List (Str × Nat)} {pos posn : Pos} {wi : TI} {g : TG} {tk tv : TE} {use : Option (Value → Sem Unit)} {Fin : Value → Shared → Prop} (hu : X.A.units + 16 < cLine) (calm : X.calm = true) (nd : X.N.Nodup) (over : PI X tg iter wi) (ok : BlkOk X.N X.env.scope scope own)
    (put : ∀ (s : Shared) (H : Hp) (C : Addr) (cl : List (Str × Addr)) (fp : List Addr), PG (X.blk s H scope (compEnvC scope cl C X.env) fp) tg g)
    (key : ∀ (s : Shared) (H : Hp) (C : Addr) (cl : List (Str × Addr)) (fp : List Addr), PE (X.blk s H scope (compEnvC scope cl C X.env) fp) kx tk)
    (val : ∀ (s : Shared) (H : Hp) (C : Addr) (cl : List (Str × Addr)) (fp : List Addr), PE (X.blk s H scope (compEnvC scope cl C X.env) fp) vx tv)
    (whole : ∀ x, foldedSetIterable iter X.env x = pure x) (eP : X.prog = P) (eW : X.w = w) (eK : X.K = K) (I : Inv X pins σ H s) (rd : tDcN P w K wi g tk tv (own.map (·.2)) σ H Q)
    (leave : ∀ (D C : Addr) (z : Shared) (m : Str → Option Value) (G : Hp), Inv X pins σ G z → Q (.ref D) G → z.heap.Ns C m → FpOk X pins G C → compPost (model X.prog X.w) X.A X.xe use Fin (.ref D) C (.ok .next) z) :
    wpAny (model X.prog X.w) X.A (comprehension (.DictComp kx vx [⟨tg, iter, [], 0⟩] scope pos) scope X.env posn newDict false (eval iter X.env) use) Fin X.xe s := by
  subst eP eW eK
  have caught : ∀ y ∈ scope.names, y.2 = .free → ∃ c, X.env.cells.lookup y.1 = some c := fun y hy e => (ok.free y hy e).elim (fun z => I.ok.has _ (.inl z)) fun z => I.ok.has _ (.inr z)
  refine wpAny_comprehension_free (use := use) rfl whole (closure_ok caught) ok.kind (fun y hy e => (ok.uniq y hy).trans (by rw [e])) (thn (over.run pins s σ H _ I rd) fun _ _ hx => thn hx fun _ s2 ⟨it, fp, tn, J, H2, ei, I2, TR, t0, ffp, q⟩ => ?_)
  subst ei
  refine wpAny_newObj_type (newEnv_comp ?_)
  -- the new dict, at D
  have big : (s2.heap.objs.size == sysModules) = false := beq_eq_false_iff_ne.mpr (Ne.symm (Nat.ne_of_lt I2.big))
  obtain ⟨W, ⟨m0, w0⟩, step⟩ := q s2.heap.objs.size (I2.hok.fresh (Nat.le_refl _)) big
  have I3 : Inv X pins σ (upd H2 s2.heap.objs.size (ndO X.prog X.w s2.heap.objs.size [])) { s2 with heap := s2.heap.push { cls := .type "dict", data := .dict #[] } } :=
    I2.laid (t' := s2.toks) (fun b o e => Heap.get?_push_of_some _ e) (Nat.le_refl _) (nd_empty s2.heap I2.big)
  have low : ∀ b ∈ fp, b < s2.heap.objs.size := fun b hb => by
    obtain ⟨o, e, _⟩ := TR.obj _ _ t0 b hb
    exact Heap.lt_size e
  have t3 : tn 0 (s2.heap.push { cls := .type "dict", data := .dict #[] }) := TR.keep _ _ _ t0 fun b _ o e => Heap.get?_push_of_some _ e
  have lt3 : ∀ b ∈ fp, b < (s2.heap.push { cls := .type "dict", data := .dict #[] }).objs.size := fun b hb => by
    rw [Heap.size_push]
    exact Nat.lt_succ_of_lt (low b hb)
  have f3 : ∀ b ∈ fp, FpOk X pins (upd H2 s2.heap.objs.size (ndO X.prog X.w s2.heap.objs.size [])) b := fun b hb => ⟨by rw [upd_ne (Nat.ne_of_lt (low b hb))]; exact (ffp b hb).1, (ffp b hb).2⟩
  generalize eD : s2.heap.objs.size = D at I3 f3 w0 step
  generalize eH : upd H2 D (ndO X.prog X.w D []) = H3 at I3 f3 w0 step
  generalize eS : ({ s2 with heap := s2.heap.push { cls := .type "dict", data := .dict #[] } } : Shared) = s3 at I3
  have e3 : s3.heap = s2.heap.push { cls := .type "dict", data := .dict #[] } := by rw [← eS]
  rw [← e3] at t3 lt3
  have J0 := block_start I3 ok nd fun b hb => ⟨f3 b hb, lt3 b hb⟩
  have pG := put s3 H3 s3.heap.objs.size (cellsFrom (s3.heap.objs.size + 1) scope.names (cloFrom X.env.cells scope.names [])) fp
  have pK := key s3 H3 s3.heap.objs.size (cellsFrom (s3.heap.objs.size + 1) scope.names (cloFrom X.env.cells scope.names [])) fp
  have pV := val s3 H3 s3.heap.objs.size (cellsFrom (s3.heap.objs.size + 1) scope.names (cloFrom X.env.cells scope.names [])) fp
  generalize eC : compEnvC scope (cellsFrom (s3.heap.objs.size + 1) scope.names (cloFrom X.env.cells scope.names [])) s3.heap.objs.size X.env = ce at J0 pG pK pV
  show codeAny _ _ (.compStart (.DictComp kx vx [⟨tg, iter, [], 0⟩] scope pos) 0 (.ref it) (.ref D) (compEnvC scope (cellsFrom (s3.heap.objs.size + 1) scope.names (cloFrom X.env.cells scope.names [])) s3.heap.objs.size X.env)) (compPost (model X.prog X.w) X.A X.xe use Fin (.ref D) s3.heap.objs.size) { s3 with heap := pushCells (s3.heap.push { cls := .type "dict", data := .dict #[] }) scope.names }
  rw [eC]
  have loc : ce.locals = s3.heap.objs.size := by rw [← eC]; rfl
  have t4 : tn 0 (pushCells (s3.heap.push { cls := .type "dict", data := .dict #[] }) scope.names) := TR.keep _ _ _ t3 fun b _ o e => pushCells_keeps _ _ _ _ (Heap.get?_push_of_some _ e)
  generalize eS4 : ({ s3 with heap := pushCells (s3.heap.push { cls := .type "dict", data := .dict #[] }) scope.names } : Shared) = s4 at J0
  have t5 : tn 0 s4.heap := by rw [← eS4]; exact t4
  -- the iterator's objects, seen from within
  have its : ∀ {τ : L2.St} {G : Hp} {z : Shared}, Inv (X.blk s3 H3 scope ce fp) [] τ G z → (∀ b ∈ fp, G b = none) → ∀ b ∈ fp, FpOk (X.blk s3 H3 scope ce fp) [] G b := fun {τ G z} J n b hb =>
    ⟨n b hb, (J.ok.exf b hb).1, J.ok.exfs b hb, .inl hb, fun y c e => (J.ok.exf b hb).2 y c e, fun p hp => absurd (show p ∈ ([] : List (Addr × Obj)) ++ [] from hp) (by simp)⟩
  refine codeAny_compStart_dict ?_ (TR.self X.A 0 _ _ _ t5 ?_) <;>
  · refine compLoop_anyD (fun n z => ∃ i G, W i n G ∧ tn i z.heap ∧ (∀ b ∈ fp, G b = none) ∧ Inv (X.blk s3 H3 scope ce fp) [] (wipe σ (own.map (·.2))) G z) (fun n z ⟨i, G, wi, ti, ni, Ji⟩ => ?_) m0 ⟨0, H3, w0, t5, fun b hb => (f3 b hb).1, J0⟩
    rcases step i n G wi with ⟨halt, fin⟩ | ⟨more, Nx, less, turn⟩
    · refine thnF (TR.done (X.blk s3 H3 scope ce fp) rfl rfl rfl calm i [] z _ G (fun _ _ => False) Ji (its Ji ni) ti halt) fun r z1 ⟨er, Jd⟩ => ?_
      subst er
      have back : Inv X pins σ G z1 := I3.call' (ch := fp) Jd.os Jd.base Jd.hok Jd.bare fun b hb => ⟨(f3 b hb).2.2.2.1, (f3 b hb).2.1, (f3 b hb).2.2.2.2.1, (f3 b hb).2.2.2.2.2⟩
      obtain ⟨m, ns, _⟩ := Jd.loc
      have ns' : z1.heap.Ns s3.heap.objs.size m := by rw [← loc]; exact ns
      have fr : G s3.heap.objs.size = none := by rw [← loc]; exact Jd.free
      exact leave D s3.heap.objs.size z1 m G back fin ns' (I3.fpOk (Nat.le_refl _) fr)
    · refine thnF (TR.item (X.blk s3 H3 scope ce fp) rfl rfl rfl calm i [] z _ G (fun _ _ => False) Ji (its Ji ni) ti more) fun r z1 ⟨u, er, nxt⟩ => ?_
      subst er
      refine thnF nxt fun _ z2 ⟨x, G2, J2, rx, yx, t2, n2⟩ => ?_
      have J2p := J2.pinned (its J2 n2) (TR.obj _ _ t2)
      refine thnF (pG.run _ z2 _ G2 x u _ J2p rx (turn x G2 yx)) fun _ z3 ⟨τ, G3, J3, wp, q3⟩ => ?_
      refine thnF ((pts_nil (X := X.blk s3 H3 scope ce fp)).run _ z3 τ G3 (fun b H' => b = true ∧ H' = G3) J3 ⟨rfl, rfl⟩) fun b z4 ⟨G4, J4, eb, eG⟩ => ?_
      subst eb eG
      simp only [if_true]
      refine thnF (pK.run _ z4 τ _ _ J4 q3) fun y1 z5 ⟨yk, G5, J5, r5, q5⟩ => ?_
      refine thnF (pV.run _ z5 τ G5 _ J5 q5) fun y2 z6 ⟨yv, G6, J6, r6, G7, np, nx⟩ => ?_
      obtain ⟨xs, k, b, nw, ey, dk, dp, lz, eG⟩ := np
      subst ey eG
      refine nd_store (X := X.blk s3 H3 scope ce fp) (by show X.A.units + 16 < cLine; exact hu) J6 nw dk dp r5 r6 lz fun z7 J7 => ?_
      obtain ⟨m', hm, w'⟩ := less _ nx
      have held : ∀ b ∈ fp, ∀ o, z2.heap.get? b = some o → z7.heap.get? b = some o ∧ _ := fun b hb o e =>
        let ⟨k1, k2, _⟩ := J7.pin (b, o) (List.mem_append_right _ (List.mem_append_right _ (mem_pinsAt hb e)))
        ⟨k1, k2⟩
      have J8 := (J7.unpinned (pins := [])).weak (σ' := wipe σ (own.map (·.2))) (by rw [← wp, wipe_length]) fun j v e => by
        rw [← wp] at e
        exact (wipe_some e).1
      refine ⟨m', hm, i + 1, _, w', TR.keep _ _ _ t2 fun b hb o e => (held b hb o e).1, fun b hb => ?_, J8⟩
      obtain ⟨o, e, _⟩ := TR.obj _ _ t2 b hb
      exact (held b hb o e).2
theorem pe_dcN {X : Cx} {P : Program} {w : World} {K : PySem.W.Frag} {kx vx tg iter : Expr} {scope : Scope} {own : List (Str × Nat)} {pos : Pos} {wi : TI} {g : TG} {tk tv : TE} (hu : X.A.units + 16 < cLine) (calm : X.calm = true) (nd : X.N.Nodup) (over : PI X tg iter wi) (ok : BlkOk X.N X.env.scope scope own)
    (put : ∀ (s : Shared) (H : Hp) (C : Addr) (cl : List (Str × Addr)) (fp : List Addr), PG (X.blk s H scope (compEnvC scope cl C X.env) fp) tg g)
    (key : ∀ (s : Shared) (H : Hp) (C : Addr) (cl : List (Str × Addr)) (fp : List Addr), PE (X.blk s H scope (compEnvC scope cl C X.env) fp) kx tk)
    (val : ∀ (s : Shared) (H : Hp) (C : Addr) (cl : List (Str × Addr)) (fp : List Addr), PE (X.blk s H scope (compEnvC scope cl C X.env) fp) vx tv)
    (whole : ∀ x, foldedSetIterable iter X.env x = pure x := by intro _; rfl) (eP : X.prog = P := by rfl) (eW : X.w = w := by rfl) (eK : X.K = K := by rfl) : PE X (.DictComp kx vx [⟨tg, iter, [], 0⟩] scope pos) (tDcN P w K wi g tk tv (own.map (·.2))) := by
  refine ⟨fun pins s σ H Q I rd => ?_⟩
  rw [arm_eval_DictComp]
  refine dcN_core (use := none) hu calm nd over ok put key val whole eP eW eK I rd fun D C z m G back fin ns ⟨a0, a1, a2, a3, a4, a5⟩ => ⟨m, ns, fun h2 but => ⟨.ref D, G, back.turned (t' := z.toks) (fun b o hb e => (but.2 b hb).trans e) a0 a1 a3 a4 a5, rfl, fin⟩⟩
/-- name = {k: v for ..} -/
theorem ps_setDcN {X : Cx} {P : Program} {w : World} {K : PySem.W.Frag} {i : Nat} {y : Str} {py spos : Pos} {kx vx tg iter : Expr} {scope : Scope} {own : List (Str × Nat)} {pos : Pos} {wi : TI} {g : TG} {tk tv : TE} (hu : X.A.units + 16 < cLine) (calm : X.calm = true) (nd : X.N.Nodup) (hy : X.N[i]? = some y) (hyl : X.env.scope.names.lookup y = some .local) (sw : swapsWith (.DictComp kx vx [⟨tg, iter, [], 0⟩] scope pos) (some (.Name y py)) spos.line X.env = pure true)
    (over : PI X tg iter wi) (ok : BlkOk X.N X.env.scope scope own) (put : ∀ (s : Shared) (H : Hp) (C : Addr) (cl : List (Str × Addr)) (fp : List Addr), PG (X.blk s H scope (compEnvC scope cl C X.env) fp) tg g)
    (key : ∀ (s : Shared) (H : Hp) (C : Addr) (cl : List (Str × Addr)) (fp : List Addr), PE (X.blk s H scope (compEnvC scope cl C X.env) fp) kx tk)
    (val : ∀ (s : Shared) (H : Hp) (C : Addr) (cl : List (Str × Addr)) (fp : List Addr), PE (X.blk s H scope (compEnvC scope cl C X.env) fp) vx tv)
    (whole : ∀ x, foldedSetIterable iter X.env x = pure x := by intro _; rfl) (eP : X.prog = P := by rfl) (eW : X.w = w := by rfl) (eK : X.K = K := by rfl) : PS X (.Assign [.Name y py] (.DictComp kx vx [⟨tg, iter, [], 0⟩] scope pos) spos) (tAsg (tDcN P w K wi g tk tv (own.map (·.2))) (gName i)) := by
  refine ⟨fun pins s σ H E I rd => ?_⟩
  have rd2 : tDcN P w K wi g tk tv (own.map (·.2)) σ H (fun x G => gName i x σ G E.nx) := rd
  rw [exec_Assign_Name_used _ _ _ _ sw]
  refine wpAny_bind (wpAny_standAt (wpAny_bind (show wpAny _ X.A (do let _ ← comprehension (.DictComp kx vx [⟨tg, iter, [], 0⟩] scope pos) scope X.env (firstIterPos [⟨tg, iter, [], 0⟩] pos) newDict false (eval iter X.env) (some (assign (.Name y py) X.env))) _ _ s from
    wpAny_bind (thn (dcN_core (Fin := fun _ z => SP X pins E .next z) hu calm nd over ok put key val whole eP eW eK I rd2 fun D C z m G back fin ns ⟨a0, a1, a2, a3, a4, a5⟩ => ?_) fun _ z hz => wpAny_pure (wpAny_pure hz)))))
  refine wpAny_assign_Name (s := z) (store_ok2 (v := V.ref D) back nd hy (.inl hyl) rfl (fun z2 I2 ⟨b, but, hb⟩ => ⟨m, ns.sameBut but ?_, fun h3 but3 => ⟨_, G, I2.turned (t' := z2.toks) (fun b o hb e => (but3.2 b hb).trans e) a0 a1 a3 a4 a5, fin⟩⟩) (.inr hyl))
  rcases hb with e | e
  · rw [e]; exact a1
  · exact fun q => a4 y b e q.symm
theorem sw_trueD {kx vx : Expr} {gs : List Comprehension} {scope : Scope} {pos py : Pos} {y : Str} {l : Nat} {env : Env} (hk : env.scope.kind = .function) (hy : env.scope.names.lookup y = some .local) (hl : (py.line == pos.line) = true)
    (no : (scope.names.any fun (n, k) => n == y && (k == .local || k == .cell)) = false) : swapsWith (.DictComp kx vx gs scope pos) (some (.Name y py)) l env = pure true := by
  have k1 : env.blockKind = .function := by unfold Env.blockKind; rw [hk]; rfl
  have k2 : env.kindOf y = some .local := hy
  unfold swapsWith
  simp only [k1, k2, no, Expr.pos, hl]
  rfl
theorem dc_nkeys {P : Program} {w : World} {K : PySem.W.Frag} {d : Addr} {o : Obj} {xs : List NE} {g : TG} {tk tv : TE} {vs : List Nat} {σ : L2.St} {H1 : Hp} {D : Addr} {Qd : Hp → Prop} (Pv : Nat → Hp → Prop) (h0 : Pv 0 (upd H1 D (ndO P w D []))) (hl : ∀ i H, i ≤ xs.length → Pv i H → H d = some (.frz o (ndO P w d xs)))
    (hs : ∀ i k q v H, xs[i]? = some (k, q, v) → Pv i H → g (.ref q) (wipe σ vs) H fun σ2 H2 => wipe σ2 vs = wipe σ vs ∧ tk σ2 H2 fun y H4 => tv σ2 H4 fun z H5 => ∃ H6, NPut P w K H5 D y z H6 ∧ Pv (i + 1) H6) (hd : ∀ H, Pv xs.length H → Qd H) :
    ∃ W : Nat → Nat → Hp → Prop, (∃ m, W 0 m (upd H1 D (ndO P w D []))) ∧ ∀ i m H, W i m H →
      ((Itn P w d o xs).stop i H ∧ Qd H) ∨ ((Itn P w d o xs).go i H ∧ ∃ Nx : Hp → Prop, (∀ H', Nx H' → ∃ m', m' < m ∧ W (i + 1) m' H') ∧ ∀ x H', (Itn P w d o xs).yld i H x H' → g x (wipe σ vs) H' fun σ2 H2 => wipe σ2 vs = wipe σ vs ∧ tk σ2 H2 fun y H4 => tv σ2 H4 fun z H5 => ∃ H6, NPut P w K H5 D y z H6 ∧ Nx H6) := by
  refine ⟨fun i m H => m = xs.length - i ∧ i ≤ xs.length ∧ Pv i H, ⟨xs.length, by simp, Nat.zero_le _, h0⟩, ?_⟩
  rintro i m H ⟨rfl, hi, p⟩
  have q := hl i H hi p
  by_cases hlt : i < xs.length
  · refine .inr ⟨⟨q, hlt⟩, Pv (i + 1), fun H' p' => ⟨xs.length - (i + 1), by omega, rfl, hlt, p'⟩, fun x H' y => ?_⟩
    obtain ⟨e, k, b, v, hx, ex⟩ := y
    subst e ex
    exact hs i k b v _ hx p
  · have e : i = xs.length := by omega
    subst e
    exact .inl ⟨⟨q, Nat.le_refl _⟩, hd H p⟩
/-- for k, v in d.items() -/
theorem for_nitems {P : Program} {w : World} {d : Addr} {o : Obj} {xs : List NE} {g : TG} {tb : L2.TS} {D : Ends} {σ : L2.St} {H : Hp} (Pv : Nat → L2.St → Hp → Prop) (h0 : Pv 0 σ H) (hl : ∀ i σ H, i ≤ xs.length → Pv i σ H → H d = some (.frz o (ndO P w d xs)))
    (hs : ∀ i k q v σ H T, xs[i]? = some (k, q, v) → Pv i σ H → H T = none → g (.ref T) σ (upd H T (.tup [.ref q, v])) fun σ2 H2 => tb { D with nx := Pv (i + 1), ct := Pv (i + 1), bk := D.nx } σ2 H2) (hd : ∀ σ H, Pv xs.length σ H → D.nx σ H) :
    ∃ W : Nat → Nat → L2.St → Hp → Prop, (∃ m, W 0 m σ H) ∧ ∀ i m σ H, W i m σ H →
      ((Itni P w d o xs).stop i H ∧ D.nx σ H) ∨ ((Itni P w d o xs).go i H ∧ ∃ N : L2.St → Hp → Prop, (∀ σ' H', N σ' H' → ∃ m', m' < m ∧ W (i + 1) m' σ' H') ∧ ∀ x H', (Itni P w d o xs).yld i H x H' → g x σ H' fun σ2 H2 => tb { D with nx := N, ct := N, bk := D.nx } σ2 H2) := by
  refine ⟨fun i m σ H => m = xs.length - i ∧ i ≤ xs.length ∧ Pv i σ H, ⟨xs.length, by simp, Nat.zero_le _, h0⟩, ?_⟩
  rintro i m σ H ⟨rfl, hi, p⟩
  have q := hl i σ H hi p
  by_cases hlt : i < xs.length
  · refine .inr ⟨⟨q, hlt⟩, Pv (i + 1), fun σ' H' p' => ⟨xs.length - (i + 1), by omega, rfl, hlt, p'⟩, fun x H' y => ?_⟩
    obtain ⟨T, k, b, v, hx, ex, fr, eH⟩ := y
    subst ex eH
    exact hs i k b v σ _ T hx p fr
  · have e : i = xs.length := by omega
    subst e
    exact .inl ⟨⟨q, Nat.le_refl _⟩, hd σ H p⟩

/-! ## what leads to each state -/
abbrev EntL (K : PySem.W.Frag) (B : Hp) (pf : Sta → Addr) (e : NE) (s : Sta) : Prop := e.1 = s.key ∧ Dp K B (.ref e.2.1) s.d ∧ e.2.2 = .ref (pf s)
structure EA (P : Program) (w : World) (K : PySem.W.Frag) (S : Sto) (H0 H : Hp) (D W : Addr) (ws : List NE) (pf : Sta → Addr) (l : List Sta) (es : List NE) (c : List (Sta × Stp)) : Prop where
  base : Same H0 (imm (D :: W :: l.map pf) H)
  d : H D = some (ndO P w D es)
  t : Paired (EntL K (imm (D :: W :: l.map pf) H) pf) es l
  nd : l.Nodup
  inj : ∀ a ∈ l, ∀ b ∈ l, pf a = pf b → a = b
  ls : ∀ s ∈ l, ∃ us, H (pf s) = some (.lst us) ∧ DpAll K (imm (D :: W :: l.map pf) H) us ((into S c s).map pairE)
  sz : l.length ≤ 3900
  sm : (D == sysModules) = false
  ww : W ≠ D
  fz : Rd H W (ndO P w W ws)
section
variable {P : Program} {w : World} {K : PySem.W.Frag} {S : Sto} {H0 H H' : Hp} {D W : Addr} {ws : List NE} {pf : Sta → Addr} {l : List Sta} {es : List NE} {c : List (Sta × Stp)} {s : Sta} {y : V}
theorem EA.pure (A : EA P w K S H0 H D W ws pf l es c) (h : Same H H') : EA P w K S H0 H' D W ws pf l es c :=
  ⟨A.base.trans (imm_mono h), h _ _ A.d, Paired.mapP A.t fun _ _ z => ⟨z.1, dp_mono (imm_mono h) z.2.1, z.2.2⟩, A.nd, A.inj, fun s hs => let ⟨us, a, b⟩ := A.ls s hs; ⟨us, h _ _ a, dps_mono (imm_mono h) b⟩, A.sz, A.sm, A.ww, Same.rd h A.fz⟩
theorem rd_nt {P : Program} {w : World} {H : Hp} {d : Addr} {xs : List NE} (h : Rd H d (ndO P w d xs)) : ∃ u, H d = some u ∧ NoTup (some u) := by
  rcases h with h | ⟨ob, h⟩
  · exact ⟨_, h, nt_nd⟩
  · exact ⟨_, h, fun xs => ⟨fun z => (by cases z), fun _ z => (by cases z)⟩⟩
theorem rd_lst {P : Program} {w : World} {H : Hp} {d : Addr} {xs : List NE} {us : List V} (h : Rd H d (ndO P w d xs)) (g : H d = some (.lst us)) : False := by
  rcases h with h | ⟨ob, h⟩ <;> rw [h] at g <;> cases g
theorem EA.mu (A : EA P w K S H0 H D W ws pf l es c) : Mu (D :: W :: l.map pf) H := fun b hb => by
  rcases List.mem_cons.mp hb with e | hb
  · rw [e]; exact ⟨_, A.d, nt_nd⟩
  rcases List.mem_cons.mp hb with e | hb
  · rw [e]; exact rd_nt A.fz
  · obtain ⟨s, hs, rfl⟩ := List.mem_map.mp hb
    obtain ⟨us, h, _⟩ := A.ls s hs
    exact ⟨_, h, nt_lst⟩
theorem EA.ne (A : EA P w K S H0 H D W ws pf l es c) (hs : s ∈ l) : pf s ≠ D := fun e => by
  obtain ⟨us, h, _⟩ := A.ls s hs
  rw [e, A.d] at h
  cases h
theorem EA.wd (A : EA P w K S H0 H D W ws pf l es c) : W ≠ D := A.ww
theorem EA.nw (A : EA P w K S H0 H D W ws pf l es c) (hs : s ∈ l) : pf s ≠ W := fun e => by
  obtain ⟨us, h, _⟩ := A.ls s hs
  rw [e] at h
  exact rd_lst A.fz h
theorem entL_tab {B : Hp} {f : Sta → PyData} : ∀ {es : List NE} {l : List Sta}, Paired (EntL K B pf) es l → (∀ s ∈ l, Dp K B (.ref (pf s)) (f s)) → Tab K B es (tabOf f l)
  | _, _, .nil, _ => .nil
  | _, _, .cons h t, g => .cons ⟨h.1, h.2.1, by rw [h.2.2]; exact g _ List.mem_cons_self⟩ (entL_tab t fun s hs => g s (List.mem_cons_of_mem _ hs))
theorem entL_get {B : Hp} : ∀ {es : List NE} {l : List Sta}, Paired (EntL K B pf) es l → s ∈ l → getE es s.key = some (.ref (pf s))
  | _, _, .nil, h => nomatch h
  | e :: es, a :: l, .cons h t, hs => by
    by_cases c : a = s
    · subst c
      simp [getE, List.find?_cons, h.1, h.2.2]
    · have c' : ¬ e.1 = s.key := fun z => c (Sta.key_inj (h.1.symm.trans z))
      have ih := entL_get t ((List.mem_cons.mp hs).resolve_left fun z => c z.symm)
      unfold getE at ih ⊢
      rw [List.find?_cons]
      simp only [c', decide_false]
      exact ih
theorem entL_no {B : Hp} : ∀ {es : List NE} {l : List Sta}, Paired (EntL K B pf) es l → s ∉ l → getE es s.key = none
  | _, _, .nil, _ => rfl
  | e :: es, a :: l, .cons h t, hs => by
    have c' : ¬ e.1 = s.key := fun z => hs (by rw [← Sta.key_inj (h.1.symm.trans z)]; exact List.mem_cons_self)
    have ih := entL_no t fun z => hs (List.mem_cons_of_mem _ z)
    unfold getE at ih ⊢
    rw [List.find?_cons]
    simp only [c', decide_false]
    exact ih
theorem EA.tabE (A : EA P w K S H0 H D W ws pf l es c) : Tab K (imm [D, W] H) es (tabOf (earD S c) l) := by
  have sub : Same (imm (D :: W :: l.map pf) H) (imm [D, W] H) := fun b u e => by
    by_cases hb : b ∈ D :: W :: l.map pf
    · rw [imm_in hb] at e; cases e
    · rw [imm_at hb] at e
      rw [imm_at (fun z => hb (by
        simp only [List.mem_cons, List.not_mem_nil, or_false] at z
        rcases z with z | z <;> rw [z] <;> simp))]
      exact e
  refine entL_tab (Paired.mapP A.t fun _ _ z => ⟨z.1, dp_mono sub z.2.1, z.2.2⟩) fun s hs => ?_
  obtain ⟨us, h, d⟩ := A.ls s hs
  exact .lst (SqL.of (by rw [imm_at (fun z => by
    simp only [List.mem_cons, List.not_mem_nil, or_false] at z
    exact z.elim (A.ne hs) (A.nw hs))]; exact h)) (dps_mono sub d)
theorem EA.size (A : EA P w K S H0 H D W ws pf l es c) : (tabOf (earD S c) l).length ≤ sizeLine := by
  rw [tabOf_len]
  exact Nat.le_of_lt (size4 (by have := A.sz; omega))
/-- the table as it is read -/
theorem EA.tab (A : EA P w K S H0 H D W ws pf l es c) : TdW P w K (imm [D, W] H) H D (tabOf (earD S c) l) := ⟨es, A.d, A.tabE, A.size, A.sm⟩
theorem EA.get (A : EA P w K S H0 H D W ws pf l es c) (hs : s ∈ l) (hy : Dp K H y s.d) : NGet P w K H D y (some (.ref (pf s))) := by
  obtain ⟨b, rfl⟩ := sta_ref hy
  exact ⟨es, s.key, b, ⟨.inl A.d, td_keys imm_sub A.tabE A.size A.sm⟩, rfl, by rw [Sta.key_data]; exact hy, Sta.key_depth s, (entL_get A.t hs).symm⟩
/-- the other table, locked or free -/
theorem EA.lock (A : EA P w K S H0 H D W ws pf l es c) {o : HO} (h : Rd (upd H W o) W (ndO P w W ws)) : EA P w K S H0 (upd H W o) D W ws pf l es c := by
  have ei : imm (D :: W :: l.map pf) (upd H W o) = imm (D :: W :: l.map pf) H := imm_upd (List.mem_cons_of_mem _ List.mem_cons_self)
  exact ⟨by rw [ei]; exact A.base, by rw [upd_ne (Ne.symm A.ww)]; exact A.d, by rw [ei]; exact A.t, A.nd, A.inj, fun s hs => by rw [ei, upd_ne (A.nw hs)]; exact A.ls s hs, A.sz, A.sm, A.ww, h⟩
theorem into_snoc_at {e : Sta × Stp} : into S (c ++ [e]) (leads S e) = into S c (leads S e) ++ [e] := by
  unfold into
  rw [List.filter_append, List.filter_cons, if_pos (by simp)]
  rfl
theorem into_snoc_ne {e : Sta × Stp} (h : leads S e ≠ s) : into S (c ++ [e]) s = into S c s := by
  unfold into
  rw [List.filter_append, List.filter_cons, if_neg (by simp [h])]
  exact List.append_nil _
/-- one more edge -/
theorem EA.app (A : EA P w K S H0 H D W ws pf l es c) {e : Sta × Stp} {us : List V} (hl : leads S e ∈ l) (hu : H (pf (leads S e)) = some (.lst us)) {z : V} (hz : Dp K (imm (D :: W :: l.map pf) H) z (pairE e)) :
    EA P w K S H0 (upd H (pf (leads S e)) (.lst (us ++ [z]))) D W ws pf l es (c ++ [e]) := by
  have ei : imm (D :: W :: l.map pf) (upd H (pf (leads S e)) (.lst (us ++ [z]))) = imm (D :: W :: l.map pf) H := imm_upd (List.mem_cons_of_mem _ (List.mem_cons_of_mem _ (List.mem_map.mpr ⟨_, hl, rfl⟩)))
  refine ⟨by rw [ei]; exact A.base, by rw [upd_ne (Ne.symm (A.ne hl))]; exact A.d, by rw [ei]; exact A.t, A.nd, A.inj, fun s hs => ?_, A.sz, A.sm, A.ww, by unfold Rd; rw [upd_ne (Ne.symm (A.nw hl))]; exact A.fz⟩
  rw [ei]
  obtain ⟨vs, h, d⟩ := A.ls s hs
  by_cases q : leads S e = s
  · subst q
    rw [hu] at h
    obtain rfl : us = vs := by injection h with h; injection h
    refine ⟨us ++ [z], upd_same, ?_⟩
    rw [into_snoc_at, List.map_append]
    exact dps_app d (.cons hz .nil)
  · refine ⟨vs, by rw [upd_ne fun z => q (A.inj s hs _ hl z).symm]; exact h, ?_⟩
    rw [into_snoc_ne q]
    exact d
def setf (pf : Sta → Addr) (s : Sta) (p : Addr) : Sta → Addr := fun x => if x = s then p else pf x
theorem setf_map {p : Addr} (hs : s ∉ l) : (l ++ [s]).map (setf pf s p) = l.map pf ++ [p] := by
  rw [List.map_append, List.map_singleton]
  congr 1
  · refine List.map_congr_left fun x hx => ?_
    exact if_neg fun z => hs (by rw [← z]; exact hx)
  · exact congrArg (fun z => [z]) (if_pos rfl)
/-- a state more, its list empty -/
theorem EA.add (A : EA P w K S H0 H D W ws pf l es []) {p b : Addr} (np : H p = none) (hs : s ∉ l) (hl : l.length < 3900) (hb : Dp K (imm (D :: W :: l.map pf) H) (.ref b) s.d) :
    NPut P w K (upd H p (.lst [])) D (.ref b) (.ref p) (upd (upd H p (.lst [])) D (ndO P w D (putE es s.key b (.ref p)))) ∧
      EA P w K S H0 (upd (upd H p (.lst [])) D (ndO P w D (putE es s.key b (.ref p)))) D W ws (setf pf s p) (l ++ [s]) (putE es s.key b (.ref p)) [] := by
  have pm : p ∉ D :: W :: l.map pf := A.mu.new np
  have pD : p ≠ D := fun e => pm (by rw [e]; exact List.mem_cons_self)
  have pW : p ≠ W := fun e => pm (by rw [e]; exact List.mem_cons_of_mem _ List.mem_cons_self)
  have sp := same_new (o := .lst []) np
  have le : es.length = l.length := Paired.length A.t
  refine ⟨⟨es, s.key, b, ⟨by rw [upd_ne (Ne.symm pD)]; exact A.d, (td_keys imm_sub A.tabE A.size A.sm).mono sp⟩, rfl, by rw [Sta.key_data]; exact dp_mono (imm_sub.trans sp) hb, Sta.key_depth s, size4 (by omega), rfl⟩, ?_⟩
  have ei : imm (D :: W :: (l ++ [s]).map (setf pf s p)) (upd (upd H p (.lst [])) D (ndO P w D (putE es s.key b (.ref p)))) = imm (D :: W :: l.map pf) H := by
    rw [imm_upd List.mem_cons_self, setf_map hs, imm_upd (List.mem_cons_of_mem _ (List.mem_cons_of_mem _ (List.mem_append_right _ (List.mem_singleton.mpr rfl))))]
    refine funext fun a => ?_
    by_cases ha : a = p
    · rw [ha, imm_in (by simp), imm_at pm, np]
    · by_cases hm : a ∈ D :: W :: l.map pf
      · rw [imm_in hm, imm_in (by
          rcases List.mem_cons.mp hm with z | z
          · rw [z]; exact List.mem_cons_self
          rcases List.mem_cons.mp z with z | z
          · rw [z]; exact List.mem_cons_of_mem _ List.mem_cons_self
          · exact List.mem_cons_of_mem _ (List.mem_cons_of_mem _ (List.mem_append_left _ z)))]
      · rw [imm_at hm, imm_at fun z => by
          rcases List.mem_cons.mp z with z | z
          · exact hm (by rw [z]; exact List.mem_cons_self)
          rcases List.mem_cons.mp z with z | z
          · exact hm (by rw [z]; exact List.mem_cons_of_mem _ List.mem_cons_self)
          · rcases List.mem_append.mp z with z | z
            · exact hm (List.mem_cons_of_mem _ (List.mem_cons_of_mem _ z))
            · exact ha (List.mem_singleton.mp z)]
  have ep : putE es s.key b (.ref p) = es ++ [(s.key, b, .ref p)] := by
    unfold putE
    rw [entL_no A.t hs]
    rfl
  have old : ∀ x ∈ l, setf pf s p x = pf x := fun x hx => if_neg fun z => hs (by rw [← z]; exact hx)
  have new : setf pf s p s = p := if_pos rfl
  have out : ∀ x ∈ l, pf x ≠ p := fun x hx z => pm (by rw [← z]; exact List.mem_cons_of_mem _ (List.mem_cons_of_mem _ (List.mem_map.mpr ⟨x, hx, rfl⟩)))
  refine ⟨by rw [ei]; exact A.base, upd_same, ?_, ?_, fun x hx y hy e => ?_, fun x hx => ?_, by rw [List.length_append, List.length_singleton]; omega, A.sm, A.ww, by unfold Rd; rw [upd_ne A.wd, upd_ne (Ne.symm pW)]; exact A.fz⟩
  · rw [ei, ep]
    refine Paired.snoc ?_ ⟨rfl, hb, by rw [new]⟩
    have go : ∀ {es : List NE} {k : List Sta}, (∀ x ∈ k, x ∈ l) → Paired (EntL K (imm (D :: W :: l.map pf) H) pf) es k → Paired (EntL K (imm (D :: W :: l.map pf) H) (setf pf s p)) es k := by
      intro es k hk t
      induction t with
      | nil => exact .nil
      | cons h t ih => exact .cons ⟨h.1, h.2.1, by rw [old _ (hk _ List.mem_cons_self)]; exact h.2.2⟩ (ih fun x hx => hk x (List.mem_cons_of_mem _ hx))
    exact go (fun x hx => hx) A.t
  · rw [List.nodup_append]
    refine ⟨A.nd, by simp, fun x hx y hy => ?_⟩
    rw [List.mem_singleton.mp hy]
    exact fun z => hs (by rw [← z]; exact hx)
  · rcases List.mem_append.mp hx with hx | hx <;> rcases List.mem_append.mp hy with hy | hy
    · rw [old x hx, old y hy] at e
      exact A.inj x hx y hy e
    · rw [List.mem_singleton.mp hy, new, old x hx] at e
      exact absurd e (out x hx)
    · rw [List.mem_singleton.mp hx, new, old y hy] at e
      exact absurd e.symm (out y hy)
    · rw [List.mem_singleton.mp hx, List.mem_singleton.mp hy]
  · rw [ei]
    rcases List.mem_append.mp hx with hx | hx
    · obtain ⟨us, h, d⟩ := A.ls x hx
      exact ⟨us, by rw [old x hx, upd_ne (A.ne hx), upd_ne (out x hx)]; exact h, d⟩
    · rw [List.mem_singleton.mp hx, new]
      exact ⟨[], by rw [upd_ne pD, upd_same], .nil⟩
end

theorem cost_n (t : Stp) : costOf t = (shiftsT t : Nat) := by cases t <;> rfl
section
variable {P : Program} {w : World} {K : PySem.W.Frag} {mg : Str → Option Value} {base : Heap}
def spEarlier (P : Program) (w : World) (K : PySem.W.Frag) : Sp := fun vs H Q _ => ∃ (dw : Addr) (B : Hp) (S : Sto) (vis : List Sta), vs = [.ref dw] ∧ StoOk S ∧ TdW P w K B H dw (tabOf (dnext S) vis) ∧ Same B H ∧ B dw = none ∧ vis.length ≤ 3900 ∧ vis.Nodup ∧ (∀ s ∈ vis, ∀ t ∈ openSteps S s, behindS S s t ∈ vis) ∧
  ∀ d B' H', Same (imm [dw] H) B' → Same B' H' → Same H H' → B' dw = none → H d = none → B' d = none → TdW P w K B' H' d (tabOf (earD S (edges S vis)) vis) → Q (.ref d) H'
/-! _earlier: 0 ways, 1 earlier, 2 state, 3 steps, 4 step, 5 later -/
abbrev s__earlier : Stmt := topS 29
abbrev N__earlier : List Str := ["ways", "earlier", "state", "steps", "step", "later"]
theorem sc__earlier : FnScope N__earlier ["ways"] (defScope s__earlier) := ⟨rfl, rfl, rfl, by decide +kernel, rfl, by decide +kernel, by decide +kernel⟩
theorem ok__earlier {f f1 : Addr} {fd fd1 : FuncData} (D : Dfs K mg "_earlier" s__earlier ["ways"] f fd) (T : Tx K mg) (C_shifts_of : Cal P w K mg base 1 "shifts_of" ["step"] (spShiftsOf K) f1 fd1) : Cal P w K mg base 2 "_earlier" ["ways"] (spEarlier P w K) f fd := by
  refine D.cal (D.F.ok sc__earlier (fun vs H Q E h => ?_) (fun cdv A outer s H vs Q E hr h => ?_))
  · obtain ⟨dw, B, S, vis, rfl, _⟩ := h
    rfl
  · obtain ⟨dw, B, S, vis, rfl, ok, tw, R, nb, lv, nd, cl, q⟩ := h
    obtain ⟨ws, hw, tt, hz, hm⟩ := tw
    refine ⟨_, (pss_cons (ps_lock (ps_setDcN (i := 1) (P := P) (w := w) (K := K) (own := [("state", 2)]) (g := gName 2) (hu16 hr) rfl sc__earlier.nd rfl rfl (sw_trueD rfl rfl rfl (by decide +kernel)) (pi_nkeys (P := P) (w := w) (pv 0)) (blkOk_by (own := [("state", 2)]) (N := N__earlier) (sc := defScope s__earlier) (by decide +kernel)) (fun _ _ _ _ _ => (pg_name (i := 2) sc__earlier.nd rfl (Or.inl rfl))) (fun _ _ _ _ _ => (pv 2)) (fun _ _ _ _ _ => by exact (pe_lst pa_nil))))
      (pss_cons (ps_lock (ps_for PassesOwn.never rfl (pi_nitems (P := P) (w := w) (pv 0)) (pg_tup (by rfl) (pgs_cons (pg_name (i := 2) sc__earlier.nd rfl (Or.inl rfl)) (pgs_cons (pg_name (i := 3) sc__earlier.nd rfl (Or.inl rfl)) pgs_nil))) (pss_one (ps_for PassesOwn.never rfl (pi_list (pv 3)) (pg_tup (by rfl) (pgs_cons (pg_name (i := 4) sc__earlier.nd rfl (Or.inl rfl)) (pgs_cons (pg_name (i := 5) sc__earlier.nd rfl (Or.inl rfl)) pgs_nil))) (pss_one (ps_expr (pe_bm PySem.F.plainAttrs_list PySem.F.slot_list_append PySem.F.type_list_append mt_append (pe_nget (P := P) (w := w) (K := K) (hu16 hr) (pv 1) (pv 5) (fun _ _ => rfl)) (pa_cons (pe_tup (pa_cons (pe_call C_shifts_of.G (hr.mono (by decide)) (by rfl) C_shifts_of.g C_shifts_of.kp C_shifts_of.b .nil pass0 (pa_cons (pv 4) pa_nil)) (pa_cons (pv 2) pa_nil))) pa_nil))))))))
      (pss_one (ps_ret (pv 1))))), ?_⟩
    have lw : ws.length = vis.length := (Paired.length tt).trans tabOf_len
    have RB : Same B (imm [dw] H) := imm_keep R fun a ha => by rw [List.mem_singleton.mp ha]; exact nb
    have ent : ∀ {i : Nat} {k : NK} {b : Addr} {v : V}, ws[i]? = some (k, b, v) → ∃ s, vis[i]? = some s ∧ k = s.key ∧ Dp K (imm [dw] H) (.ref b) s.d ∧ Dp K (imm [dw] H) v (dnext S s) := fun {i k b v} e => by
      obtain ⟨y, hy, h1, h2, h3⟩ := paired_get tt e
      unfold tabOf at hy
      rw [List.getElem?_map] at hy
      cases hl : vis[i]? with
      | none => rw [hl] at hy; cases hy
      | some s =>
        rw [hl] at hy
        obtain rfl := Option.some.inj hy
        exact ⟨s, rfl, h1, dp_mono RB h2, dp_mono RB h3⟩
    refine ⟨dw, _, hw, trivial, fun od => ⟨_, rfl, dw, od, ws, rfl, hm, upd_same, fun E1 nE sE => ?_⟩⟩
    have neD : E1 ≠ dw := fun e => by rw [e, upd_same] at nE; cases nE
    have nE0 : H E1 = none := by rw [upd_ne neD] at nE; exact nE
    refine dc_nkeys (P := P) (w := w) (K := K) (d := dw) (o := od) (xs := ws) (fun j H' => ∃ pf es, H' dw = some (.frz od (ndO P w dw ws)) ∧ EA P w K S (imm [dw] H) H' E1 dw ws pf (vis.take j) es []) ?_ (fun i H' _ ⟨pf, es, e, _⟩ => e) ?_ ?_
    · refine ⟨fun _ => 0, [], by rw [upd_ne (Ne.symm neD)]; exact upd_same, ?_, upd_same, .nil, List.nodup_nil, fun a ha => (nomatch ha), fun a ha => (nomatch ha), Nat.zero_le _, sE, Ne.symm neD, .inr ⟨od, by rw [upd_ne (Ne.symm neD)]; exact upd_same⟩⟩
      intro b u e
      by_cases hb : b = dw
      · rw [hb, imm_in (by simp)] at e; cases e
      · rw [imm_at (by simp [hb])] at e
        have hb2 : b ≠ E1 := fun z => by rw [z, nE0] at e; cases e
        show imm [E1, dw] _ b = _
        rw [imm_at (by simp [hb2, hb]), upd_ne hb2, upd_ne hb]
        exact e
    · rintro i k b v H3 he ⟨pf, es, e3, A⟩
      obtain ⟨s, hs, rfl, hb, _⟩ := ent he
      refine ⟨rfl, _, rfl, small (by simp), fun p np => ?_⟩
      have hn : s ∉ vis.take i := fun z => by
        have h := nd
        rw [← List.take_append_drop i vis, List.nodup_append] at h
        refine h.2.2 s z s ?_ rfl
        refine List.mem_of_getElem? (i := 0) ?_
        rw [List.getElem?_drop]
        exact hs
      have hil : i < vis.length := (List.getElem?_eq_some_iff.mp hs).1
      obtain ⟨h1, h2⟩ := A.add np hn (by rw [List.length_take]; omega) (dp_mono A.base hb)
      refine ⟨_, h1, setf pf s p, _, ?_, by rw [take_snoc hs]; exact h2⟩
      have pd : p ≠ dw := fun z => by rw [z, e3] at np; cases np
      rw [upd_ne (Ne.symm neD), upd_ne (Ne.symm pd)]
      exact e3
    · rintro H3 ⟨pf, es, e3, A⟩
      rw [lw, List.take_length] at A
      refine ⟨e3, ⟨dw, _, upd_same, trivial, fun od2 => ?_⟩⟩
      have A1 := (A.lock (o := ndO P w dw ws) (.inl upd_same)).lock (o := .frz od2 (ndO P w dw ws)) (.inr ⟨od2, upd_same⟩)
      have e4 : (upd (upd H3 dw (ndO P w dw ws)) dw (.frz od2 (ndO P w dw ws))) dw = some (.frz od2 (ndO P w dw ws)) := upd_same
      generalize upd (upd H3 dw (ndO P w dw ws)) dw (.frz od2 (ndO P w dw ws)) = H4 at A1 e4 ⊢
      refine ⟨_, rfl, dw, od2, ws, rfl, hm, e4, for_nitems (P := P) (w := w) (d := dw) (o := od2) (xs := ws) (fun i σ H' => ∃ (pf : Sta → Addr) (es : List NE) (v2 v3 v4 v5 : Option V), σ = [some (.ref dw), some (.ref E1), v2, v3, v4, v5] ∧ H' dw = some (.frz od2 (ndO P w dw ws)) ∧ EA P w K S (imm [dw] H) H' E1 dw ws pf vis es (edges S (vis.take i))) ?_ ?_ ?_ ?_⟩
      · exact ⟨pf, es, none, none, none, none, rfl, e4, A1⟩
      · rintro i σ H5 _ ⟨_, _, _, _, _, _, _, e, _⟩
        exact e
      · rintro i k b v σ H5 T1 he ⟨pf, es, v2, v3, v4, v5, rfl, e5, A5⟩ nT
        obtain ⟨s, hs, rfl, hb, hv⟩ := ent he
        obtain ⟨D8, ps, rfl, hD8, dps8⟩ := dp_lst hv
        have lps : ps.length = (openSteps S s).length := (dps_len dps8).trans (List.length_map ..)
        have s6 := same_new (o := .tup [.ref b, .ref D8]) nT
        have A6 := A5.pure s6
        have e6 := s6 _ _ e5
        refine ⟨T1, _, rfl, tup_new, rfl, _, _, rfl, _, _, rfl, rfl, ?_⟩
        have B6 := A6.base.trans imm_sub
        refine ⟨_, rfl, D8, rfl, ⟨ps, Same.l B6 hD8⟩, for_list (K := K) (a := D8) (xs := ps) (fun j σ H' => ∃ (v4 v5 : Option V), σ = [some (.ref dw), some (.ref E1), some (.ref b), some (.ref D8), v4, v5] ∧ H' dw = some (.frz od2 (ndO P w dw ws)) ∧ EA P w K S (imm [dw] H) H' E1 dw ws pf vis es (edges S (vis.take i) ++ ((openSteps S s).take j).map fun t => (s, t))) ?_ ?_ ?_ ?_⟩
        · exact ⟨_, _, rfl, e6, by rw [List.take_zero, List.map_nil, List.append_nil]; exact A6⟩
        · rintro j σ H7 _ ⟨_, _, _, _, A7⟩
          exact Same.l (A7.base.trans imm_sub) hD8
        · rintro j z σ H7 hz ⟨v4, v5, rfl, e7, A7⟩
          obtain ⟨d, hd, dz⟩ := dps_of_get dps8 hz
          rw [List.getElem?_map] at hd
          cases ht : (openSteps S s)[j]? with
          | none => rw [ht] at hd; cases hd
          | some t =>
            rw [ht] at hd
            rw [← Option.some.inj hd] at dz
            obtain ⟨az, zz, rfl, hz1, hz2⟩ := dp_tup dz
            obtain ⟨x1, r1, rfl, g1, k1⟩ := dps_cons hz2
            obtain ⟨x2, r2, rfl, g2, k2⟩ := dps_cons k1
            obtain rfl := dps_nil k2
            have mt := List.mem_of_getElem? ht
            have ms : s ∈ vis := List.mem_of_getElem? hs
            have ml := cl s ms t mt
            have B7 := A7.base.trans imm_sub
            have g := A7.get ml (dp_mono B7 g2)
            obtain ⟨us, hu, du⟩ := A7.ls _ ml
            refine ⟨az, _, rfl, Same.t B7 hz1, rfl, _, _, rfl, _, _, rfl, rfl, ?_⟩
            refine ⟨_, rfl, _, rfl, E1, _, rfl, g, .inl ⟨rfl, _, SqL.of hu⟩, _, rfl, x1, t, rfl, dp_mono B7 g1, fun H8 s8 => ?_⟩
            refine ⟨_, rfl, small (by simp), fun p np => ?_⟩
            have sp := same_new (o := .tup [.int (costOf t), .ref b]) np
            have A9 := (A7.pure s8).pure sp
            have hu9 := sp _ _ (s8 _ _ hu)
            have hz9 : Dp K (imm (E1 :: dw :: vis.map pf) (upd H8 p (.tup [.int (costOf t), .ref b]))) (.ref p) (pairE (s, t)) := by
              refine dp_imm A9.mu.no (.tup tup_new (.cons ?_ (.cons (dp_mono (A9.base.trans imm_sub) hb) .nil))) ?_
              · rw [cost_n]; exact .int _
              · show (true && (noL s.d && true)) = true
                rw [noL_sta]
                rfl
            have A10 := A9.app (e := (s, t)) ml hu9 hz9
            have lu : us.length ≤ 12 * vis.length + 12 := by
              have e := dps_len du
              rw [List.length_map] at e
              have e2 : (into S (edges S (vis.take i) ++ ((openSteps S s).take j).map fun t => (s, t)) (behindS S s t)).length ≤ _ := List.length_filter_le _ _
              rw [List.length_append, List.length_map, List.length_take] at e2
              have e3 := edges_len ok (vis.take i)
              have e4 := open_few (s := s) ok
              rw [List.length_take] at e3
              omega
            refine ⟨pf (behindS S s t), us, _, rfl, rfl, hu9, by rw [sizeLine_eq]; omega, _, _, rfl, ?_, ?_⟩
            · have ne : pf (behindS S s t) ≠ dw := A9.nw ml
              rw [upd_ne (Ne.symm ne)]
              exact sp _ _ (s8 _ _ e7)
            · rw [take_snoc ht, List.map_append, ← List.append_assoc]
              exact A10
        · rintro σ H7 ⟨v4, v5, rfl, e7, A7⟩
          rw [lps, List.take_length] at A7
          refine ⟨pf, es, _, _, _, _, rfl, e7, ?_⟩
          have ee : edges S (vis.take (i + 1)) = edges S (vis.take i) ++ (openSteps S s).map fun t => (s, t) := by
            rw [take_snoc hs]
            unfold edges
            rw [List.flatMap_append]
            congr 1
            exact List.append_nil _
          rw [ee]
          exact A7
      · rintro σ H5 ⟨pf, es, v2, v3, v4, v5, rfl, e5, A5⟩
        rw [lw, List.take_length] at A5
        refine ⟨e5, _, rfl, ?_⟩
        have A6 := A5.lock (o := ndO P w dw ws) (.inl upd_same)
        have off : ∀ a, a ≠ dw → ∀ u, H a = some u → (upd H5 dw (ndO P w dw ws)) a = some u ∧ a ≠ E1 := fun a ha u e => ⟨by rw [upd_ne ha]; exact imm_sub _ _ (A5.base _ _ (by rw [imm_at (by simp [ha])]; exact e)), fun z => by rw [z, nE0] at e; cases e⟩
        refine q E1 (imm [E1, dw] (upd H5 dw (ndO P w dw ws))) _ (fun a u e => ?_) imm_sub (fun a u e => ?_) (imm_in (by simp)) nE0 (imm_in (by simp)) A6.tab
        · by_cases ha : a = dw
          · rw [ha, imm_in (by simp)] at e; cases e
          · rw [imm_at (by simp [ha])] at e
            obtain ⟨h1, h2⟩ := off a ha u e
            rw [imm_at (by simp [ha, h2])]
            exact h1
        · by_cases ha : a = dw
          · rw [ha, hw] at e
            rw [ha, upd_same, Option.some.inj e]
          · exact (off a ha u e).1
end

/-! ## the queue of Dijkstra's search -/
def itemD (x : Item) : PyData := .tuple [.int (x.1.1 : Nat), .int (x.1.2 : Nat), x.2.d]
theorem item_lt {x y : Item} (h : PySem.W.dataLt (itemD x) (itemD y) = false) : ¬ ltp x.1 y.1 := by
  intro l
  unfold itemD at h
  rw [PySem.W.dataLt_tuple, PySem.W.dataLt_cons (by simp [PySem.W.alike]), PySem.W.dataLt_int] at h
  unfold ltp at l
  by_cases e : PyData.eqv (.int (x.1.1 : Nat)) (.int (y.1.1 : Nat)) = true
  · rw [if_pos e, PySem.W.dataLt_cons (by simp [PySem.W.alike]), PySem.W.dataLt_int] at h
    have e' : (x.1.1 : Int) = (y.1.1 : Int) := by simpa [PyData.eqv] using e
    by_cases f : PyData.eqv (.int (x.1.2 : Nat)) (.int (y.1.2 : Nat)) = true
    · have f' : (x.1.2 : Int) = (y.1.2 : Int) := by simpa [PyData.eqv] using f
      omega
    · rw [if_neg f] at h
      have := of_decide_eq_false h
      omega
  · rw [if_neg e] at h
    have := of_decide_eq_false h
    have e' : ¬ (x.1.1 : Int) = (y.1.1 : Int) := fun z => e (by simpa [PyData.eqv] using z)
    omega
theorem item_alike (x y : Item) : PySem.W.alike (itemD x) (itemD y) = true := by
  unfold itemD
  simp only [PySem.W.alike, PySem.W.alikeAll, alike_sta, Bool.and_true, Bool.true_and]
theorem item_ok (x : Item) : itemD x ≠ .none ∧ noL (itemD x) = true ∧ (itemD x).depth ≤ 8 := by
  refine ⟨fun z => (by cases z), ?_, ?_⟩
  · show (true && (true && (noL x.2.d && true))) = true
    rw [noL_sta]
    rfl
  · have := (Lays.tup (n := 2) (Lays.cons lay_int (Lays.cons lay_int (Lays.cons x.2.lay lays_nil))) : Lay 3 (itemD x))
    have h : (itemD x).depth ≤ 3 := this.2
    omega
theorem items_ok (l : List Item) : HeapOk (l.map itemD) := by
  refine ⟨fun x hx y hy => ?_, fun d hd => ?_⟩
  · obtain ⟨a, _, rfl⟩ := List.mem_map.mp hx
    obtain ⟨b, _, rfl⟩ := List.mem_map.mp hy
    exact item_alike a b
  · obtain ⟨a, _, rfl⟩ := List.mem_map.mp hd
    exact item_ok a
abbrev QIt (K : PySem.W.Frag) (B : Hp) : Ps → List Item → Prop := Paired fun p x => Dp K B p.1 (itemD x) ∧ p.2 = itemD x
theorem qit_snd {K : PySem.W.Frag} {B : Hp} : ∀ {ps : Ps} {its : List Item}, QIt K B ps its → ps.map (·.2) = its.map itemD
  | _, _, .nil => rfl
  | _, _, .cons h t => by rw [List.map_cons, List.map_cons, h.2, qit_snd t]
theorem qit_mem {K : PySem.W.Frag} {B : Hp} : ∀ {ps : Ps} {its : List Item}, QIt K B ps its → ∀ p ∈ ps, ∃ x ∈ its, Dp K B p.1 (itemD x) ∧ p.2 = itemD x
  | _, _, .nil, p, h => nomatch h
  | _, _, .cons h t, p, hp => by
    rcases List.mem_cons.mp hp with e | hp
    · rw [e]; exact ⟨_, List.mem_cons_self, h⟩
    · obtain ⟨x, hx, z⟩ := qit_mem t p hp
      exact ⟨x, List.mem_cons_of_mem _ hx, z⟩
theorem qit_rev {K : PySem.W.Frag} {B : Hp} : ∀ {ps : Ps} {its : List Item}, QIt K B ps its → ∀ x ∈ its, ∃ p ∈ ps, p.2 = itemD x
  | _, _, .nil, p, h => nomatch h
  | _, _, .cons h t, x, hx => by
    rcases List.mem_cons.mp hx with e | hx
    · rw [e]; exact ⟨_, List.mem_cons_self, h.2⟩
    · obtain ⟨p, hp, z⟩ := qit_rev t x hx
      exact ⟨p, List.mem_cons_of_mem _ hp, z⟩
theorem Dij.perm {S : Sto} {fo : List Sta} {v : Val} {q q' : List Item} (D : Dij S fo v q) (h : ∀ x, x ∈ q ↔ x ∈ q') : Dij S fo v q' :=
  ⟨D.va, fun x hx => D.qv x ((h x).mpr hx), fun s hs he => (D.ends s hs he).imp id (h _).mp, fun s hs t ht o ho => (D.gain s hs t ht o ho).imp id (h _).mp, fun s c hc x hx => D.mono s c hc x ((h x).mpr hx)⟩
theorem Dij.start {S : Sto} {fo : List Sta} {q : List Item} (h : ∀ x, x ∈ q ↔ x ∈ (fo.filter (isEndS S)).map fun s => (((0, 0), s) : Item)) : Dij S fo (fun _ => none) q := by
  refine ⟨fun s x e => (by cases e), fun x hx => ?_, fun s hs he => .inr ((h _).mpr (List.mem_map.mpr ⟨s, List.mem_filter.mpr ⟨hs, he⟩, rfl⟩)), fun s hs t ht o ho => (by cases ho), fun s c e => (by cases e)⟩
  obtain ⟨s, hs, rfl⟩ := List.mem_map.mp ((h x).mp hx)
  obtain ⟨h1, h2⟩ := List.mem_filter.mp hs
  exact ⟨h1, [], s, .nil, h2, rfl⟩
/-- where the search stands -/
structure QS (P : Program) (w : World) (K : PySem.W.Frag) (S : Sto) (H0 H : Hp) (C Q W : Addr) (ws : List NE) (v : Val) (dn : List Sta) (its : List Item) (ps : Ps) : Prop where
  base : Same H0 (imm [C, Q, W] H)
  el : H Q = some (.lst (ps.map (·.1)))
  it : QIt K (imm [C, Q, W] H) ps its
  hp : HeapD ps
  n : TdW P w K (imm [C, Q, W] H) H C (tabOf (fun s => dval (v s)) dn)
  dom : ∀ s, s ∈ dn ↔ (v s).isSome = true
  nd : dn.Nodup
  ww : W ≠ C
  fz : Rd H W (ndO P w W ws)
section
variable {P : Program} {w : World} {K : PySem.W.Frag} {S : Sto} {H0 H H' : Hp} {C Q W : Addr} {ws : List NE} {v : Val} {dn : List Sta} {its : List Item} {ps : Ps}
theorem QIt.mono {B B' : Hp} (s : Same B B') (h : QIt K B ps its) : QIt K B' ps its := Paired.mapP h fun _ _ z => ⟨dp_mono s z.1, z.2⟩
theorem QS.pure (A : QS P w K S H0 H C Q W ws v dn its ps) (s : Same H H') : QS P w K S H0 H' C Q W ws v dn its ps :=
  ⟨A.base.trans (imm_mono s), s _ _ A.el, A.it.mono (imm_mono s), A.hp, A.n.mono (imm_mono s) s, A.dom, A.nd, A.ww, Same.rd s A.fz⟩
theorem QS.mu (A : QS P w K S H0 H C Q W ws v dn its ps) : Mu [C, Q, W] H := fun b hb => by
  obtain ⟨es, e1, _⟩ := A.n
  simp only [List.mem_cons, List.not_mem_nil, or_false] at hb
  rcases hb with rfl | rfl | rfl
  · exact ⟨_, e1, nt_nd⟩
  · exact ⟨_, A.el, nt_lst⟩
  · exact rd_nt A.fz
theorem QS.qc (A : QS P w K S H0 H C Q W ws v dn its ps) : Q ≠ C := A.n.ne A.el
theorem QS.qw (A : QS P w K S H0 H C Q W ws v dn its ps) : Q ≠ W := fun e => by
  have h := A.el
  rw [e] at h
  exact rd_lst A.fz h
theorem QS.lock (A : QS P w K S H0 H C Q W ws v dn its ps) {o : HO} (h : Rd (upd H W o) W (ndO P w W ws)) : QS P w K S H0 (upd H W o) C Q W ws v dn its ps := by
  have ei : imm [C, Q, W] (upd H W o) = imm [C, Q, W] H := imm_upd (by simp)
  exact ⟨by rw [ei]; exact A.base, by rw [upd_ne A.qw]; exact A.el, by rw [ei]; exact A.it, A.hp, by rw [ei]; exact A.n.at_ (upd_ne (Ne.symm A.ww)), A.dom, A.nd, A.ww, h⟩
theorem QS.setq (A : QS P w K S H0 H C Q W ws v dn its ps) {its' : List Item} {ps' : Ps} (h : QIt K (imm [C, Q, W] H) ps' its') (hd : HeapD ps') : QS P w K S H0 (upd H Q (.lst (ps'.map (·.1)))) C Q W ws v dn its' ps' := by
  have ei : imm [C, Q, W] (upd H Q (.lst (ps'.map (·.1)))) = imm [C, Q, W] H := imm_upd (by simp)
  exact ⟨by rw [ei]; exact A.base, upd_same, by rw [ei]; exact h, hd, by rw [ei]; exact A.n.at_ (upd_ne (Ne.symm A.qc)), A.dom, A.nd, A.ww, by unfold Rd; rw [upd_ne (Ne.symm A.qw)]; exact A.fz⟩
theorem QS.push (A : QS P w K S H0 H C Q W ws v dn its ps) {z : V} {x : Item} (hz : Dp K (imm [C, Q, W] H) z (itemD x)) {ps' : Ps} (pp : ps'.Perm (ps ++ [(z, itemD x)])) (hd : HeapD ps') :
    ∃ its', its'.Perm (its ++ [x]) ∧ QS P w K S H0 (upd H Q (.lst (ps'.map (·.1)))) C Q W ws v dn its' ps' := by
  obtain ⟨its', p2, h⟩ := paired_perm pp (Paired.snoc A.it (show Dp K _ (z, itemD x).1 (itemD x) ∧ (z, itemD x).2 = itemD x from ⟨hz, rfl⟩))
  exact ⟨its', p2, A.setq h hd⟩
theorem QS.pop {p0 : V × PyData} (A : QS P w K S H0 H C Q W ws v dn its (p0 :: ps)) : ∃ x0 its0, its = x0 :: its0 ∧ Dp K (imm [C, Q, W] H) p0.1 (itemD x0) ∧ ∀ ps' : Ps, ps'.Perm ps → HeapD ps' → (∀ p ∈ ps, PySem.W.dataLt p.2 p0.2 = false) →
    ∃ its', its'.Perm its0 ∧ (∀ x ∈ its', ¬ ltp x.1 x0.1) ∧ QS P w K S H0 (upd H Q (.lst (ps'.map (·.1)))) C Q W ws v dn its' ps' := by
  have h := A.it
  cases h with
  | @cons _ x0 _ its0 h t =>
    refine ⟨x0, its0, rfl, h.1, fun ps' pp hd hm => ?_⟩
    obtain ⟨its', p2, q⟩ := paired_perm pp t
    refine ⟨its', p2, fun x hx => ?_, A.setq q hd⟩
    obtain ⟨p, hp, e⟩ := qit_rev t x (p2.mem_iff.mp hx)
    have l := hm p hp
    rw [e, h.2] at l
    exact item_lt l
theorem QS.put (A : QS P w K S H0 H C Q W ws v dn its ps) {y z : V} {s : Sta} {c : Nat × Nat} (hy : Dp K (imm [C, Q, W] H) y s.d) (hz : Dp K (imm [C, Q, W] H) z (dval (some c))) (hv : v s = none) (hl : dn.length ≤ 3900) :
    ∃ H', NPut P w K H C y z H' ∧ QS P w K S H0 H' C Q W ws (setv v s (some c)) (dn ++ [s]) its ps ∧ imm [C, Q, W] H' = imm [C, Q, W] H := by
  have hn : s ∉ dn := fun h => by
    have := (A.dom s).mp h
    rw [hv] at this
    cases this
  obtain ⟨es, h1, h2⟩ := td_put A.n imm_sub hy hz (size4 (by rw [tabOf_len]; omega))
  rw [putM_new (g := fun t => dval (setv v s (some c) t)) hn (by show dval (setv v s (some c) s) = _; rw [setv_at]) (fun t ht => by show dval (setv v s (some c) t) = _; rw [show setv v s (some c) t = v t from if_neg ht])] at h2
  have ei : imm [C, Q, W] (upd H C (ndO P w C es)) = imm [C, Q, W] H := imm_upd (by simp)
  refine ⟨_, h1, ⟨by rw [ei]; exact A.base, by rw [upd_ne A.qc]; exact A.el, by rw [ei]; exact A.it, A.hp, by rw [ei]; exact h2, fun t => ?_, ?_, A.ww, by unfold Rd; rw [upd_ne A.ww]; exact A.fz⟩, ei⟩
  · rw [List.mem_append, List.mem_singleton]
    by_cases e : t = s
    · rw [e, setv_at]
      exact ⟨fun _ => rfl, fun _ => .inr rfl⟩
    · rw [show setv v s (some c) t = v t from if_neg e, ← A.dom t]
      exact ⟨fun z => z.resolve_right e, .inl⟩
  · rw [List.nodup_append]
    refine ⟨A.nd, by simp, fun x hx y hy => ?_⟩
    rw [List.mem_singleton.mp hy]
    exact fun z => hn (by rw [← z]; exact hx)
theorem QS.dx (A : QS P w K S H0 H C Q W ws v dn its ps) : ∀ p ∈ ps, Dp K H p.1 p.2 := fun p hp => by
  obtain ⟨x, _, h, e⟩ := qit_mem A.it p hp
  rw [e]
  exact dp_mono imm_sub h
theorem QS.ok (A : QS P w K S H0 H C Q W ws v dn its ps) (x : Item) : HeapOk (itemD x :: ps.map (·.2)) := by
  rw [qit_snd A.it]
  exact items_ok (x :: its)
theorem QS.ok0 (A : QS P w K S H0 H C Q W ws v dn its ps) : HeapOk (ps.map (·.2)) := by
  rw [qit_snd A.it]
  exact items_ok its
theorem QS.len (A : QS P w K S H0 H C Q W ws v dn its ps) : ps.length = its.length := Paired.length A.it
/-- heappush(queue, x) -/
theorem QS.rpush (A : QS P w K S H0 H C Q W ws v dn its ps) {z : V} {x : Item} (hz : Dp K (imm [C, Q, W] H) z (itemD x)) (hl : its.length < sizeLine) {R : VK}
    (h : ∀ H' its' ps', its'.Perm (its ++ [x]) → (∀ a, a ≠ Q → H' a = H a) → QS P w K S H0 H' C Q W ws v dn its' ps' → R .non H') : rHPush K [.ref Q, z] H R := by
  refine ⟨Q, z, itemD x, ps, rfl, A.el, A.dx, dp_mono imm_sub hz, A.ok x, A.hp, by rw [A.len]; exact hl, fun ps' pp hd => ?_⟩
  obtain ⟨its', p2, A'⟩ := A.push hz pp hd
  exact h _ its' ps' p2 (fun a ha => upd_ne ha) A'
/-- heappop(queue) -/
theorem QS.rpop (A : QS P w K S H0 H C Q W ws v dn its ps) (hn : 0 < its.length) {R : VK}
    (h : ∀ H' z x0 its0 its' ps', its = x0 :: its0 → its'.Perm its0 → (∀ x ∈ its', ¬ ltp x.1 x0.1) → Dp K (imm [C, Q, W] H') z (itemD x0) → (∀ a, a ≠ Q → H' a = H a) → QS P w K S H0 H' C Q W ws v dn its' ps' → R z H') : rHPop K [.ref Q] H R := by
  cases ps with
  | nil => rw [← A.len] at hn; cases hn
  | cons p0 ps =>
    refine ⟨Q, p0, ps, rfl, A.el, A.dx, A.ok0, A.hp, fun ps' pp hd hm => ?_⟩
    obtain ⟨x0, its0, e, dz, k⟩ := A.pop
    obtain ⟨its', p2, lt, A'⟩ := k ps' pp hd hm
    exact h _ p0.1 x0 its0 its' ps' e p2 lt (by rw [imm_upd (by simp)]; exact dz) (fun a ha => upd_ne ha) A'
end

section
variable {P : Program} {w : World} {K : PySem.W.Frag} {mg : Str → Option Value} {base : Heap}
def spCosts (P : Program) (w : World) (K : PySem.W.Frag) (C : Addr) : Sp := fun vs H Q _ => ∃ (p dw : Addr) (B : Hp) (S : Sto) (vis : List Sta), vs = [.ref p, .ref dw] ∧ Ob K C B p S ∧ StoOk S ∧ TdW P w K B H dw (tabOf (dnext S) vis) ∧ Same B H ∧ B dw = none ∧ vis.length ≤ 3900 ∧ vis.Nodup ∧ (∀ s ∈ vis, ∀ t ∈ openSteps S s, behindS S s t ∈ vis) ∧
  ∀ d B' H' v dn, Same (imm [dw] H) B' → Same B' H' → Same H H' → B' dw = none → H d = none → B' d = none → TdW P w K B' H' d (tabOf (fun s => dval (v s)) dn) → (∀ s, s ∈ dn ↔ (v s).isSome = true) → Costs S vis v → Q (.ref d) H'
/-! _costs: 0 store, 1 ways, 2 earlier, 3 costs, 4 queue, 5 state, 6 moved, 7 many, 8 more, 9 ahead -/
abbrev s__costs : Stmt := topS 28
abbrev N__costs : List Str := ["store", "ways", "earlier", "costs", "queue", "state", "moved", "many", "more", "ahead"]
theorem sc__costs : FnScope N__costs ["store", "ways"] (defScope s__costs) := ⟨rfl, rfl, rfl, by decide +kernel, rfl, by decide +kernel, by decide +kernel⟩
theorem ok__costs {f f1 f2 C : Addr} {fd fd1 fd2 : FuncData} (D : Dfs K mg "_costs" s__costs ["store", "ways"] f fd) (T : Tx K mg) (n_heappush : mg "heappush" = some (.builtin "_heapq.heappush")) (n_heappop : mg "heappop" = some (.builtin "_heapq.heappop"))
    (C__earlier : Cal P w K mg base 2 "_earlier" ["ways"] (spEarlier P w K) f1 fd1) (C_is_end : Cal P w K mg base 2 "is_end" ["store", "state"] (spIsEnd K C) f2 fd2) : Cal P w K mg base 3 "_costs" ["store", "ways"] (spCosts P w K C) f fd := by
  refine D.cal (D.F.ok sc__costs (fun vs H Q E h => ?_) (fun cdv A outer s H vs Q E hr h => ?_))
  · obtain ⟨p, dw, B, S, vis, rfl, _⟩ := h
    rfl
  · obtain ⟨p, dw, B, S, vis, rfl, ob, ok, tw, R, nb, lv, nd, cl, q⟩ := h
    refine ⟨_, (pss_cons (ps_set (i := 2) sc__costs.nd rfl (Or.inl rfl) (pe_call C__earlier.G (hr.mono (by decide)) (by rfl) C__earlier.g C__earlier.kp C__earlier.b .nil pass0 (pa_cons (pv 1) pa_nil)))
      (pss_cons (ps_set (i := 3) sc__costs.nd rfl (Or.inl rfl) (pe_nnew (P := P) (w := w)))
      (pss_cons (ps_set (i := 4) sc__costs.nd rfl (Or.inl rfl) (pe_lst pa_nil))
      (pss_cons (ps_lock (ps_for PassesOwn.never rfl (pi_nkeys (P := P) (w := w) (pv 1)) (pg_name (i := 5) sc__costs.nd rfl (Or.inl rfl)) (pss_one (ps_if (pt_val (pe_call C_is_end.G (hr.mono (by decide)) (by rfl) C_is_end.g C_is_end.kp C_is_end.b .nil pass0 (pa_cons (pv 0) (pa_cons (pv 5) pa_nil)))) (pss_one (ps_expr (pe_callBfun (cr_push (K := K) (hu20 hr)) (by rfl) n_heappush (pa_cons (pv 4) (pa_cons (pe_tup (pa_cons pe_int (pa_cons pe_int (pa_cons (pv 5) pa_nil)))) pa_nil))))) pss_nil))))
      (pss_cons (ps_while PassesOwn.never (pt_cmpR op_gt (pe_callB (klen (K := K)) (by rfl) T.n_len (by decide +kernel) (pa_cons (pv 4) pa_nil)) pe_int (nomark _)) (pss_cons (ps_asg (pe_callBfun (cr_pop (K := K) (hu20 hr)) (by rfl) n_heappop (pa_cons (pv 4) pa_nil)) (pg_tup (by rfl) (pgs_cons (pg_name (i := 6) sc__costs.nd rfl (Or.inl rfl)) (pgs_cons (pg_name (i := 7) sc__costs.nd rfl (Or.inl rfl)) (pgs_cons (pg_name (i := 5) sc__costs.nd rfl (Or.inl rfl)) pgs_nil)))))
      (pss_one (ps_if (pt_cmpR (op_nnotin (P := P) (w := w) (K := K) (hu16 hr)) (pv 5) (pv 3) (by rfl)) (pss_cons (ps_nput (P := P) (w := w) (K := K) (hu16 hr) (pv 3) (pv 5) (pe_tup (pa_cons (pv 6) (pa_cons (pv 7) pa_nil))) rfl)
      (pss_one (ps_for PassesOwn.never rfl (pi_list (by exact (pe_nget (P := P) (w := w) (K := K) (hu16 hr) (pv 2) (pv 5) (fun _ _ => rfl)))) (pg_tup (by rfl) (pgs_cons (pg_name (i := 8) sc__costs.nd rfl (Or.inl rfl)) (pgs_cons (pg_name (i := 9) sc__costs.nd rfl (Or.inl rfl)) pgs_nil))) (pss_one (ps_expr (pe_callBfun (cr_push (K := K) (hu20 hr)) (by rfl) n_heappush (pa_cons (pv 4) (pa_cons (pe_tup (pa_cons (pe_op op_add (pv 6) (pv 8)) (pa_cons (pe_op op_add (pv 7) pe_int) (pa_cons (pv 9) pa_nil)))) pa_nil)))))))) pss_nil))))
      (pss_one (ps_ret (pv 3)))))))), ?_⟩
    refine ⟨_, rfl, dw, B, S, vis, rfl, ok, tw, R, nb, lv, nd, cl, fun d2 B1 H1 s0 s1 s01 nb1 nd2 nbd2 td2 => ?_⟩
    obtain ⟨ws, hw, tt, hz, hm⟩ := tw
    have lw : ws.length = vis.length := (Paired.length tt).trans tabOf_len
    have hw1 := s01 _ _ hw
    have ned : d2 ≠ dw := fun e => by rw [e, hw] at nd2; cases nd2
    have R0 : Same B (imm [dw] H1) := (imm_keep R fun a ha => by rw [List.mem_singleton.mp ha]; exact nb).trans (imm_mono s01)
    have R1 : Same B1 (imm [dw] H1) := imm_keep s1 fun a ha => by rw [List.mem_singleton.mp ha]; exact nb1
    have ob0 := ob.mono R0
    have td0 : TdR P w K (imm [dw] H1) (imm [dw] H1) d2 (tabOf (earD S (edges S vis)) vis) := by
      obtain ⟨es, e, r1, r2⟩ := td2
      exact ⟨es, .inl (by rw [imm_at (by simp [ned])]; exact e), r1.mono R1, r2⟩
    have ent : ∀ {i : Nat} {k : NK} {b : Addr} {v : V}, ws[i]? = some (k, b, v) → ∃ s, vis[i]? = some s ∧ k = s.key ∧ Dp K (imm [dw] H1) (.ref b) s.d := fun {i k b v} e => by
      obtain ⟨y, hy, h1, h2, _⟩ := paired_get tt e
      unfold tabOf at hy
      rw [List.getElem?_map] at hy
      cases hl : vis[i]? with
      | none => rw [hl] at hy; cases hy
      | some s =>
        rw [hl] at hy
        obtain rfl := Option.some.inj hy
        exact ⟨s, rfl, h1, dp_mono R0 h2⟩
    refine fun Cd nC sC => ⟨small (by simp), fun Qu nQ => ?_⟩
    have nCd : Cd ≠ dw := fun e => by rw [e, hw1] at nC; cases nC
    have nQC : Qu ≠ Cd := fun e => by rw [e, upd_same] at nQ; cases nQ
    have nQ1 : H1 Qu = none := by rw [upd_ne nQC] at nQ; exact nQ
    have nQd : Qu ≠ dw := fun e => by rw [e, hw1] at nQ1; cases nQ1
    have A0 : QS P w K S (imm [dw] H1) (upd (upd H1 Cd (ndO P w Cd [])) Qu (.lst [])) Cd Qu dw ws (fun _ => none) [] [] [] := by
      have ei : imm [Cd, Qu, dw] (upd (upd H1 Cd (ndO P w Cd [])) Qu (.lst [])) = imm [Cd, Qu, dw] H1 := by rw [imm_upd (by simp), imm_upd (by simp)]
      refine ⟨?_, upd_same, .nil, fun i p q _ e => (by simp at e), ⟨[], by rw [upd_ne (Ne.symm nQC)]; exact upd_same, .nil, Nat.zero_le _, sC⟩, fun s => by simp, List.nodup_nil, Ne.symm nCd, .inl (by rw [upd_ne (Ne.symm nQd), upd_ne (Ne.symm nCd)]; exact hw1)⟩
      rw [ei]
      intro a u e
      by_cases ha : a = dw
      · rw [ha, imm_in (by simp)] at e; cases e
      · rw [imm_at (by simp [ha])] at e
        have h1 : a ≠ Cd := fun z => by rw [z, nC] at e; cases e
        have h2 : a ≠ Qu := fun z => by rw [z, nQ1] at e; cases e
        rw [imm_at (by simp [ha, h1, h2])]
        exact e
    have e0 : (upd (upd H1 Cd (ndO P w Cd [])) Qu (.lst [])) dw = some (ndO P w dw ws) := by rw [upd_ne (Ne.symm nQd), upd_ne (Ne.symm nCd)]; exact hw1
    generalize upd (upd H1 Cd (ndO P w Cd [])) Qu (.lst []) = H2 at A0 e0 ⊢
    refine ⟨dw, _, e0, trivial, fun od => ?_⟩
    have A1 := A0.lock (o := .frz od (ndO P w dw ws)) (.inr ⟨od, upd_same⟩)
    have e1 : (upd H2 dw (.frz od (ndO P w dw ws))) dw = some (.frz od (ndO P w dw ws)) := upd_same
    generalize upd H2 dw (.frz od (ndO P w dw ws)) = H3 at A1 e1 ⊢
    refine ⟨_, rfl, dw, od, ws, rfl, hm, e1, for_nkeys (P := P) (w := w) (d := dw) (o := od) (xs := ws) (fun i σ H' => ∃ (v5 : Option V) (its : List Item) (ps : Ps), σ = [some (.ref p), some (.ref dw), some (.ref d2), some (.ref Cd), some (.ref Qu), v5, none, none, none, none] ∧ H' dw = some (.frz od (ndO P w dw ws)) ∧ its.Perm (((vis.take i).filter (isEndS S)).map fun s => (((0, 0), s) : Item)) ∧ QS P w K S (imm [dw] H1) H' Cd Qu dw ws (fun _ => none) [] its ps) ?_ ?_ ?_ ?_⟩
    · exact ⟨none, [], [], rfl, e1, .refl _, A1⟩
    · rintro i σ H4 _ ⟨_, _, _, _, e, _⟩
      exact e
    · rintro i k b v σ H4 he ⟨v5, its, ps, rfl, e4, pm, A⟩
      obtain ⟨s, hs, rfl, hb⟩ := ent he
      have B4 := A.base.trans imm_sub
      refine ⟨_, rfl, _, rfl, p, _, S, s, rfl, ob0.mono B4, dp_mono B4 hb, fun H5 s5 => ⟨_, rfl, ?_⟩⟩
      have A5 := A.pure s5
      have e5 := s5 _ _ e4
      have lit : its.length ≤ vis.length := by
        have h := pm.length_eq
        rw [List.length_map] at h
        have h2 := List.length_filter_le (isEndS S) (vis.take i)
        rw [List.length_take] at h2
        omega
      cases hE : isEndS S s with
      | false =>
        refine (if_neg (by rw [show (decide (s.done.length = S.wishes.length) && decide (s.inside.length = 0)) = isEndS S s from rfl, hE]; exact Bool.false_ne_true)).mpr ⟨_, its, ps, rfl, e5, ?_, A5⟩
        rw [take_snoc hs, List.filter_append, List.filter_cons, if_neg (by rw [hE]; exact Bool.false_ne_true), List.filter_nil, List.append_nil]
        exact pm
      | true =>
        refine (if_pos (by rw [show (decide (s.done.length = S.wishes.length) && decide (s.inside.length = 0)) = isEndS S s from rfl, hE])).mpr ?_
        refine ⟨_, rfl, _, rfl, small (by simp), fun pt npt => ?_⟩
        have A6 := A5.pure (same_new (o := .tup [.int 0, .int 0, .ref b]) npt)
        have e6 := same_new (o := .tup [.int 0, .int 0, .ref b]) npt _ _ e5
        have hz : Dp K (imm [Cd, Qu, dw] (upd H5 pt (.tup [.int 0, .int 0, .ref b]))) (.ref pt) (itemD ((0, 0), s)) := dp_imm A6.mu.no (.tup tup_new (.cons (.int 0) (.cons (.int 0) (.cons (dp_mono (A6.base.trans imm_sub) hb) .nil)))) (item_ok ((0, 0), s)).2.1
        refine ⟨Qu, .ref pt, itemD ((0, 0), s), ps, rfl, A6.el, A6.dx, dp_mono imm_sub hz, A6.ok _, A6.hp, by rw [A6.len]; exact size4 (by omega), fun ps' pp hd => ?_⟩
        obtain ⟨its', pm', A7⟩ := A6.push hz pp hd
        refine ⟨_, its', ps', rfl, ?_, pm'.trans ?_, A7⟩
        · rw [upd_ne (Ne.symm nQd)]
          exact e6
        · rw [take_snoc hs, List.filter_append, List.map_append, List.filter_cons, if_pos hE]
          exact pm.append_right _
    · rintro σ H4 ⟨v5, its, ps, rfl, e4, pm, A⟩
      rw [lw, List.take_length] at pm
      refine ⟨e4, ?_⟩
      have A5 := A.lock (o := ndO P w dw ws) (.inl upd_same)
      have e5 : (upd H4 dw (ndO P w dw ws)) dw = some (ndO P w dw ws) := upd_same
      generalize upd H4 dw (ndO P w dw ws) = H5 at A5 e5 ⊢
      refine ⟨fun m σ H' => ∃ (v5 v6 v7 v8 v9 : Option V) (v : Val) (dn : List Sta) (its : List Item) (ps : Ps), σ = [some (.ref p), some (.ref dw), some (.ref d2), some (.ref Cd), some (.ref Qu), v5, v6, v7, v8, v9] ∧ H' dw = some (ndO P w dw ws) ∧ m + (dn.map fun s => (into S (edges S vis) s).length).sum = (edges S vis).length + its.length ∧
        its.length ≤ vis.length + (dn.map fun s => (into S (edges S vis) s).length).sum ∧ (∀ s ∈ dn, s ∈ vis) ∧ Dij S vis v its ∧ QS P w K S (imm [dw] H1) H' Cd Qu dw ws v dn its ps, ⟨(edges S vis).length + its.length, v5, none, none, none, none, _, [], its, ps, rfl, e5, by simp, ?_, fun s hs => (nomatch hs), Dij.start (fun x => pm.mem_iff), A5⟩, ?_⟩
      · have h := pm.length_eq
        rw [List.length_map] at h
        have h2 := List.length_filter_le (isEndS S) vis
        omega
      · rintro m σ H6 ⟨v5, v6, v7, v8, v9, v, dn, its, ps, rfl, e6, em, hl, sub, Dj, A6⟩
        refine ⟨_, rfl, Qu, _, rfl, .inl (SqL.of A6.el), _, _, rfl, rfl, _, rfl, ?_⟩
        have lps : (ps.map (·.1)).length = its.length := by rw [List.length_map, A6.len]
        have sumle := into_sum (S := S) A6.nd (edges S vis)
        have elen := edges_len ok vis
        cases its with
        | nil =>
          refine (if_neg (by rw [decide_eq_false (by rw [lps]; simp)]; exact Bool.false_ne_true)).mpr ?_
          have s6 : Same (imm [dw] H1) (imm [Cd, dw] H6) := A6.base.trans fun a u e => by
            by_cases ha : a ∈ [Cd, Qu, dw]
            · rw [imm_in ha] at e; cases e
            · rw [imm_at ha] at e
              rw [imm_at fun z => ha (by
                simp only [List.mem_cons, List.not_mem_nil, or_false] at z
                rcases z with z | z <;> rw [z] <;> simp)]
              exact e
          have n6 := A6.n.mono (B' := imm [Cd, dw] H6) (fun a u e => by
            by_cases ha : a ∈ [Cd, Qu, dw]
            · rw [imm_in ha] at e; cases e
            · rw [imm_at ha] at e
              rw [imm_at fun z => ha (by
                simp only [List.mem_cons, List.not_mem_nil, or_false] at z
                rcases z with z | z <;> rw [z] <;> simp)]
              exact e) (Same.refl _)
          refine ⟨_, rfl, q Cd (imm [Cd, dw] H6) H6 v dn ((imm_mono s01).trans s6) imm_sub (fun a u e => ?_) (imm_in (by simp)) ?_ (imm_in (by simp)) n6 A6.dom ⟨cl, Dj.va, fun s hs he => (Dj.ends s hs he).elim id fun z => (nomatch z), fun s hs t ht o ho => (Dj.gain s hs t ht o ho).elim id fun z => (nomatch z)⟩⟩
          · by_cases ha : a = dw
            · rw [ha, hw] at e
              rw [ha, e6, Option.some.inj e]
            · exact imm_sub _ _ (s6 _ _ (by rw [imm_at (by simp [ha])]; exact s01 _ _ e))
          · cases hC : H Cd with
            | none => rfl
            | some u => rw [s01 _ _ hC] at nC; cases nC
        | cons x0 its0 =>
          refine (if_pos (by rw [decide_eq_true (by rw [lps, List.length_cons]; omega)])).mpr ?_
          refine ⟨fun σ' H' => ∃ m', m' < m ∧ ∃ (v5 v6 v7 v8 v9 : Option V) (v : Val) (dn : List Sta) (its : List Item) (ps : Ps), σ' = [some (.ref p), some (.ref dw), some (.ref d2), some (.ref Cd), some (.ref Qu), v5, v6, v7, v8, v9] ∧ H' dw = some (ndO P w dw ws) ∧ m' + (dn.map fun s => (into S (edges S vis) s).length).sum = (edges S vis).length + its.length ∧
            its.length ≤ vis.length + (dn.map fun s => (into S (edges S vis) s).length).sum ∧ (∀ s ∈ dn, s ∈ vis) ∧ Dij S vis v its ∧ QS P w K S (imm [dw] H1) H' Cd Qu dw ws v dn its ps, fun _ _ h => h, ?_⟩
          cases ps with
          | nil => cases A6.it
          | cons p0 ps0 =>
            obtain ⟨x1, its1, ex, dz, kpop⟩ := A6.pop
            obtain ⟨rfl, rfl⟩ := List.cons.inj ex
            refine ⟨_, rfl, Qu, p0, ps0, rfl, A6.el, A6.dx, A6.ok0, A6.hp, fun ps' pp hd hmin => ?_⟩
            obtain ⟨its', pm', lt', A7⟩ := kpop ps' pp hd hmin
            have e7 : (upd H6 Qu (.lst (ps'.map (·.1)))) dw = some (ndO P w dw ws) := by rw [upd_ne (Ne.symm nQd)]; exact e6
            have dz7 : Dp K (imm [Cd, Qu, dw] (upd H6 Qu (.lst (ps'.map (·.1))))) p0.1 (itemD x0) := by rw [imm_upd (by simp)]; exact dz
            generalize upd H6 Qu (.lst (ps'.map (·.1))) = H7 at A7 e7 dz7 ⊢
            obtain ⟨⟨c1, c2⟩, s⟩ := x0
            obtain ⟨az, zz, ez, hz1, hz2⟩ := dp_tup dz7
            obtain ⟨y1, r1, rfl, g1, k1⟩ := dps_cons hz2
            obtain ⟨y2, r2, rfl, g2, k2⟩ := dps_cons k1
            obtain ⟨y3, r3, rfl, g3, k3⟩ := dps_cons k2
            obtain rfl := dps_nil k3
            obtain rfl := dp_int g1
            obtain rfl := dp_int g2
            refine ⟨az, _, ez, Same.t imm_sub hz1, rfl, _, _, rfl, _, _, rfl, _, _, rfl, rfl, ?_⟩
            obtain ⟨o, g, ro⟩ := td_get A7.n.r imm_sub (dp_mono imm_sub g3)
            refine ⟨_, rfl, _, rfl, Cd, o, rfl, g, _, rfl, ?_⟩
            have pq : (((c1, c2), s) :: its').Perm (((c1, c2), s) :: its0) := List.Perm.cons _ pm'
            have li : its'.length = its0.length := pm'.length_eq
            rw [List.length_cons] at em hl
            have inq := Dj.qv ((c1, c2), s) List.mem_cons_self
            cases hv : v s with
            | some c0 =>
              have hs : s ∈ dn := (A7.dom s).mpr (by rw [hv]; rfl)
              rw [getM_in hs] at ro
              refine (if_neg (by rw [ro.some_eq]; exact Bool.false_ne_true)).mpr ?_
              exact ⟨m - 1, by omega, _, _, _, v8, v9, v, dn, its', ps', rfl, e7, by omega, by omega, sub, Dj.skip pq hv, A7⟩
            | none =>
              have hs : s ∉ dn := fun z => by
                have := (A7.dom s).mp z
                rw [hv] at this
                cases this
              rw [getM_out hs] at ro
              refine (if_pos (by rw [ro.some_eq]; rfl)).mpr ?_
              have sv : s ∈ vis := inq.1
              have dlen : dn.length ≤ 3900 := Nat.le_trans (nodup_len A7.nd fun x hx => sub x hx) lv
              refine ⟨_, rfl, _, rfl, small (by simp), fun p7 np7 => ?_⟩
              have s7 := same_new (o := .tup [.int (c1 : Nat), .int (c2 : Nat)]) np7
              have A8 := A7.pure s7
              have e8 := s7 _ _ e7
              have g8 := dp_mono (imm_mono (ms := [Cd, Qu, dw]) s7) g3
              have d8 : Dp K (imm [Cd, Qu, dw] (upd H7 p7 (.tup [.int (c1 : Nat), .int (c2 : Nat)]))) (.ref p7) (dval (some (c1, c2))) := dp_imm A8.mu.no (.tup tup_new (.cons (.int _) (.cons (.int _) .nil))) rfl
              obtain ⟨H9, np9, A9, ei9⟩ := A8.put g8 d8 hv dlen
              have e9 : H9 dw = some (ndO P w dw ws) := by
                obtain ⟨_, _, _, _, _, _, _, _, eH⟩ := np9
                rw [eH, upd_ne (Ne.symm nCd)]
                exact e8
              have g9 : Dp K (imm [Cd, Qu, dw] H9) y3 s.d := by rw [ei9]; exact g8
              refine ⟨_, rfl, _, rfl, Cd, H9, rfl, np9, ?_⟩
              obtain ⟨vl, gl, dl⟩ := td_at (td0.mono (Same.refl _) (A9.base.trans imm_sub)) (A9.base.trans imm_sub) (dp_mono imm_sub g9) (getM_in sv)
              obtain ⟨D8, us, rfl, hD8, du8⟩ := dp_lst dl
              have lus : us.length = (into S (edges S vis) s).length := (dps_len du8).trans (List.length_map ..)
              have sum1 : ((dn ++ [s]).map fun s => (into S (edges S vis) s).length).sum = (dn.map fun s => (into S (edges S vis) s).length).sum + (into S (edges S vis) s).length := by
                rw [List.map_append, List.sum_append, List.map_singleton, List.sum_singleton]
              have sumle2 := into_sum (S := S) A9.nd (edges S vis)
              rw [sum1] at sumle2
              refine ⟨_, rfl, _, rfl, d2, _, rfl, gl, D8, rfl, ⟨us, Same.l (A9.base.trans imm_sub) hD8⟩, for_list (K := K) (a := D8) (xs := us) (fun j σ H' => ∃ (v8 v9 : Option V) (its : List Item) (ps : Ps), σ = [some (.ref p), some (.ref dw), some (.ref d2), some (.ref Cd), some (.ref Qu), some y3, some (.int (c1 : Nat)), some (.int (c2 : Nat)), v8, v9] ∧ H' dw = some (ndO P w dw ws) ∧
                its.Perm (its' ++ (((into S (edges S vis) s).take j).map fun e => ((moreT (c1, c2) e.2, e.1) : Item))) ∧ QS P w K S (imm [dw] H1) H' Cd Qu dw ws (setv v s (some (c1, c2))) (dn ++ [s]) its ps) ?_ ?_ ?_ ?_⟩
              · exact ⟨v8, v9, its', ps', rfl, e9, by rw [List.take_zero, List.map_nil, List.append_nil], A9⟩
              · rintro j σ H10 _ ⟨_, _, _, _, _, _, _, A⟩
                exact Same.l (A.base.trans imm_sub) hD8
              · rintro j z σ H10 hz ⟨v8, v9, its3, ps3, rfl, e10, pm3, A10⟩
                obtain ⟨d, hd, dz⟩ := dps_of_get du8 hz
                rw [List.getElem?_map] at hd
                cases ht : (into S (edges S vis) s)[j]? with
                | none => rw [ht] at hd; cases hd
                | some e =>
                  rw [ht] at hd
                  rw [← Option.some.inj hd] at dz
                  obtain ⟨a, t⟩ := e
                  obtain ⟨az, zz, rfl, hz1, hz2⟩ := dp_tup dz
                  obtain ⟨x1, r1, rfl, i1, k1⟩ := dps_cons hz2
                  obtain ⟨x2, r2, rfl, i2, k2⟩ := dps_cons k1
                  obtain rfl := dps_nil k2
                  obtain rfl := dp_int i1
                  have B10 := A10.base.trans imm_sub
                  refine ⟨az, _, rfl, Same.t B10 hz1, rfl, _, _, rfl, _, _, rfl, rfl, ?_⟩
                  refine ⟨_, rfl, _, rfl, _, rfl, (c1 : Int), ((shiftsT t : Nat) : Int), rfl, rfl, _, rfl, (c2 : Int), 1, rfl, rfl, _, rfl, small (by simp), fun p10 np10 => ?_⟩
                  have s11 := same_new (o := .tup [.int ((c1 : Int) + ((shiftsT t : Nat) : Int)), .int ((c2 : Int) + 1), x2]) np10
                  have A11 := A10.pure s11
                  have hz11 : Dp K (imm [Cd, Qu, dw] (upd H10 p10 (.tup [.int ((c1 : Int) + ((shiftsT t : Nat) : Int)), .int ((c2 : Int) + 1), x2]))) (.ref p10) (itemD (moreT (c1, c2) t, a)) := by
                    refine dp_imm A11.mu.no (.tup tup_new (.cons ?_ (.cons ?_ (.cons (dp_mono (A11.base.trans imm_sub) i2) .nil)))) (item_ok _).2.1
                    · show Dp K _ _ (.int ((c1 + shiftsT t : Nat) : Int))
                      rw [Int.natCast_add]
                      exact .int _
                    · show Dp K _ _ (.int ((c2 + 1 : Nat) : Int))
                      rw [Int.natCast_add]
                      exact .int _
                  have l3 : its3.length ≤ vis.length + (edges S vis).length := by
                    have h := pm3.length_eq
                    rw [List.length_append, List.length_map, List.length_take] at h
                    omega
                  refine ⟨Qu, .ref p10, itemD (moreT (c1, c2) t, a), ps3, rfl, A11.el, A11.dx, dp_mono imm_sub hz11, A11.ok _, A11.hp, by rw [A11.len, sizeLine_eq]; omega, fun ps4 pp4 hd4 => ?_⟩
                  obtain ⟨its4, pm4, A12⟩ := A11.push hz11 pp4 hd4
                  refine ⟨_, _, its4, ps4, rfl, ?_, pm4.trans ?_, A12⟩
                  · rw [upd_ne (Ne.symm nQd)]
                    exact s11 _ _ e10
                  · rw [take_snoc ht, List.map_append, ← List.append_assoc]
                    exact pm3.append_right _
              · rintro σ H10 ⟨v8, v9, its3, ps3, rfl, e10, pm3, A10⟩
                rw [lus, List.take_length] at pm3
                have l3 := pm3.length_eq
                rw [List.length_append, List.length_map] at l3
                refine ⟨m - 1, by omega, _, _, _, _, _, _, _, its3, ps3, rfl, e10, by rw [sum1]; omega, by rw [sum1]; omega, fun x hx => ?_, ?_, A10⟩
                · rcases List.mem_append.mp hx with hx | hx
                  · exact sub x hx
                  · rw [List.mem_singleton.mp hx]; exact sv
                · refine (Dj.take pq hv lt' (r := (into S (edges S vis) s).map fun e => ((moreT (c1, c2) e.2, e.1) : Item)) (fun x hx => ?_) fun a ha t ht hb => ?_).perm fun x => pm3.symm.mem_iff
                  · obtain ⟨⟨a, t⟩, he, rfl⟩ := List.mem_map.mp hx
                    obtain ⟨h1, h2, h3⟩ := mem_into.mp he
                    exact ⟨a, t, h1, h2, h3, rfl⟩
                  · exact List.mem_map.mpr ⟨(a, t), mem_into.mpr ⟨ha, ht, hb⟩, rfl⟩
end

/-! ## the search, whole -/
theorem noL_dpap (x : Sta × Num) : noL (dpap x) = true := by
  show (noL x.1.d && (noL (dnum _) && true)) = true
  rw [noL_sta, nodot]
  rfl
theorem noLs_dpaps : ∀ l : List (Sta × Num), noLs (dpaps l) = true
  | [] => rfl
  | x :: l => by
    show (noL (dpap x) && noLs (dpaps l)) = true
    rw [noL_dpap, noLs_dpaps l]
    rfl
theorem noLs_steps : ∀ l : List Stp, noLs (l.map (·.d)) = true
  | [] => rfl
  | x :: l => by
    show (noL x.d && noLs (l.map (·.d))) = true
    rw [noL_stp, noLs_steps l]
    rfl
/-- a plan that is told, at x, or None -/
def PlanOut (K : PySem.W.Frag) (S : Sto) (s0 : Sta) (H B' H' : Hp) (v : Val) (x : V) (q2 : Addr) : Prop := (x = .non ∧ v s0 = none) ∨ ∃ q1 zs ts e, x = .ref q1 ∧ q1 ≠ q2 ∧ H q1 = none ∧ B' q1 = none ∧ H' q1 = some (.lst zs) ∧ DpAll K B' zs (ts.map (·.d)) ∧ Way S s0 ts e ∧ isEndS S e = true ∧ v s0 = some (costP ts) ∧ ts.length ≤ 3900
/-- a paper that is told, at q2 -/
def LeastOut (K : PySem.W.Frag) (S : Sto) (s0 : Sta) (H H' : Hp) (x : V) (q2 : Addr) : Prop := ∃ (B' : Hp) (vis : List Sta) (v : Val) (l : List Sta) (ys : List V), Same H B' ∧ Same B' H' ∧ H q2 = none ∧ B' q2 = none ∧ H' q2 = some (.lst ys) ∧ DpAll K B' ys (dpaps (papOf v l)) ∧ l.Perm vis ∧ l.Pairwise SLe ∧ Found S s0 vis vis.length ∧ Costs S vis v ∧ PlanOut K S s0 H B' H' v x q2
section
variable {P : Program} {w : World} {K : PySem.W.Frag} {mg : Str → Option Value} {base : Heap}
theorem costsAre_of {v : Val} {dn vis : List Sta} (h : ∀ s, s ∈ dn ↔ (v s).isSome = true) : CostsAre (tabOf (fun s => dval (v s)) dn) v vis := fun s _ => by
  cases hv : v s with
  | none => rw [getM_out fun z => by have := (h s).mp z; rw [hv] at this; cases this]; rfl
  | some c =>
    rw [getM_in ((h s).mpr (by rw [hv]; rfl))]
    show some (dval (v s)) = _
    rw [hv]
    rfl
theorem least_out {S : Sto} {st : Sta} {H H3 H4 H5 : Hp} {ms : List Addr} {ds : List Addr} {q2 : Addr} {ys : List V} {x : V} {vis l : List Sta} {v : Val} (s03 : Same H H3) (mu : Mu ms H3) (fr : ∀ b ∈ ms, H b = none) (s34 : Same H3 H4) (n2 : H3 q2 = none) (e2 : H4 q2 = some (.lst ys)) (s45 : Same H4 H5) (pl : l.Perm vis) (so : l.Pairwise SLe)
    (dy : DpAll K (imm ds H4) ys (dpaps (papOf v l))) (Fo : Found S st vis vis.length) (Cs : Costs S vis v) (po : PlanOut K S st H (imm (q2 :: ms) H5) H5 v x q2) : LeastOut K S st H H5 x q2 := by
  have n0 : H q2 = none := by
    cases h : H q2 with
    | none => rfl
    | some u => rw [s03 _ _ h] at n2; cases n2
  have mu5 : Mu (q2 :: ms) H5 := (mu.mono (s34.trans s45)).lst (s45 _ _ e2)
  refine ⟨imm (q2 :: ms) H5, vis, v, l, ys, imm_keep (s03.trans (s34.trans s45)) fun a ha => ?_, imm_sub, n0, imm_in (by simp), s45 _ _ e2, dps_imm mu5.no (dps_mono (imm_sub.trans s45) dy) (noLs_dpaps _), pl, so, Fo, Cs, po⟩
  rcases List.mem_cons.mp ha with e | ha
  · rw [e]; exact n0
  · exact fr a ha
def spLeastFrom (P : Program) (w : World) (K : PySem.W.Frag) (C : Addr) : Sp := fun vs H Q _ => ∃ (p : Addr) (u : V) (S : Sto) (s : Sta), vs = [.ref p, u] ∧ Ob K C H p S ∧ StoOk S ∧ Dp K H u s.d ∧ StaOk S s ∧
  ∀ t x q2 H', Same H H' → SqT K H' t [x, .ref q2] → LeastOut K S s H H' x q2 → Q (.ref t) H'
/-! least_from: 0 store, 1 first, 2 ways, 3 costs, 4 plan -/
abbrev s_least_from : Stmt := topS 26
abbrev N_least_from : List Str := ["store", "first", "ways", "costs", "plan"]
theorem sc_least_from : FnScope N_least_from ["store", "first"] (defScope s_least_from) := ⟨rfl, rfl, rfl, by decide +kernel, rfl, by decide +kernel, by decide +kernel⟩
theorem ok_least_from {f f1 f2 f3 f4 C : Addr} {fd fd1 fd2 fd3 fd4 : FuncData} (D : Dfs K mg "least_from" s_least_from ["store", "first"] f fd) (C__ways_from : Cal P w K mg base 7 "_ways_from" ["store", "first"] (spWaysFrom P w K C) f1 fd1)
    (C__costs : Cal P w K mg base 3 "_costs" ["store", "ways"] (spCosts P w K C) f2 fd2) (C__plan : Cal P w K mg base 3 "_plan" ["ways", "costs", "first"] (spPlan P w K) f3 fd3) (C__paper : Cal P w K mg base 1 "_paper" ["ways", "costs"] (spPaperP P w K) f4 fd4) : Cal P w K mg base 8 "least_from" ["store", "first"] (spLeastFrom P w K C) f fd := by
  refine D.cal (D.F.ok sc_least_from (fun vs H Q E h => ?_) (fun cdv A outer s H vs Q E hr h => ?_))
  · obtain ⟨p, u, S, s, rfl, _⟩ := h
    rfl
  · obtain ⟨p, u, S, st, rfl, ob, ok, hu, sk, q⟩ := h
    refine ⟨_, (pss_cons (ps_set (i := 2) sc_least_from.nd rfl (Or.inl rfl) (pe_call C__ways_from.G (hr.mono (by decide)) (by rfl) C__ways_from.g C__ways_from.kp C__ways_from.b .nil pass0 (pa_cons (pv 0) (pa_cons (pv 1) pa_nil))))
      (pss_cons (ps_set (i := 3) sc_least_from.nd rfl (Or.inl rfl) (pe_call C__costs.G (hr.mono (by decide)) (by rfl) C__costs.g C__costs.kp C__costs.b .nil pass0 (pa_cons (pv 0) (pa_cons (pv 2) pa_nil))))
      (pss_cons (ps_set (i := 4) sc_least_from.nd rfl (Or.inl rfl) (pe_ifExp (pt_cmpR (op_nin (P := P) (w := w) (K := K) (hu16 hr)) (pv 1) (pv 3) (by rfl)) (pe_call C__plan.G (hr.mono (by decide)) (by rfl) C__plan.g C__plan.kp C__plan.b .nil pass0 (pa_cons (pv 2) (pa_cons (pv 3) (pa_cons (pv 1) pa_nil)))) pe_non))
      (pss_one (ps_ret (pe_tup (pa_cons (pv 4) (pa_cons (pe_call C__paper.G (hr.mono (by decide)) (by rfl) C__paper.g C__paper.kp C__paper.b .nil pass0 (pa_cons (pv 2) (pa_cons (pv 3) pa_nil))) pa_nil)))))))), ?_⟩
    refine ⟨_, rfl, _, rfl, p, u, S, st, rfl, ob, ok, hu, sk, fun dw B1 H1 vis s0 s1 nb1 nd1 tw Fo => ?_⟩
    have lv : vis.length ≤ 3900 := Nat.le_trans (Fo.len ok sk) (by decide)
    have cl : ∀ s ∈ vis, ∀ t ∈ openSteps S s, behindS S s t ∈ vis := fun s hs t ht => Fo.cl s (by rw [List.take_length]; exact hs) t ht
    refine ⟨_, rfl, _, rfl, p, dw, B1, S, vis, rfl, ob.mono s0, ok, tw, s1, nb1, lv, Fo.nd, cl, fun dc B2 H2 v dn r0 r1 s12 nb2 nd2 nbc td dom Cs => ?_⟩
    have B12 : Same B1 B2 := (imm_keep s1 fun a ha => by rw [List.mem_singleton.mp ha]; exact nb1).trans r0
    have tw2 := tw.r.mono B12 s12
    have s02 := s0.trans (s1.trans s12)
    have hu1 := dp_mono (s0.trans B12) hu
    have cs : CostsAre (tabOf (fun s => dval (v s)) dn) v vis := costsAre_of dom
    obtain ⟨o, g, ro⟩ := td_get td.r r1 (dp_mono r1 hu1)
    refine ⟨_, rfl, _, rfl, dc, o, rfl, g, _, rfl, ?_⟩
    cases hv : v st with
    | none =>
      rw [cs st Fo.hd, hv] at ro
      refine (if_neg (by rw [ro.some_eq]; exact Bool.false_ne_true)).mpr ?_
      refine ⟨_, rfl, _, rfl, _, rfl, dw, dc, B2, S, vis, v, _, rfl, tw2, td.r, cs, r1, lv, fun q2 ys H4 l s24 n2 e2 pl so dy => ⟨small (by simp), fun t nt => ?_⟩⟩
      have st4 := same_new (o := .tup [.non, .ref q2]) nt
      exact q t .non q2 _ (s02.trans (s24.trans st4)) tup_new (least_out (ms := []) s02 (fun b hb => (nomatch hb)) (fun b hb => (nomatch hb)) s24 n2 e2 st4 pl so dy Fo Cs (.inl ⟨rfl, hv⟩))
    | some c0 =>
      rw [cs st Fo.hd, hv] at ro
      refine (if_pos (by rw [ro.some_eq]; rfl)).mpr ?_
      refine ⟨_, rfl, _, rfl, _, rfl, dw, dc, u, B2, S, st, vis, v, _, c0, rfl, ok, tw2, td.r, cs, r1, dp_mono r1 hu1, Fo.hd, Cs, lv, hv, fun q1 zs H3 ts e s23 n1 e1 dz wy en hc lt => ?_⟩
      have s03 := s02.trans s23
      refine ⟨_, rfl, _, rfl, _, rfl, dw, dc, B2, S, vis, v, _, rfl, tw2.mono (Same.refl _) s23, td.r.mono (Same.refl _) s23, cs, r1.trans s23, lv, fun q2 ys H4 l s34 n2 e2 pl so dy => ⟨small (by simp), fun t nt => ?_⟩⟩
      have st4 := same_new (o := .tup [.ref q1, .ref q2]) nt
      have q12 : q1 ≠ q2 := fun z => by rw [← z, e1] at n2; cases n2
      have n0 : H q1 = none := by
        cases h : H q1 with
        | none => rfl
        | some u => rw [s02 _ _ h] at n1; cases n1
      refine q t (.ref q1) q2 _ (s03.trans (s34.trans st4)) tup_new (least_out (ms := [q1]) s03 (fun b hb => ⟨.lst zs, by rw [List.mem_singleton.mp hb]; exact e1, nt_lst⟩) (fun b hb => by rw [List.mem_singleton.mp hb]; exact n0) s34 n2 e2 st4 pl so dy Fo Cs
        (.inr ⟨q1, zs, ts, e, rfl, q12, n0, imm_in (by simp), st4 _ _ (s34 _ _ e1), dps_mono (fun a u' h => ?_) dz, wy, en, by rw [hv, hc], lt⟩))
      by_cases ha : a ∈ [q1, dw, dc]
      · rw [imm_in ha] at h; cases h
      · rw [imm_at ha] at h
        have a2 : a ≠ q2 := fun z => by rw [z, n2] at h; cases h
        have a1 : a ≠ q1 := fun z => ha (by rw [z]; simp)
        rw [imm_at (by simp [a1, a2])]
        exact st4 _ _ (s34 _ _ h)
end

section
variable {P : Program} {w : World} {K : PySem.W.Frag} {mg : Str → Option Value} {base : Heap}
def spRefuse1 (K : PySem.W.Frag) (C : Addr) : Sp := fun vs H Q _ => ∃ (p l : Addr) (xs : List V) (S : Sto) (ts : List Stp), vs = [.ref p, .ref l] ∧ Ob K C H p S ∧ StoOk S ∧ SqL K H l xs ∧ DpAll K H xs (dsteps ts) ∧ (∀ t ∈ ts, StpOk S.wishes.length t) ∧ ∀ H', Same H H' → Q .non H'
/-! refuse_no_steps: 0 store, 1 plan, 2 known, 3 step -/
abbrev s_refuse_no_steps : Stmt := topS 15
abbrev N_refuse_no_steps : List Str := ["store", "plan", "known", "step"]
theorem sc_refuse_no_steps : FnScope N_refuse_no_steps ["store", "plan"] (defScope s_refuse_no_steps) := ⟨rfl, rfl, rfl, by decide +kernel, rfl, by decide +kernel, by decide +kernel⟩
theorem ok_refuse_no_steps {f f1 C : Addr} {fd fd1 : FuncData} (D : Dfs K mg "refuse_no_steps" s_refuse_no_steps ["store", "plan"] f fd) (C__all_steps : Cal P w K mg base 2 "_all_steps" ["store"] (spAllSteps K C) f1 fd1) :
    Cal P w K mg base 3 "refuse_no_steps" ["store", "plan"] (spRefuse1 K C) f fd := by
  refine D.cal (D.F.ok sc_refuse_no_steps (fun vs H Q E h => ?_) (fun cdv A outer s H vs Q E hr h => ?_))
  · obtain ⟨p, l, xs, S, ts, rfl, _⟩ := h
    rfl
  · obtain ⟨p, l, xs, S, ts, rfl, ob, ok, hl, dl, hts, q⟩ := h
    refine ⟨_, (pss_cons (ps_set (i := 2) sc_refuse_no_steps.nd rfl (Or.inl rfl) (pe_call C__all_steps.G (hr.mono (by decide)) (by rfl) C__all_steps.g C__all_steps.kp C__all_steps.b .nil pass0 (pa_cons (pv 0) pa_nil)))
      (pss_one (ps_for PassesOwn.never rfl (pi_list (pv 1)) (pg_name (i := 3) sc_refuse_no_steps.nd rfl (Or.inl rfl)) (pss_one (ps_if (pt_cmpR (knotInD (K := K) (room65 hr)) (pv 3) (pv 2) (by rfl)) (pss_one ps_never) pss_nil))))), ?_⟩
    refine ⟨_, rfl, p, S, rfl, ob, ok, fun r zs H1 s1 nr e1 dz => ?_⟩
    refine ⟨_, rfl, l, rfl, ⟨_, Same.l s1 hl⟩, for_list (K := K) (a := l) (xs := xs) (fun i σ H' => H' = H1 ∧ ∃ v : Option V, σ = [some (.ref p), some (.ref l), some (.ref r), v]) ⟨rfl, none, rfl⟩ (fun i σ H' _ h => by rw [h.1]; exact Same.l s1 hl) ?_ ?_⟩
    · rintro i y σ H' hy ⟨rfl, v, rfl⟩
      obtain ⟨d, hd, dy⟩ := dps_of_get dl hy
      obtain ⟨t, ht, rfl⟩ := step_item hd
      refine ⟨_, rfl, _, rfl, t.d, _, dp_mono s1 dy, .lst (SqL.of e1) dz, t.lay.shaped, (steps_lays _).lst.shaped, _, rfl, ?_⟩
      rw [any_mem (mem_allSteps (hts t (List.mem_of_getElem? ht)))]
      exact iteF ⟨rfl, _, rfl⟩
    · rintro σ H' ⟨rfl, v, rfl⟩
      exact q _ s1
end

theorem sum_costs (ts : List Stp) : (ts.map costOf).sum = ((costP ts).1 : Int) := by
  show _ = (((ts.map shiftsT).sum : Nat) : Int)
  induction ts with
  | nil => rfl
  | cons t r ih => rw [List.map_cons, List.sum_cons, ih, List.map_cons, List.sum_cons, cost_n, Int.natCast_add]
section
variable {P : Program} {w : World} {K : PySem.W.Frag} {mg : Str → Option Value} {base : Heap}
def spShifts1 (K : PySem.W.Frag) (C : Addr) : Sp := fun vs H Q _ => ∃ (p l : Addr) (xs : List V) (S : Sto) (ts : List Stp), vs = [.ref p, .ref l] ∧ Ob K C H p S ∧ StoOk S ∧ SqL K H l xs ∧ DpAll K H xs (dsteps ts) ∧ (∀ t ∈ ts, StpOk S.wishes.length t) ∧ ts.length ≤ 9000 ∧ ∀ H', Same H H' → Q (.int ((costP ts).1 : Nat)) H'
/-! shifts: 0 store, 1 plan, 2 step -/
abbrev s_shifts : Stmt := topS 11
abbrev N_shifts : List Str := ["store", "plan", "step"]
theorem sc_shifts : FnScope N_shifts ["store", "plan"] (defScope s_shifts) := ⟨rfl, rfl, rfl, by decide +kernel, rfl, by decide +kernel, by decide +kernel⟩
theorem ok_shifts {f f1 f2 C : Addr} {fd fd1 fd2 : FuncData} (D : Dfs K mg "shifts" s_shifts ["store", "plan"] f fd) (T : Tx K mg) (C_refuse_no_steps : Cal P w K mg base 3 "refuse_no_steps" ["store", "plan"] (spRefuse1 K C) f1 fd1) (C_shifts_of : Cal P w K mg base 1 "shifts_of" ["step"] (spShiftsOf K) f2 fd2) :
    Cal P w K mg base 4 "shifts" ["store", "plan"] (spShifts1 K C) f fd := by
  refine D.cal (D.F.ok sc_shifts (fun vs H Q E h => ?_) (fun cdv A outer s H vs Q E hr h => ?_))
  · obtain ⟨p, l, xs, S, ts, rfl, _⟩ := h
    rfl
  · obtain ⟨p, l, xs, S, ts, rfl, ob, ok, hl, dl, hts, hlen, q⟩ := h
    refine ⟨_, (pss_cons (ps_expr (pe_call C_refuse_no_steps.G (hr.mono (by decide)) (by rfl) C_refuse_no_steps.g C_refuse_no_steps.kp C_refuse_no_steps.b .nil pass0 (pa_cons (pv 0) (pa_cons (pv 1) pa_nil))))
      (pss_one (ps_ret (pe_callB (ksum (K := K) rfl) (by rfl) T.n_sum (by decide +kernel) (pa_cons (pe_lc (own := [("step", 2)]) (g := gName 2) rfl sc_shifts.nd (pi_list (pv 1)) (blkOk_by (own := [("step", 2)]) (N := N_shifts) (sc := defScope s_shifts) (by decide +kernel)) (fun _ _ _ _ _ => (pg_name (i := 2) sc_shifts.nd rfl (Or.inl rfl))) (fun _ _ _ _ _ => pts_nil) (fun _ _ _ _ _ => by exact (pe_call C_shifts_of.G (hr.mono (by decide)) (by rfl) C_shifts_of.g C_shifts_of.kp C_shifts_of.b .nil pass0 (pa_cons (pv 2) pa_nil)))) pa_nil))))), ?_⟩
    refine ⟨_, rfl, _, rfl, p, l, xs, S, ts, rfl, ob, ok, hl, dl, hts, fun H1 s1 => ?_⟩
    have lx : xs.length = ts.length := (dps_len dl).trans (List.length_map ..)
    refine ⟨_, rfl, l, rfl, ⟨_, Same.l s1 hl⟩, fun D nD => ?_⟩
    refine lc_list (K := K) (a := l) (xs := xs) (fun i H' => Same H1 H' ∧ H' D = some (.lst (((ts.take i).map costOf).map V.int))) ⟨same_new nD, by rw [List.take_zero]; exact upd_same⟩ (fun i H' _ h => Same.l (s1.trans h.1) hl) ?_ ?_
    · rintro i y H3 hy ⟨s3, e3⟩
      obtain ⟨d, hd, dy⟩ := dps_of_get dl hy
      obtain ⟨t, ht, rfl⟩ := step_item hd
      refine ⟨rfl, ?_⟩
      refine ⟨_, rfl, y, t, rfl, dp_mono (s1.trans s3) dy, fun H4 s4 => ?_⟩
      have e4 := s4 _ _ e3
      refine ⟨_, e4, ?_, fun b o h => ?_, ?_⟩
      · rw [List.length_map, List.length_map, List.length_take]
        rw [sizeLine_eq]
        omega
      · rw [upd_ne (ne_of_none h nD)]
        exact (s3.trans s4) b o h
      · rw [upd_same, take_snoc ht, List.map_append, List.map_append]
        rfl
    · rintro H3 ⟨s3, e3⟩
      rw [lx, List.take_length] at e3
      refine ⟨D, ts.map costOf, rfl, SqL.of e3, ?_⟩
      rw [sum_costs]
      exact q _ (s1.trans s3)
end

section
variable {P : Program} {w : World} {K : PySem.W.Frag} {mg : Str → Option Value} {base : Heap}
/-- what least tells, from v on -/
def TellOut (K : PySem.W.Frag) (S : Sto) (H H' : Hp) (t : Addr) : Prop := ∃ (B' : Hp) (vis : List Sta) (v : Val) (l : List Sta) (ys : List V) (q2 : Addr), Same H B' ∧ Same B' H' ∧ H q2 = none ∧ B' q2 = none ∧ H' q2 = some (.lst ys) ∧ DpAll K B' ys (dpaps (papOf v l)) ∧ l.Perm vis ∧ l.Pairwise SLe ∧ Found S (sta0 S) vis vis.length ∧ Costs S vis v ∧
  ((SqT K H' t [.str "none", .ref q2] ∧ v (sta0 S) = none) ∨ ∃ q1 zs ts e, SqT K H' t [.str "plan", .ref q1, .int ((costP ts).1 : Nat), .ref q2] ∧ q1 ≠ q2 ∧ H q1 = none ∧ B' q1 = none ∧ H' q1 = some (.lst zs) ∧ DpAll K B' zs (dsteps ts) ∧ Way S (sta0 S) ts e ∧ isEndS S e = true ∧ v (sta0 S) = some (costP ts) ∧ ts.length ≤ 3900)
def spLeast (P : Program) (w : World) (K : PySem.W.Frag) (C : Addr) : Sp := fun vs H Q _ => ∃ (p : Addr) (S : Sto), vs = [.ref p] ∧ Ob K C H p S ∧ StoOk S ∧ StaOk S (sta0 S) ∧ ∀ t H', Same H H' → TellOut K S H H' t → Q (.ref t) H'
/-! least: 0 store, 1 plan, 2 paper -/
abbrev s_least : Stmt := topS 34
abbrev N_least : List Str := ["store", "plan", "paper"]
theorem sc_least : FnScope N_least ["store"] (defScope s_least) := ⟨rfl, rfl, rfl, by decide +kernel, rfl, by decide +kernel, by decide +kernel⟩
theorem ok_least {f f1 f2 f3 C : Addr} {fd fd1 fd2 fd3 : FuncData} (D : Dfs K mg "least" s_least ["store"] f fd) (C_least_from : Cal P w K mg base 8 "least_from" ["store", "first"] (spLeastFrom P w K C) f1 fd1)
    (C_begin : Cal P w K mg base 1 "begin" ["store"] (spBegin K C) f2 fd2) (C_shifts : Cal P w K mg base 4 "shifts" ["store", "plan"] (spShifts1 K C) f3 fd3) : Cal P w K mg base 9 "least" ["store"] (spLeast P w K C) f fd := by
  refine D.cal (D.F.ok sc_least (fun vs H Q E h => ?_) (fun cdv A outer s H vs Q E hr h => ?_))
  · obtain ⟨p, S, rfl, _⟩ := h
    rfl
  · obtain ⟨p, S, rfl, ob, ok, sk, q⟩ := h
    refine ⟨_, (pss_cons (ps_asg (pe_call C_least_from.G (hr.mono (by decide)) (by rfl) C_least_from.g C_least_from.kp C_least_from.b .nil pass0 (pa_cons (pv 0) (pa_cons (pe_call C_begin.G (hr.mono (by decide)) (by rfl) C_begin.g C_begin.kp C_begin.b .nil pass0 (pa_cons (pv 0) pa_nil)) pa_nil))) (pg_tup (by rfl) (pgs_cons (pg_name (i := 1) sc_least.nd rfl (Or.inl rfl)) (pgs_cons (pg_name (i := 2) sc_least.nd rfl (Or.inl rfl)) pgs_nil))))
      (pss_cons (ps_if (pt_cmpR op_isN (pv 1) pe_non (nomark _)) (pss_one (ps_ret (pe_tup (pa_cons pe_str (pa_cons (pv 2) pa_nil))))) pss_nil)
      (pss_one (ps_ret (pe_tup (pa_cons pe_str (pa_cons (pv 1) (pa_cons (pe_call C_shifts.G (hr.mono (by decide)) (by rfl) C_shifts.g C_shifts.kp C_shifts.b .nil pass0 (pa_cons (pv 0) (pa_cons (pv 1) pa_nil))) (pa_cons (pv 2) pa_nil))))))))), ?_⟩
    refine ⟨_, rfl, _, rfl, p, S, rfl, ob, fun b H1 s1 db => ?_⟩
    refine ⟨p, b, S, sta0 S, rfl, ob.mono s1, ok, db, sk, fun t x q2 H2 s2 ht lo => ?_⟩
    obtain ⟨B', vis, v, l, ys, sB, sB2, n2, nB2, e2, dy, pl, so, Fo, Cs, po⟩ := lo
    have s12 := s1.trans s2
    have n2' : H q2 = none := by
      cases h : H q2 with
      | none => rfl
      | some u => rw [s1 _ _ h] at n2; cases n2
    refine ⟨t, _, rfl, ht, rfl, _, _, rfl, _, _, rfl, rfl, ?_⟩
    refine ⟨_, rfl, rfl, _, rfl, ?_⟩
    rcases po with ⟨rfl, hv⟩ | ⟨q1, zs, ts, e, rfl, q12, n1, nB1, e1, dz, wy, en, hv, lt⟩
    · refine (if_pos (decide_eq_true rfl)).mpr ?_
      refine ⟨_, rfl, small (by simp), fun t2 nt2 => ?_⟩
      have st := same_new (o := .tup [.str "none", .ref q2]) nt2
      exact q t2 _ (s12.trans st) ⟨B', vis, v, l, ys, q2, s1.trans sB, sB2.trans st, n2', nB2, st _ _ e2, dy, pl, so, Fo, Cs, .inl ⟨tup_new, hv⟩⟩
    · refine (if_neg (by rw [decide_eq_false (fun z => by cases z)]; exact Bool.false_ne_true)).mpr ?_
      have n1' : H q1 = none := by
        cases h : H q1 with
        | none => rfl
        | some u => rw [s1 _ _ h] at n1; cases n1
      refine ⟨_, rfl, _, rfl, _, rfl, p, q1, zs, S, ts, rfl, ob.mono s12, ok, SqL.of e1, dps_mono sB2 dz, wy.ok, by omega, fun H3 s3 => ?_⟩
      refine ⟨_, rfl, small (by simp), fun t2 nt2 => ?_⟩
      have st := same_new (o := .tup [.str "plan", .ref q1, .int ((costP ts).1 : Nat), .ref q2]) nt2
      exact q t2 _ ((s12.trans s3).trans st) ⟨B', vis, v, l, ys, q2, s1.trans sB, (sB2.trans s3).trans st, n2', nB2, st _ _ (s3 _ _ e2), dy, pl, so, Fo, Cs, .inr ⟨q1, zs, ts, e, tup_new, q12, n1', nB1, st _ _ (s3 _ _ e1), dz, wy, en, hv, lt⟩⟩
end

section
variable {P : Program} {w : World} {K : PySem.W.Frag} {mg : Str → Option Value} {base : Heap}
def spPlayedW (K : PySem.W.Frag) (C : Addr) : Sp := fun vs H Q _ => ∃ (p l : Addr) (xs : List V) (S : Sto) (ts : List Stp), vs = [.ref p, .ref l] ∧ Ob K C H p S ∧ StoOk S ∧ SqL K H l xs ∧ DpAll K H xs (dsteps ts) ∧ StaOk S (sta0 S) ∧ (∃ e, Way S (sta0 S) ts e) ∧ ts.length ≤ 3900 ∧
  ∀ q zs H', Same H H' → H q = none → H' q = some (.lst zs) → DpAll K H' zs (dstates (playS S (sta0 S) ts)) → Q (.ref q) H'
/-! played: 0 store, 1 plan, 2 state, 3 states, 4 at, 5 step, 6 bar, 7 rule, 8 number -/
abbrev s_played : Stmt := topS 10
abbrev N_played : List Str := ["store", "plan", "state", "states", "at", "step", "bar", "rule", "number"]
theorem sc_played : FnScope N_played ["store", "plan"] (defScope s_played) := ⟨rfl, rfl, rfl, by decide +kernel, rfl, by decide +kernel, by decide +kernel⟩
theorem ok_played {f f1 f2 f3 f4 C : Addr} {fd fd1 fd2 fd3 fd4 : FuncData} (D : Dfs K mg "played" s_played ["store", "plan"] f fd) (T : Tx K mg) (C_refuse_no_steps : Cal P w K mg base 3 "refuse_no_steps" ["store", "plan"] (spRefuse1 K C) f1 fd1)
    (C_begin : Cal P w K mg base 1 "begin" ["store"] (spBegin K C) f2 fd2) (C__bar : Cal P w K mg base 5 "_bar" ["store", "state", "step"] (spBar K C) f3 fd3) (C_behind : Cal P w K mg base 2 "behind" ["store", "state", "step"] (spBehind K C) f4 fd4) :
    Cal P w K mg base 6 "played" ["store", "plan"] (spPlayedW K C) f fd := by
  refine D.cal (D.F.ok sc_played (fun vs H Q E h => ?_) (fun cdv A outer s H vs Q E hr h => ?_))
  · obtain ⟨p, l, xs, S, ts, rfl, _⟩ := h
    rfl
  · obtain ⟨p, l, xs, S, ts, rfl, ob, ok, hl, dl, ok0, ⟨e0, wy⟩, hlen, q⟩ := h
    have hts := wy.ok
    have op := wy.op
    refine ⟨_, (pss_cons (ps_expr (pe_call C_refuse_no_steps.G (hr.mono (by decide)) (by rfl) C_refuse_no_steps.g C_refuse_no_steps.kp C_refuse_no_steps.b .nil pass0 (pa_cons (pv 0) (pa_cons (pv 1) pa_nil))))
      (pss_cons (ps_set (i := 2) sc_played.nd rfl (Or.inl rfl) (pe_call C_begin.G (hr.mono (by decide)) (by rfl) C_begin.g C_begin.kp C_begin.b .nil pass0 (pa_cons (pv 0) pa_nil)))
      (pss_cons (ps_set (i := 3) sc_played.nd rfl (Or.inl rfl) (pe_lst (pa_cons (pv 2) pa_nil)))
      (pss_cons (ps_for PassesOwn.never rfl (pi_enum (by rfl) T.n_enumerate (pa_cons (pv 1) pa_nil)) (pg_tup (by rfl) (pgs_cons (pg_name (i := 4) sc_played.nd rfl (Or.inl rfl)) (pgs_cons (pg_name (i := 5) sc_played.nd rfl (Or.inl rfl)) pgs_nil))) (pss_cons (ps_set (i := 6) sc_played.nd rfl (Or.inl rfl) (pe_call C__bar.G (hr.mono (by decide)) (by rfl) C__bar.g C__bar.kp C__bar.b .nil pass0 (pa_cons (pv 0) (pa_cons (pv 2) (pa_cons (pv 5) pa_nil)))))
      (pss_cons (ps_if (pt_cmpR op_notN (pv 6) pe_non (nomark _)) (pss_cons (ps_asg (pv 6) (pg_tup (by rfl) (pgs_cons (pg_name (i := 7) sc_played.nd rfl (Or.inl rfl)) (pgs_cons (pg_name (i := 8) sc_played.nd rfl (Or.inl rfl)) pgs_nil))))
      (pss_one ps_never)) pss_nil)
      (pss_cons (ps_set (i := 2) sc_played.nd rfl (Or.inl rfl) (pe_call C_behind.G (hr.mono (by decide)) (by rfl) C_behind.g C_behind.kp C_behind.b .nil pass0 (pa_cons (pv 0) (pa_cons (pv 2) (pa_cons (pv 5) pa_nil)))))
      (pss_one (ps_expr (pe_bm PySem.F.plainAttrs_list PySem.F.slot_list_append PySem.F.type_list_append mt_append (pv 3) (pa_cons (pv 2) pa_nil))))))))
      (pss_one (ps_ret (pv 3))))))), ?_⟩
    refine ⟨_, rfl, _, rfl, p, l, xs, S, ts, rfl, ob, ok, hl, dl, hts, fun H1 s1 => ?_⟩
    refine ⟨_, rfl, p, S, rfl, ob.mono s1, fun v H2 s2 d2 => ?_⟩
    have s12 := s1.trans s2
    refine ⟨_, rfl, small (by simp), fun r nr => ?_⟩
    have lx : xs.length = ts.length := (dps_len dl).trans (List.length_map ..)
    have A0 : Acq K H2 H2 (upd H2 r (.lst [v])) r [v] (dstates (playS S (sta0 S) (ts.take 0))) := by
      rw [List.take_zero]
      exact ⟨Same.refl _, same_new nr, nr, upd_same, .cons d2 .nil⟩
    refine ⟨_, rfl, l, xs, rfl, Same.l (s12.trans A0.R) hl, for_enum (K := K) (a := l) (xs := xs) (fun i σ H' => ∃ (B : Hp) (zs : List V) (u : V) (v4 v5 v6 : Option V), σ = [some (.ref p), some (.ref l), some u, some (.ref r), v4, v5, v6, none, none] ∧ Acq K H2 B H' r zs (dstates (playS S (sta0 S) (ts.take i))) ∧ Dp K B u (runS S (sta0 S) (ts.take i)).d)
      ⟨H2, [v], v, none, none, none, rfl, A0, by rw [List.take_zero]; exact d2⟩ (fun i σ H' _ ⟨B, zs, u, v4, v5, v6, _, A, _⟩ => Same.l (s12.trans (A.s.trans A.R)) hl) ?_ ?_⟩
    · rintro i y σ H3 pt hy ⟨B, zs, u, v4, v5, v6, rfl, A, du⟩ npt
      obtain ⟨d, hd, dy⟩ := dps_of_get dl hy
      obtain ⟨t, ht, rfl⟩ := step_item hd
      have tok := hts t (List.mem_of_getElem? ht)
      have A3 := A.grow (o := .tup [.int (i : Nat), y]) npt
      have s3 := s12.trans (A3.s.trans A3.R)
      have du3 := dp_mono (same_new (o := .tup [.int (i : Nat), y]) (A.R.free npt)) du
      refine ⟨pt, _, rfl, tup_new, rfl, _, _, rfl, _, _, rfl, rfl, ?_⟩
      have hz : DoneOk S (runS S (sta0 S) (ts.take i)) := DoneOk.run (show Rising 0 _ [] from trivial) (fun t h => hts t (List.mem_of_mem_take h)) (op.take i)
      refine ⟨_, rfl, _, rfl, _, rfl, p, u, y, S, runS S (sta0 S) (ts.take i), t, rfl, ob.mono s3, dp_mono A3.R du3, dp_mono s3 dy, ok, hz, tok, fun b H4 s4 d4 => ?_⟩
      rw [op.at ht] at d4
      rw [dp_none d4]
      refine ⟨_, rfl, rfl, _, rfl, iteNS rfl ?_⟩
      have A4 := A3.keep s4
      have s34 := s3.trans s4
      have okr : StaOk S (runS S (sta0 S) (ts.take i)) := (show Way S (sta0 S) (ts.take i) _ from ⟨fun t h => hts t (List.mem_of_mem_take h), op.take i, rfl⟩).sta ok ok0
      obtain ⟨l1, l2⟩ := sta_few ok okr
      refine ⟨_, rfl, _, rfl, _, rfl, p, u, y, S, runS S (sta0 S) (ts.take i), t, rfl, ob.mono s34, dp_mono (A3.R.trans s4) du3, dp_mono s34 dy, tok, by omega, by omega, fun u2 H5 s5 d5 => ?_⟩
      have A5 := A4.pure s5
      have e5 := A5.el
      have du5 := dp_del e5 d5 (noL_sta _)
      have er : runS S (sta0 S) (ts.take (i + 1)) = behindS S (runS S (sta0 S) (ts.take i)) t := by
        rw [take_snoc ht, runS_snoc]
      have ep : dstates (playS S (sta0 S) (ts.take (i + 1))) = dstates (playS S (sta0 S) (ts.take i)) ++ [(runS S (sta0 S) (ts.take (i + 1))).d] := by
        rw [take_snoc ht, playS_snoc]
        exact List.map_append ..
      rw [← er] at du5
      have A6 := A5.app du5
      refine ⟨_, rfl, .inl ⟨rfl, _, SqL.of e5⟩, _, rfl, r, zs, _, rfl, rfl, e5, ?_, del1 H5 r, zs ++ [u2], u2, _, _, _, rfl, ?_, du5⟩
      · have e := dps_len A5.dx
        unfold dstates at e
        rw [List.length_map, playS_len, List.length_take] at e
        exact size4 (by omega)
      · rw [ep]
        exact A6
    · rintro σ H3 ⟨B, zs, u, v4, v5, v6, rfl, A, du⟩
      rw [lx, List.take_length] at A
      obtain ⟨s3, _, dz⟩ := A.all
      exact ⟨_, rfl, q r zs H3 (s12.trans s3) (s12.free nr) A.el dz⟩
end

/-! ## stores that are alike: states and steps of the one led to the other -/
structure Mor (S S' : Sto) (f : Sta → Sta) (g : Stp → Stp) : Prop where
  ok : ∀ s, StaOk S s → StaOk S' (f s)
  op : ∀ s, StaOk S s → ∀ t ∈ openSteps S s, g t ∈ openSteps S' (f s)
  be : ∀ s, StaOk S s → ∀ t ∈ openSteps S s, behindS S' (f s) (g t) = f (behindS S s t)
  en : ∀ s, StaOk S s → isEndS S' (f s) = isEndS S s
  sh : ∀ t, shiftsT (g t) = shiftsT t
theorem open_sta {S : Sto} {s : Sta} {t : Stp} (ok : StoOk S) (h : StaOk S s) (ht : t ∈ openSteps S s) : StaOk S (behindS S s t) := h.step ok (open_ok ht).1 (open_ok ht).2
theorem Mor.way {S S' : Sto} {f : Sta → Sta} {g : Stp → Stp} (M : Mor S S' f g) (ok : StoOk S) : ∀ {ts : List Stp} {s u : Sta}, StaOk S s → Way S s ts u → Way S' (f s) (ts.map g) (f u)
  | [], s, u, _, w => by
    obtain rfl : s = u := w.run
    exact .nil
  | t :: ts, s, u, h, w => by
    obtain ⟨ht, w'⟩ := way_head w
    refine Way.cons (M.op s h t ht) ?_
    rw [M.be s h t ht]
    exact M.way ok (open_sta ok h ht) w'
theorem Mor.cost {S S' : Sto} {f : Sta → Sta} {g : Stp → Stp} (M : Mor S S' f g) (ts : List Stp) : costP (ts.map g) = costP ts := by
  unfold costP
  rw [List.map_map, List.length_map]
  congr 2
  exact List.map_congr_left fun t _ => M.sh t
structure Iso (S S' : Sto) (f : Sta → Sta) (g : Stp → Stp) (f' : Sta → Sta) (g' : Stp → Stp) : Prop where
  to : Mor S S' f g
  fro : Mor S' S f' g'
  ff : ∀ s, StaOk S s → f' (f s) = s
  ff' : ∀ s, StaOk S' s → f (f' s) = s
  s0 : f (sta0 S) = sta0 S'
theorem Least.iso {S S' : Sto} {f f' : Sta → Sta} {g g' : Stp → Stp} (I : Iso S S' f g f' g') (ok : StoOk S) (ok' : StoOk S') {s : Sta} {x : Option (Nat × Nat)} (h : StaOk S s) (l : Least S s x) : Least S' (f s) x := by
  have back : ∀ ts u, Way S' (f s) ts u → Way S s (ts.map g') (f' u) ∧ isEndS S (f' u) = isEndS S' u := fun ts u w => by
    have w2 := I.fro.way ok' (I.to.ok s h) w
    rw [I.ff s h] at w2
    exact ⟨w2, I.fro.en u (w.sta ok' (I.to.ok s h))⟩
  cases x with
  | none =>
    intro ts u w
    obtain ⟨w2, e⟩ := back ts u w
    rw [← e]
    exact l _ _ w2
  | some c =>
    obtain ⟨⟨ts, u, w, e, hc⟩, lo⟩ := l
    refine ⟨⟨ts.map g, f u, I.to.way ok h w, by rw [I.to.en u (w.sta ok h)]; exact e, by rw [I.to.cost]; exact hc⟩, fun ts u w e => ?_⟩
    obtain ⟨w2, e2⟩ := back ts u w
    have := lo _ _ w2 (by rw [e2]; exact e)
    rwa [I.fro.cost] at this
theorem found_ok {S : Sto} {s0 : Sta} {fo : List Sta} (ok : StoOk S) (h0 : StaOk S s0) (F : Found S s0 fo fo.length) : ∀ s ∈ fo, StaOk S s := fun s hs => let ⟨_, w⟩ := F.way s hs; w.sta ok h0
theorem Iso.found {S S' : Sto} {f f' : Sta → Sta} {g g' : Stp → Stp} (I : Iso S S' f g f' g') (ok : StoOk S) (ok' : StoOk S') {fo vis : List Sta} (F : Found S (sta0 S) fo fo.length) (G : Found S' (sta0 S') vis vis.length) : (fo.map f).Perm vis := by
  have h0 := sta0_ok ok
  have h0' := sta0_ok ok'
  have fk := found_ok ok h0 F
  refine (List.perm_ext_iff_of_nodup ?_ G.nd).mpr fun s => ?_
  · refine List.pairwise_map.mpr (F.nd.imp_of_mem fun {a b} ha hb ne e => ne ?_)
    have := congrArg f' e
    rwa [I.ff a (fk a ha), I.ff b (fk b hb)] at this
  · rw [found_iff G, List.mem_map]
    constructor
    · rintro ⟨a, ha, rfl⟩
      obtain ⟨ts, w⟩ := F.way a ha
      have w2 := I.to.way ok h0 w
      rw [I.s0] at w2
      exact ⟨_, w2⟩
    · rintro ⟨ts, w⟩
      have w2 := I.fro.way ok' h0' w
      rw [← I.s0, I.ff _ h0] at w2
      exact ⟨f' s, (found_iff F).mpr ⟨_, w2⟩, I.ff' s (w.sta ok' h0')⟩
/-- the papers of the two -/
theorem Iso.paps {S S' : Sto} {f f' : Sta → Sta} {g g' : Stp → Stp} (I : Iso S S' f g f' g') (ok : StoOk S) (ok' : StoOk S') {fo vis l l' : List Sta} {v v' : Val} (F : Found S (sta0 S) fo fo.length) (G : Found S' (sta0 S') vis vis.length) (C : Costs S fo v) (C' : Costs S' vis v') (p : l.Perm fo) (p' : l'.Perm vis) :
    ((papOf v l).map fun e => (f e.1, e.2)).Perm (papOf v' l') := by
  have fk := found_ok ok (sta0_ok ok) F
  have pm : (l.map f).Perm l' := ((p.map f).trans (I.found ok ok' F G)).trans p'.symm
  have e : (papOf v l).map (fun e => (f e.1, e.2)) = papOf v' (l.map f) := by
    unfold papOf
    rw [List.map_map, List.map_map]
    refine List.map_congr_left fun s hs => ?_
    have hf := p.mem_iff.mp hs
    have l1 := (C.least s hf).iso I ok ok' (fk s hf)
    have l2 := C'.least (f s) ((I.found ok ok' F G).mem_iff.mp (List.mem_map.mpr ⟨s, hf, rfl⟩))
    show (f s, numV (v s)) = (f s, numV (v' (f s)))
    rw [l1.eq l2]
  rw [e]
  exact pm.map _
theorem Iso.val0 {S S' : Sto} {f f' : Sta → Sta} {g g' : Stp → Stp} (I : Iso S S' f g f' g') (ok : StoOk S) (ok' : StoOk S') {fo vis : List Sta} {v v' : Val} (F : Found S (sta0 S) fo fo.length) (G : Found S' (sta0 S') vis vis.length) (C : Costs S fo v) (C' : Costs S' vis v') : v (sta0 S) = v' (sta0 S') := by
  have l1 := (C.least _ F.hd).iso I ok ok' (sta0_ok ok)
  rw [I.s0] at l1
  exact l1.eq (C'.least _ G.hd)
/-! ### numbers are small -/
theorem Pln.fin {S : Sto} {fo : List Sta} {v : Val} {s0 : Sta} {c0 : Nat × Nat} (C : Costs S fo v) : ∀ (n : Nat) {s : Sta} {c : Nat × Nat} {ts : List Stp}, c.2 ≤ n → Pln S fo v s0 c0 ts s c → ∃ ts' s', Pln S fo v s0 c0 ts' s' (0, 0)
  | n, s, c, ts, hn, P => by
    by_cases hc : c = (0, 0)
    · subst hc
      exact ⟨ts, s, P⟩
    · obtain ⟨t, ht, o, ho, e⟩ := C.step P.at_ P.vc hc
      obtain ⟨P', lt⟩ := P.next C hc ht ho fun t' ht' o' ho' => by
        obtain ⟨c', hc', hg⟩ := C.gain s P.at_ t' ht' o' ho'
        rw [P.vc] at hc'
        obtain rfl := Option.some.inj hc'
        rw [e]
        exact hg
      match n with
      | 0 => omega
      | n + 1 => exact Pln.fin C n (by omega) P'
theorem shifts_le (ts : List Stp) : (ts.map shiftsT).sum ≤ ts.length := by
  induction ts with
  | nil => exact Nat.le_refl _
  | cons t ts ih =>
    rw [List.map_cons, List.sum_cons, List.length_cons]
    have : shiftsT t ≤ 1 := by cases t <;> simp [shiftsT]
    omega
theorem Costs.few {S : Sto} {fo : List Sta} {v : Val} (C : Costs S fo v) {s : Sta} {c : Nat × Nat} (hs : s ∈ fo) (h : v s = some c) : c.1 ≤ fo.length := by
  obtain ⟨ts, s', P⟩ := Pln.fin C c.2 (Nat.le_refl _) (Pln.start hs h)
  have h1 := P.len
  have h2 : addC (costP ts) (0, 0) = c := P.sum
  have h3 : c.1 = (ts.map shiftsT).sum + 0 := by rw [← h2]; rfl
  have := shifts_le ts
  omega
/-! ### a paper told as texts -/
def numT : Num → Str
  | none => "None"
  | some i => toString i
def toldD (e : Sta × Num) : PyData := .tuple [e.1.d, .str (numT e.2)]
theorem sta_eqv {a b : Sta} (h : PyData.eqv a.d b.d = true) : a = b := by
  have e : ∀ xs ys : List Int, PyData.eqv (.tuple (dints xs)) (.tuple (dints ys)) = true → xs = ys := fun xs ys h => ints_eqv _ _ h
  obtain ⟨i1, d1, n1, k1⟩ := a
  obtain ⟨i2, d2, n2, k2⟩ := b
  unfold Sta.d at h
  rw [PyData.eqv, PyData.eqvAll, PyData.eqvAll, PyData.eqvAll, PyData.eqvAll, PyData.eqvAll] at h
  simp only [Bool.and_eq_true] at h
  obtain ⟨h1, h2, h3, h4, _⟩ := h
  have h1 : i1 = i2 := by simpa [PyData.eqv] using h1
  have h4 : k1 = k2 := by simpa [PyData.eqv] using h4
  rw [h1, h4, e _ _ h2, e _ _ h3]
theorem str_anti {x y : Str} (h1 : PySem.W.dataLt (.str x) (.str y) = false) (h2 : PySem.W.dataLt (.str y) (.str x) = false) : x = y := by
  have e := PyProof.Rows.lex_total _ _ h1 h2
  simp only [PySem.W.keyToks] at e
  have key : ∀ a b : Str, a.cps.toList = b.cps.toList → a = b := fun a b e => by
    cases a
    cases b
    congr 1
    exact Array.toList_inj.mp e
  refine key x y ?_
  simpa using e
theorem told_alike (a b : Sta × Num) : PySem.W.alike (toldD a) (toldD b) = true := by
  unfold toldD
  simp only [PySem.W.alike, PySem.W.alikeAll, alike_sta, Bool.and_true]
theorem told_anti {a b : Sta × Num} (h1 : PySem.W.dataLt (toldD b) (toldD a) = false) (h2 : PySem.W.dataLt (toldD a) (toldD b) = false) : toldD a = toldD b := by
  unfold toldD at h1 h2 ⊢
  have al : ∀ x y : Str, PySem.W.alike (.str x) (.str y) = true := fun x y => by simp only [PySem.W.alike]
  rw [PySem.W.dataLt_pair (alike_sta _ _) (al _ _)] at h1 h2
  by_cases e : a.1 = b.1
  · rw [e, if_pos (b.1.lay.refl)] at h1 h2
    by_cases e2 : numT a.2 = numT b.2
    · rw [e, e2]
    · have ne : ∀ x y : Str, x ≠ y → ¬ PyData.eqv (.str x) (.str y) = true := fun x y n z => n (by simpa [PyData.eqv] using z)
      rw [if_neg (ne _ _ (Ne.symm e2))] at h1
      rw [if_neg (ne _ _ e2)] at h2
      rw [e, str_anti h1 h2]
  · have ne : ∀ x y : Sta, x ≠ y → ¬ PyData.eqv x.d y.d = true := fun x y n z => n (sta_eqv z)
    rw [if_neg (ne _ _ (Ne.symm e))] at h1
    rw [if_neg (ne _ _ e)] at h2
    exact absurd (sle_anti h1 h2) e

/-! ## no bar, told from what holds -/
theorem barShift_of {S : Sto} {s : Sta} {b : Int} {x : Shelf} (h0 : 0 ≤ (if b = 1 then s.aisle else s.aisle - 1)) (h1 : (if b = 1 then s.aisle else s.aisle - 1) < S.shelves.length) (hx : S.shelves[(if b = 1 then s.aisle else s.aisle - 1).toNat]? = some x) (hs : ¬ x.sticks = 1) (hi : s.inside = []) (hk : s.kept ≤ 0) : barShift S s b = none := by
  unfold barShift
  dsimp only
  rw [if_pos ⟨h0, h1⟩, hx]
  dsimp only
  rw [if_neg hs, hi]
  dsimp only
  rw [if_neg (by omega)]
theorem barLoad_of {S : Sto} {done : List Int} {kind : Str} {k : Int} (h : (kind = "fetch" → ¬ goods S done k = 0) ∧ (kind = "bring" → ¬ goods S done k = roomAt S k)) : barLoad S done kind k = none := by
  unfold barLoad
  rw [if_neg (fun z => h.1 z.1 z.2), if_neg (fun z => h.2 z.1 z.2)]
theorem barWish_of {S : Sto} {s : Sta} {n : Int} {x : Wish} (hx : S.wishes[n.toNat]? = some x) (h1 : n ∉ s.done) (h2 : ∀ z ∈ x.after, z ∈ s.done) (h3 : x.crew ∈ s.inside) (h4 : beside s.aisle x.shelf x.side = true) (h5 : barLoad S s.done x.kind x.shelf = none) : barWish S s n = none := by
  unfold barWish
  rw [hx]
  dsimp only
  have e : x.after.find? (fun z => decide (z ∉ s.done)) = none := List.find?_eq_none.mpr fun z hz => by simp [h2 z hz]
  rw [if_neg h1, e]
  dsimp only
  rw [if_neg (fun z => z h3), h4, if_neg (by decide), h5]
/-! ## a store from its other end -/
def mirIn (l : List Int) : List Int := sortI (l.map fun c => 1 - c)
def mirSide (x : Str) : Str := if x = "left" then "right" else if x = "right" then "left" else x
def mirW (n : Int) (w : Wish) : Wish := ⟨w.kind, n - 1 - w.shelf, mirSide w.side, 1 - w.crew, w.keep, w.after⟩
def mirS (S : Sto) : Sto := ⟨S.shelves.reverse, S.shelves.length - S.aisle, S.wishes.map (mirW S.shelves.length)⟩
def mirA (n : Int) (s : Sta) : Sta := ⟨n - s.aisle, s.done, mirIn s.inside, s.kept⟩
def mirT : Stp → Stp
  | .wait => .wait
  | .shift b => .shift (0 - b)
  | .cin c => .cin (1 - c)
  | .cout c => .cout (1 - c)
  | .wish n => .wish n
theorem mem_mirIn {c : Int} {l : List Int} : 1 - c ∈ mirIn l ↔ c ∈ l := by
  unfold mirIn
  rw [mem_sortI, List.mem_map]
  constructor
  · rintro ⟨z, hz, e⟩
    have : z = c := by omega
    rwa [← this]
  · exact fun h => ⟨c, h, rfl⟩
theorem side_lr : ¬ (("right" : Str) = "left") ∧ ¬ (("any" : Str) = "left") ∧ ¬ (("any" : Str) = "right") := by decide +kernel
theorem mirSide_ok {x : Str} (h : x = "left" ∨ x = "right" ∨ x = "any") : mirSide x = "left" ∨ mirSide x = "right" ∨ mirSide x = "any" := by
  unfold mirSide
  obtain ⟨a, b, c⟩ := side_lr
  rcases h with rfl | rfl | rfl
  · rw [if_pos rfl]; exact .inr (.inl rfl)
  · rw [if_neg a, if_pos rfl]; exact .inl rfl
  · rw [if_neg b, if_neg c]; exact .inr (.inr rfl)
theorem mirSide_two {x : Str} (h : x = "left" ∨ x = "right" ∨ x = "any") : mirSide (mirSide x) = x := by
  unfold mirSide
  obtain ⟨a, b, c⟩ := side_lr
  rcases h with rfl | rfl | rfl
  · rw [if_pos rfl, if_neg a, if_pos rfl]
  · rw [if_neg a, if_pos rfl, if_pos rfl]
  · rw [if_neg b, if_neg c, if_neg b, if_neg c]
theorem mir_beside {n a k : Int} {x : Str} (h : x = "left" ∨ x = "right" ∨ x = "any") : beside (n - a) (n - 1 - k) (mirSide x) = beside a k x := by
  unfold mirSide beside
  obtain ⟨p, q, r⟩ := side_lr
  rcases h with rfl | rfl | rfl
  · rw [if_pos rfl, if_pos rfl, if_neg p, if_pos rfl]
    exact decide_eq_decide.mpr (by omega)
  · rw [if_neg p, if_pos rfl, if_pos rfl, if_neg p, if_pos rfl]
    exact decide_eq_decide.mpr (by omega)
  · rw [if_neg q, if_neg r, if_neg q, if_neg r, if_neg q, if_neg r]
    exact decide_eq_decide.mpr (by omega)
section
variable {S : Sto} {s : Sta} {k z : Int} {done : List Int}
theorem mir_len : (mirS S).shelves.length = S.shelves.length := List.length_reverse ..
theorem mir_many : (mirS S).wishes.length = S.wishes.length := List.length_map ..
theorem mir_shelf (h0 : 0 ≤ k) (h1 : k < S.shelves.length) : (mirS S).shelves[(S.shelves.length - 1 - k).toNat]? = S.shelves[k.toNat]? := by
  unfold mirS
  dsimp only
  rw [List.getElem?_reverse (by omega)]
  congr 1
  omega
theorem mir_wish {x : Wish} {i : Nat} (hx : S.wishes[i]? = some x) : (mirS S).wishes[i]? = some (mirW S.shelves.length x) := by
  unfold mirS
  dsimp only
  rw [List.getElem?_map, hx]
  rfl
theorem mir_wish0 {i : Nat} (hx : S.wishes[i]? = none) : (mirS S).wishes[i]? = none := by
  unfold mirS
  dsimp only
  rw [List.getElem?_map, hx]
  rfl
theorem mir_delta : delta (mirS S) (S.shelves.length - 1 - k) z = delta S k z := by
  unfold delta
  cases hx : S.wishes[z.toNat]? with
  | none => rw [mir_wish0 hx]
  | some x =>
    rw [mir_wish hx]
    dsimp only [mirW]
    by_cases e : x.shelf = k
    · rw [if_pos e, if_pos (by rw [e])]
    · rw [if_neg e, if_neg (by omega)]
theorem mir_has (h0 : 0 ≤ k) (h1 : k < S.shelves.length) : hasAt (mirS S) (S.shelves.length - 1 - k) = hasAt S k := by
  unfold hasAt
  rw [mir_shelf h0 h1]
theorem mir_room (h0 : 0 ≤ k) (h1 : k < S.shelves.length) : roomAt (mirS S) (S.shelves.length - 1 - k) = roomAt S k := by
  unfold roomAt
  rw [mir_shelf h0 h1]
theorem mir_goods (h0 : 0 ≤ k) (h1 : k < S.shelves.length) : goods (mirS S) done (S.shelves.length - 1 - k) = goods S done k := by
  unfold goods
  rw [mir_has h0 h1]
  congr 2
  exact List.map_congr_left fun z _ => mir_delta
theorem mir_keep {n : Int} : keepAt (mirS S) n = keepAt S n := by
  unfold keepAt
  cases hx : S.wishes[n.toNat]? with
  | none => rw [mir_wish0 hx]
  | some x => rw [mir_wish hx]; rfl
theorem mirIn_ok {l : List Int} (h : InsideOk l) : InsideOk (mirIn l) := by
  rcases h with rfl | rfl | rfl | rfl
  · exact .inl rfl
  · exact .inr (.inr (.inl rfl))
  · exact .inr (.inl rfl)
  · exact .inr (.inr (.inr rfl))
theorem mirIn_two {l : List Int} (h : InsideOk l) : mirIn (mirIn l) = l := by
  rcases h with rfl | rfl | rfl | rfl <;> rfl
theorem mirS_ok (ok : StoOk S) : StoOk (mirS S) := by
  have a0 := ok.a0
  have a1 := ok.a1
  refine ⟨by rw [mir_len]; exact ok.n1, by rw [mir_len]; exact ok.n5, fun x hx => ok.sh x (List.mem_reverse.mp hx), ?_, ?_, by rw [mir_many]; exact ok.w5, fun x hx => ?_⟩
  · show (0 : Int) ≤ S.shelves.length - S.aisle
    omega
  · rw [mir_len]
    show (S.shelves.length : Int) - S.aisle ≤ _
    omega
  · obtain ⟨y, hy, rfl⟩ := List.mem_map.mp hx
    have w := ok.ws y hy
    have s0 := w.s0
    have s1 := w.s1
    have hc := w.crew
    rw [mir_len, mir_many]
    exact ⟨w.kind, by show (0 : Int) ≤ S.shelves.length - 1 - y.shelf; omega, by show (S.shelves.length : Int) - 1 - y.shelf < _; omega, mirSide_ok w.side, by show 1 - y.crew = 0 ∨ 1 - y.crew = 1; omega, w.k0, w.k3, w.after⟩
theorem mirS_two (ok : StoOk S) : mirS (mirS S) = S := by
  obtain ⟨sh, a, ws⟩ := S
  show Sto.mk sh.reverse.reverse (sh.reverse.length - (sh.length - a)) ((ws.map (mirW sh.length)).map (mirW sh.reverse.length)) = _
  rw [List.reverse_reverse, List.length_reverse, List.map_map]
  have e1 : (sh.length : Int) - (sh.length - a) = a := by omega
  have e2 : ws.map (mirW sh.length ∘ mirW sh.length) = ws := by
    refine (List.map_congr_left fun w hw => ?_).trans (List.map_id ws)
    have wo := ok.ws w hw
    obtain ⟨kd, sf, sd, cr, kp, af⟩ := w
    show Wish.mk kd (sh.length - 1 - (sh.length - 1 - sf)) (mirSide (mirSide sd)) (1 - (1 - cr)) kp af = _
    rw [mirSide_two wo.side]
    congr 1
    · omega
    · omega
  rw [e1, e2]
theorem mirT_two (t : Stp) : mirT (mirT t) = t := by
  cases t <;> simp [mirT] <;> omega
theorem mirA_ok (sk : StaOk S s) : StaOk (mirS S) (mirA S.shelves.length s) := by
  have a0 := sk.a0
  have a1 := sk.a1
  refine ⟨by show (0 : Int) ≤ S.shelves.length - s.aisle; omega, by rw [mir_len]; show (S.shelves.length : Int) - s.aisle ≤ _; omega, by rw [mir_many]; exact sk.done, mirIn_ok sk.inside, sk.k0, sk.k3, fun k h0 h1 => ?_⟩
  rw [mir_len] at h1
  have e : k = S.shelves.length - 1 - (S.shelves.length - 1 - k) := by omega
  have h := sk.has (S.shelves.length - 1 - k) (by omega) (by omega)
  rw [e, mir_room (by omega) (by omega)]
  show 0 ≤ goods (mirS S) s.done _ ∧ goods (mirS S) s.done _ ≤ _
  rw [mir_goods (by omega) (by omega)]
  exact h
theorem mir_mor (ok : StoOk S) : Mor S (mirS S) (mirA S.shelves.length) mirT := by
  refine ⟨fun s => mirA_ok, fun s sk t ht => ?_, fun s sk t ht => ?_, fun s sk => ?_, fun t => by cases t <;> rfl⟩
  · obtain ⟨h1, h2⟩ := open_ok ht
    cases t with
    | wait => exact open_of trivial rfl
    | shift b =>
      obtain ⟨c0, c1, ⟨x, hx, hs⟩, hi, hk⟩ := barShift_none h2
      have hb : b = -1 ∨ b = 1 := h1
      have e : (if 0 - b = 1 then (mirA S.shelves.length s).aisle else (mirA S.shelves.length s).aisle - 1) = S.shelves.length - 1 - (if b = 1 then s.aisle else s.aisle - 1) := by
        show (if 0 - b = 1 then (S.shelves.length : Int) - s.aisle else S.shelves.length - s.aisle - 1) = _
        rcases hb with rfl | rfl
        · rw [if_pos (by decide), if_neg (by decide)]; omega
        · rw [if_neg (by decide), if_pos rfl]; omega
      refine open_of (show StpOk _ (.shift (0 - b)) from by rcases hb with rfl | rfl <;> simp [StpOk]) (barShift_of (x := x) (by rw [e]; omega) (by rw [e, mir_len]; omega) (by rw [e, mir_shelf c0 c1]; exact hx) hs ?_ hk)
      show mirIn s.inside = []
      rw [hi]
      rfl
    | cin c =>
      have hb : (if c ∈ s.inside then some (("is" : Str), c) else none) = none := h2
      have hc : c ∉ s.inside := fun z => by rw [if_pos z] at hb; cases hb
      have h1 : c = 0 ∨ c = 1 := h1
      refine open_of (show StpOk _ (.cin (1 - c)) from by show 1 - c = 0 ∨ 1 - c = 1; omega) ?_
      show (if 1 - c ∈ mirIn s.inside then some (("is" : Str), 1 - c) else none) = none
      rw [if_neg (fun z => hc (mem_mirIn.mp z))]
    | cout c =>
      have hb : (if c ∈ s.inside then none else some (("isnt" : Str), c)) = none := h2
      have hc : c ∈ s.inside := Classical.byContradiction fun z => by rw [if_neg z] at hb; cases hb
      have h1 : c = 0 ∨ c = 1 := h1
      refine open_of (show StpOk _ (.cout (1 - c)) from by show 1 - c = 0 ∨ 1 - c = 1; omega) ?_
      show (if 1 - c ∈ mirIn s.inside then none else some (("isnt" : Str), 1 - c)) = none
      rw [if_pos (mem_mirIn.mpr hc)]
    | wish n =>
      obtain ⟨x, hx, hm⟩ := wish_at_k h1.1 h1.2
      have wo := ok.ws x hm
      obtain ⟨e1, e2, e3, e4, e5⟩ := barWish_none hx h2
      refine open_of (show StpOk _ (.wish n) from ⟨h1.1, by rw [mir_many]; exact h1.2⟩) (barWish_of (mir_wish hx) e1 e2 (mem_mirIn.mpr e3) ?_ (barLoad_of ?_))
      · show beside (S.shelves.length - s.aisle) (S.shelves.length - 1 - x.shelf) (mirSide x.side) = true
        rw [mir_beside wo.side]
        exact e4
      · obtain ⟨f1, f2⟩ := barLoad_none e5
        show (x.kind = "fetch" → ¬ goods (mirS S) s.done (S.shelves.length - 1 - x.shelf) = 0) ∧ (x.kind = "bring" → ¬ goods (mirS S) s.done (S.shelves.length - 1 - x.shelf) = roomAt (mirS S) (S.shelves.length - 1 - x.shelf))
        rw [mir_goods wo.s0 wo.s1, mir_room wo.s0 wo.s1]
        exact ⟨f1, f2⟩
  · obtain ⟨h1, h2⟩ := open_ok ht
    cases t with
    | wait => rfl
    | shift b =>
      show Sta.mk (S.shelves.length - s.aisle + (0 - b)) _ _ _ = Sta.mk (S.shelves.length - (s.aisle + b)) _ _ _
      have e : (S.shelves.length : Int) - s.aisle + (0 - b) = S.shelves.length - (s.aisle + b) := by omega
      rw [e]
      rfl
    | cin c =>
      show Sta.mk _ _ (sortI (mirIn s.inside ++ [1 - c])) _ = Sta.mk _ _ (mirIn (sortI (s.inside ++ [c]))) _
      have e : sortI (mirIn s.inside ++ [1 - c]) = mirIn (sortI (s.inside ++ [c])) := by
        unfold mirIn
        refine sortI_congr ?_
        refine ((sortI_perm _).append_right _).trans ?_
        have := ((sortI_perm (s.inside ++ [c])).map fun c => 1 - c).symm
        rwa [List.map_append] at this
      rw [e]
      rfl
    | cout c =>
      show Sta.mk _ _ ((mirIn s.inside).filter fun z => decide (z ≠ 1 - c)) _ = Sta.mk _ _ (mirIn (s.inside.filter fun z => decide (z ≠ c))) _
      have h1 : c = 0 ∨ c = 1 := h1
      have e : ((mirIn s.inside).filter fun z => decide (z ≠ 1 - c)) = mirIn (s.inside.filter fun z => decide (z ≠ c)) := by
        rcases sk.inside with i | i | i | i <;> rw [i] <;> rcases h1 with rfl | rfl <;> rfl
      rw [e]
      rfl
    | wish n =>
      show Sta.mk _ _ _ (max (max (s.kept - 1) 0) (keepAt (mirS S) n)) = Sta.mk _ _ _ (max (max (s.kept - 1) 0) (keepAt S n))
      rw [mir_keep]
      rfl
  · unfold isEndS
    rw [mir_many]
    show (decide (s.done.length = _) && decide ((mirIn s.inside).length = 0)) = _
    have e : (mirIn s.inside).length = s.inside.length := by
      unfold mirIn
      rw [(sortI_perm _).length_eq, List.length_map]
    rw [e]
theorem mir_iso (ok : StoOk S) : Iso S (mirS S) (mirA S.shelves.length) mirT (mirA S.shelves.length) mirT := by
  have two : ∀ {S : Sto} (s : Sta), StaOk S s → ∀ n : Int, mirA n (mirA n s) = s := fun s sk n => by
    obtain ⟨a, d, i, k⟩ := s
    show Sta.mk (n - (n - a)) d (mirIn (mirIn i)) k = _
    rw [mirIn_two sk.inside]
    congr 1
    omega
  have fro := mir_mor (mirS_ok ok)
  rw [mirS_two ok, mir_len] at fro
  exact ⟨mir_mor ok, fro, fun s sk => two s sk _, fun s sk => two s sk _, rfl⟩
end

/-! ## a store with its wishes in another order -/
structure PermOn (m : Int) (p r : Int → Int) : Prop where
  pp : ∀ i, 0 ≤ i → i < m → 0 ≤ p i ∧ p i < m ∧ r (p i) = i
  rr : ∀ j, 0 ≤ j → j < m → 0 ≤ r j ∧ r j < m ∧ p (r j) = j
theorem PermOn.inv {m : Int} {p r : Int → Int} (h : PermOn m p r) : PermOn m r p := ⟨h.rr, h.pp⟩
def renL (p : Int → Int) (l : List Int) : List Int := sortI (l.map p)
def renW (p : Int → Int) (w : Wish) : Wish := ⟨w.kind, w.shelf, w.side, w.crew, w.keep, renL p w.after⟩
def renA (p : Int → Int) (s : Sta) : Sta := ⟨s.aisle, renL p s.done, s.inside, s.kept⟩
def renT (p : Int → Int) : Stp → Stp
  | .wait => .wait
  | .shift b => .shift b
  | .cin c => .cin c
  | .cout c => .cout c
  | .wish n => .wish (p n)
structure Ren (S S' : Sto) (p r : Int → Int) : Prop where
  sh : S'.shelves = S.shelves
  ai : S'.aisle = S.aisle
  n : S'.wishes.length = S.wishes.length
  pr : PermOn S.wishes.length p r
  w : ∀ (i : Int) (x : Wish), 0 ≤ i → i < S.wishes.length → S.wishes[i.toNat]? = some x → S'.wishes[(p i).toNat]? = some (renW p x)
theorem Rising.of {m : Int} : ∀ {l : List Int} {lo : Int}, l.Pairwise (· ≤ ·) → l.Nodup → (∀ z ∈ l, lo ≤ z ∧ z < m) → Rising lo m l
  | [], _, _, _, _ => trivial
  | i :: r, lo, h, nd, b => by
    obtain ⟨h1, h2⟩ := List.pairwise_cons.mp h
    obtain ⟨n1, n2⟩ := List.nodup_cons.mp nd
    refine ⟨(b i List.mem_cons_self).1, (b i List.mem_cons_self).2, Rising.of h2 n2 fun z hz => ⟨?_, (b z (List.mem_cons_of_mem _ hz)).2⟩⟩
    have := h1 z hz
    have : z ≠ i := fun e => n1 (by rw [← e]; exact hz)
    omega
theorem Rising.nd {lo m : Int} : ∀ {l : List Int}, Rising lo m l → l.Nodup
  | [], _ => List.nodup_nil
  | i :: r, h => List.nodup_cons.mpr ⟨fun z => by have := (h.2.2.mem z).1; omega, Rising.nd h.2.2⟩
section
variable {m : Int} {p r : Int → Int} {l : List Int} {S S' : Sto} {s : Sta}
theorem renL_rising (P : PermOn m p r) (h : Rising 0 m l) : Rising 0 m (renL p l) := by
  unfold renL
  refine Rising.of (sortI_sorted _) ?_ fun z hz => ?_
  · refine (sortI_perm _).nodup_iff.mpr (List.pairwise_map.mpr (h.nd.imp_of_mem fun {a b} ha hb ne e => ne ?_))
    have h1 := h.mem ha
    have h2 := h.mem hb
    have := congrArg r e
    rwa [(P.pp a h1.1 h1.2).2.2, (P.pp b h2.1 h2.2).2.2] at this
  · rw [mem_sortI, List.mem_map] at hz
    obtain ⟨a, ha, rfl⟩ := hz
    have h1 := h.mem ha
    have := P.pp a h1.1 h1.2
    exact ⟨this.1, this.2.1⟩
theorem renL_two (P : PermOn m p r) (h : Rising 0 m l) : renL r (renL p l) = l := by
  unfold renL
  refine (sortI_of (l := (sortI (l.map p)).map r) ?_ h.sorted.1).symm
  have e : (l.map p).map r = l := by
    rw [List.map_map]
    refine (List.map_congr_left fun a ha => ?_).trans (List.map_id l)
    have h1 := h.mem ha
    exact (P.pp a h1.1 h1.2).2.2
  have := ((sortI_perm (l.map p)).map r).symm
  rwa [e] at this
theorem mem_renL (P : PermOn m p r) (h : Rising 0 m l) {z : Int} (z0 : 0 ≤ z) (z1 : z < m) : p z ∈ renL p l ↔ z ∈ l := by
  unfold renL
  rw [mem_sortI, List.mem_map]
  constructor
  · rintro ⟨a, ha, e⟩
    have h1 := h.mem ha
    have := congrArg r e
    rw [(P.pp a h1.1 h1.2).2.2, (P.pp z z0 z1).2.2] at this
    rwa [← this]
  · exact fun h => ⟨z, h, rfl⟩
theorem Ren.inv (ok : StoOk S) (R : Ren S S' p r) : Ren S' S r p := by
  refine ⟨R.sh.symm, R.ai.symm, R.n.symm, by rw [R.n]; exact R.pr.inv, fun j x j0 j1 hx => ?_⟩
  rw [R.n] at j1
  obtain ⟨r0, r1, r2⟩ := R.pr.rr j j0 j1
  obtain ⟨y, hy, hm⟩ := wish_at_k r0 r1
  have h := R.w (r j) y r0 r1 hy
  rw [r2, hx] at h
  obtain rfl := Option.some.inj h
  rw [hy]
  obtain ⟨kd, sf, sd, cr, kp, af⟩ := y
  show some (Wish.mk kd sf sd cr kp af) = some (Wish.mk kd sf sd cr kp (renL r (renL p af)))
  rw [renL_two R.pr (ok.ws _ hm).after]
theorem Ren.ok (ok : StoOk S) (R : Ren S S' p r) : StoOk S' := by
  refine ⟨by rw [R.sh]; exact ok.n1, by rw [R.sh]; exact ok.n5, by rw [R.sh]; exact ok.sh, by rw [R.ai]; exact ok.a0, by rw [R.sh, R.ai]; exact ok.a1, by rw [R.n]; exact ok.w5, fun x hx => ?_⟩
  obtain ⟨j, hj, e⟩ := List.mem_iff_getElem.mp hx
  have hj' : j < S.wishes.length := by rw [← R.n]; exact hj
  obtain ⟨r0, r1, r2⟩ := R.pr.rr (j : Int) (by omega) (by omega)
  obtain ⟨y, hy, hm⟩ := wish_at_k r0 r1
  have h := R.w (r j) y r0 r1 hy
  rw [r2, Int.toNat_natCast, List.getElem?_eq_getElem hj, e] at h
  obtain rfl := Option.some.inj h
  have w := ok.ws y hm
  rw [R.sh, R.n]
  exact ⟨w.kind, w.s0, w.s1, w.side, w.crew, w.k0, w.k3, renL_rising R.pr w.after⟩
theorem ren_delta (R : Ren S S' p r) {k z : Int} (z0 : 0 ≤ z) (z1 : z < S.wishes.length) : delta S' k (p z) = delta S k z := by
  obtain ⟨x, hx, _⟩ := wish_at_k z0 z1
  unfold delta
  rw [hx, R.w z x z0 z1 hx]
  rfl
theorem ren_goods (R : Ren S S' p r) {k : Int} (h : Rising 0 S.wishes.length l) : goods S' (renL p l) k = goods S l k := by
  unfold renL
  rw [goods_perm (sortI_perm _)]
  unfold goods hasAt
  rw [R.sh, List.map_map]
  congr 2
  refine List.map_congr_left fun z hz => ?_
  have := h.mem hz
  exact ren_delta R this.1 this.2
theorem ren_room (R : Ren S S' p r) {k : Int} : roomAt S' k = roomAt S k := by
  unfold roomAt
  rw [R.sh]
theorem ren_mor (ok : StoOk S) (R : Ren S S' p r) : Mor S S' (renA p) (renT p) := by
  refine ⟨fun s sk => ?_, fun s sk t ht => ?_, fun s sk t ht => ?_, fun s sk => ?_, fun t => by cases t <;> rfl⟩
  · refine ⟨sk.a0, by rw [R.sh]; exact sk.a1, by rw [R.n]; exact renL_rising R.pr sk.done, sk.inside, sk.k0, sk.k3, fun k h0 h1 => ?_⟩
    rw [R.sh] at h1
    rw [ren_room R]
    show 0 ≤ goods S' (renL p s.done) k ∧ goods S' (renL p s.done) k ≤ _
    rw [ren_goods R sk.done]
    exact sk.has k h0 h1
  · obtain ⟨h1, h2⟩ := open_ok ht
    cases t with
    | wait => exact open_of trivial rfl
    | shift b =>
      obtain ⟨c0, c1, ⟨x, hx, hs⟩, hi, hk⟩ := barShift_none h2
      exact open_of h1 (barShift_of (x := x) c0 (by rw [R.sh]; exact c1) (by rw [R.sh]; exact hx) hs hi hk)
    | cin c => exact open_of h1 h2
    | cout c => exact open_of h1 h2
    | wish n =>
      obtain ⟨x, hx, hm⟩ := wish_at_k h1.1 h1.2
      have wo := ok.ws x hm
      obtain ⟨e1, e2, e3, e4, e5⟩ := barWish_none hx h2
      obtain ⟨p0, p1, p2⟩ := R.pr.pp n h1.1 h1.2
      refine open_of (show StpOk _ (.wish (p n)) from ⟨p0, by rw [R.n]; exact p1⟩) (barWish_of (R.w n x h1.1 h1.2 hx) (fun z => e1 ((mem_renL R.pr sk.done h1.1 h1.2).mp z)) (fun z hz => ?_) e3 e4 (barLoad_of ?_))
      · have hz : z ∈ sortI (x.after.map p) := hz
        rw [mem_sortI, List.mem_map] at hz
        obtain ⟨a, ha, rfl⟩ := hz
        have := wo.after.mem ha
        exact (mem_renL R.pr sk.done this.1 this.2).mpr (e2 a ha)
      · obtain ⟨f1, f2⟩ := barLoad_none e5
        show (x.kind = "fetch" → ¬ goods S' (renL p s.done) x.shelf = 0) ∧ (x.kind = "bring" → ¬ goods S' (renL p s.done) x.shelf = roomAt S' x.shelf)
        rw [ren_goods R sk.done, ren_room R]
        exact ⟨f1, f2⟩
  · obtain ⟨h1, h2⟩ := open_ok ht
    cases t with
    | wait => rfl
    | shift b => rfl
    | cin c => rfl
    | cout c => rfl
    | wish n =>
      obtain ⟨x, hx, hm⟩ := wish_at_k h1.1 h1.2
      show Sta.mk _ (sortI (renL p s.done ++ [p n])) _ (max (max (s.kept - 1) 0) (keepAt S' (p n))) = Sta.mk _ (renL p (sortI (s.done ++ [n]))) _ (max (max (s.kept - 1) 0) (keepAt S n))
      have e : sortI (renL p s.done ++ [p n]) = renL p (sortI (s.done ++ [n])) := by
        unfold renL
        refine sortI_congr (((sortI_perm _).append_right _).trans ?_)
        have := ((sortI_perm (s.done ++ [n])).map p).symm
        rwa [List.map_append] at this
      have ek : keepAt S' (p n) = keepAt S n := by
        unfold keepAt
        rw [hx, R.w n x h1.1 h1.2 hx]
        rfl
      rw [e, ek]
      rfl
  · unfold isEndS
    rw [R.n]
    show (decide ((renL p s.done).length = _) && decide (s.inside.length = 0)) = _
    have e : (renL p s.done).length = s.done.length := by
      unfold renL
      rw [(sortI_perm _).length_eq, List.length_map]
    rw [e]
theorem ren_iso (ok : StoOk S) (R : Ren S S' p r) : Iso S S' (renA p) (renT p) (renA r) (renT r) := by
  have two : ∀ {S S' : Sto} {p r : Int → Int}, Ren S S' p r → ∀ s, StaOk S s → renA r (renA p s) = s := fun {S S' p r} R s sk => by
    obtain ⟨a, d, i, k⟩ := s
    show Sta.mk a (renL r (renL p d)) i k = _
    rw [renL_two R.pr sk.done]
  have R' := R.inv ok
  refine ⟨ren_mor ok R, ren_mor (R.ok ok) R', two R, two R', ?_⟩
  show Sta.mk S.aisle (sortI []) [] 0 = Sta.mk S'.aisle [] [] 0
  rw [R.ai]
  rfl
end

/-! ## rules: sorted of data, str of a number or None, index -/
def rSortD (K : PySem.W.Frag) : List V → Hp → VK → Prop := fun vs H Q => ∃ (a : Addr) (us : List V) (ds : List PyData), vs = [.ref a] ∧ SqL K H a us ∧ DpAll K H us ds ∧ PySem.W.AllAlike ds ∧ PySem.W.Sortable ds ∧ (∀ d ∈ ds, d.depth ≤ 8) ∧
  ∀ p us' ds', H p = none → DpAll K H us' ds' → ds'.Perm ds → ds'.Pairwise (fun x y => PySem.W.dataLt y x = false) → Q (.ref p) (upd H p (.lst us'))
theorem each_zip : ∀ {ws : List V} {its : List Value} {ds : List PyData}, Vals ws its → ws.length = ds.length → PySem.W.EachIs (fun (v : Value) (b : V × PyData) => RelV b.1 v) its (ws.zip ds)
  | _, _, _, .nil, _ => .nil
  | _, _, [], .cons h t, hl => by simp at hl
  | _, _, d :: ds, .cons h t, hl => .cons h (each_zip t (by simpa using hl))
theorem each_vals : ∀ {its : List Value} {bs : List (V × PyData)}, PySem.W.EachIs (fun (v : Value) (b : V × PyData) => RelV b.1 v) its bs → Vals (bs.map (·.1)) its
  | _, _, .nil => .nil
  | _, _, .cons h t => .cons h (each_vals t)
theorem zip_dp {K : PySem.W.Frag} {H : Hp} : ∀ {ws : List V} {ds : List PyData}, DpAll K H ws ds → ∀ b ∈ ws.zip ds, Dp K H b.1 b.2
  | _, _, .nil, b, hb => by simp at hb
  | _, _, .cons h t, b, hb => by
    rw [List.zip_cons_cons] at hb
    rcases List.mem_cons.mp hb with rfl | hb
    · exact h
    · exact zip_dp t b hb
theorem dp_zip {K : PySem.W.Frag} {H : Hp} : ∀ {bs : List (V × PyData)}, (∀ b ∈ bs, Dp K H b.1 b.2) → DpAll K H (bs.map (·.1)) (bs.map (·.2))
  | [], _ => .nil
  | b :: bs, h => .cons (h b List.mem_cons_self) (dp_zip fun x hx => h x (List.mem_cons_of_mem _ hx))
theorem cr_sortD {X : Cx} {K : PySem.W.Frag} (hc : X.calm = true) (hu : X.A.units + 20 < cLine) (eK : X.K = K := by rfl) : CallR X (.builtin "sorted") (rSortD K) := by
  subst eK
  rintro pins s σ H vs us Q I r ⟨a, ws, ds, ex, hs, dp, hal, hsk, hdp, q⟩
  subst ex
  obtain ⟨its, rv, hl, hz⟩ := I.list hs
  rw [Vals.ref1 r]
  obtain ⟨as, hr⟩ := Dp.readsAll I ds ws its dp rv
  have lw : ws.length = ds.length := dps_len dp
  have e2 : (ws.zip ds).map (·.2) = ds := List.map_snd_zip (by omega)
  have e1 : (ws.zip ds).length = ds.length := by rw [List.length_zip]; omega
  have hli : its.length = ws.length := rv.length.symm
  refine PySem.W.sorted_data (β := V × PyData) (enc := fun b => b.2) (R := fun (v : Value) (b : V × PyData) => RelV b.1 v) (bs := ws.zip ds) hl.isList (each_zip rv lw) (PySem.W.readsAll_each (fun b : V × PyData => b.2) (by rw [e2]; exact hr)) (by rw [e2]; exact hal) (by rw [e2]; exact hsk) ?_ (fun b hb => ?_) fun out ho eo => ?_
  · rw [e1, ← lw]
    exact hz
  · have := hdp b.2 (by rw [← e2]; exact List.mem_map.mpr ⟨b, hb, rfl⟩)
    omega
  · obtain ⟨ep, he'⟩ := PyProof.Rows.sortedAll_at s.heap its out.toArray
    have pm := List.mergeSort_perm (ws.zip ds) (PySem.W.dataLe false fun b : V × PyData => b.2)
    have hlen : (((ws.zip ds).mergeSort (PySem.W.dataLe false fun b : V × PyData => b.2)).map (·.1)).length ≤ sizeLine := by
      rw [List.length_map, List.length_mergeSort, e1, ← lw]
      exact hz
    refine ⟨.ref _, upd H (s.heap.objs.size + 1) (.lst (((ws.zip ds).mergeSort (PySem.W.dataLe false fun b : V × PyData => b.2)).map (·.1))), I.laid (t' := s.toks) (fun _ _ => PyProof.Rows.sortedAll_old) (Nat.le_succ _) ⟨hlen, out, ep, each_vals eo, he'⟩, rfl, q _ _ _ (I.hok.fresh (Nat.le_succ _)) (dp_zip fun b hb => zip_dp dp b (pm.mem_iff.mp hb)) ?_ ?_⟩
    · have := pm.map (·.2)
      rwa [e2] at this
    · refine List.pairwise_map.mpr ?_
      refine (List.pairwise_mergeSort (le := PySem.W.dataLe false fun b : V × PyData => b.2) ?_ ?_ (ws.zip ds)).imp ?_
      · intro x y z h1 h2
        rw [PySem.W.dataLe_eq] at h1 h2 ⊢
        simp only [cond_false, Bool.not_eq_true'] at h1 h2 ⊢
        exact dlt_tr h1 h2
      · intro x y
        rw [PySem.W.dataLe_eq]
        simp only [cond_false, Bool.or_eq_true, Bool.not_eq_true']
        cases h : PySem.W.dataLt y.2 x.2 with
        | false => exact .inl rfl
        | true => exact .inr (dlt_asym h)
      · intro x y h
        rw [PySem.W.dataLe_eq] at h
        simpa using h
theorem call_strN {X : Cx} : CallR X (.type "str") (fun xs H Q => (xs = [.non] ∧ Q (.str "None") H) ∨ ∃ i, xs = [.int i] ∧ i.natAbs.log2 < 1920 ∧ Q (.str (toString i)) H) := by
  intro pins s σ H xs us Q I r h
  rcases h with ⟨rfl, q⟩ | ⟨i, rfl, hz, q⟩
  · obtain ⟨u, rfl, r1⟩ := vals1 r
    cases r1
    exact PySem.P.str_of_none ⟨.str _, H, I.tok _, ⟨_, rfl⟩, q⟩
  · obtain ⟨u, rfl, t, rfl⟩ := vals1 r
    exact PySem.P.str_of_int hz ⟨.str _, H, I.tok _, ⟨_, rfl⟩, q⟩
theorem kindex {X : Cx} {K : PySem.W.Frag} (h : X.K = K := by rfl) : MtR X "list.index" (rIndex K) := by subst h; exact mt_index
theorem kpe_bm {X : Cx} {K : PySem.W.Frag} {o e : Expr} {es : List Expr} {to : TE} {t : TA} {name : Str} {apos cpos : Pos} {T id : String} {r : V → List V → Hp → VK → Prop} (pa : PlainAttrs T) (slot : Slot T name id) (hty : typeOf (.builtin id) = pure (.type "method_descriptor")) (hm : MtR X id r) (ho : PE X o to) (ha : PA X (e :: es) t)
    (h : X.K = K := by rfl) (hbase : attributeBase o name X.env (eval o X.env) = eval o X.env := by rfl)
    (hfew : ((backTo cpos (starEach (e :: es) X.env)).all (fun x => !x.1) && (backToKw cpos (keywordEach [] X.env)).all (fun x => x.1.isSome)
      && decide ((e :: es).length + ([] : List Keyword).length + (if ([] : List Keyword).isEmpty then 0 else 1) < 30)) = true := by rfl)
    (hline : (apos.endLine == cpos.line) = true := by rfl) (hs : starEach (e :: es) X.env = (false, eval e X.env) :: starEach es X.env := by rfl) (hplain : (backTo cpos (starEach es X.env)).any (·.1) = false := by rfl) :
    PE X (.Call (.Attribute o name apos) (e :: es) [] cpos) (tBM K T r to t) := by
  subst h
  exact pe_bm pa slot hty hm ho ha hbase hfew hline hs hplain

theorem dps_rev {K : PySem.W.Frag} {H : Hp} : ∀ {vs : List V} {ds : List PyData}, DpAll K H vs ds → DpAll K H vs.reverse ds.reverse
  | _, _, .nil => .nil
  | _, _, .cons h r => by
    rw [List.reverse_cons, List.reverse_cons]
    exact dps_app (dps_rev r) (.cons h .nil)
section
variable {P : Program} {w : World} {K : PySem.W.Frag} {mg : Str → Option Value} {base : Heap}
def spMirrored (K : PySem.W.Frag) : Sp := fun vs H Q _ => ∃ (v : V) (S : Sto), vs = [v] ∧ Dp K H v S.d ∧ StoOk S ∧ Ret K H Q (mirS S).d
/-! _law_mirrored: 0 _law_store_here, 1 _law_many, 2 _law_sides, 3 _law_wishes, 4 _law_kind, 5 _law_shelf, 6 _law_side, 7 _law_crew, 8 _law_keep, 9 _law_after -/
abbrev s__law_mirrored : Stmt := topS 52
abbrev N__law_mirrored : List Str := ["_law_store_here", "_law_many", "_law_sides", "_law_wishes", "_law_kind", "_law_shelf", "_law_side", "_law_crew", "_law_keep", "_law_after"]
theorem sc__law_mirrored : FnScope N__law_mirrored ["_law_store_here"] (defScope s__law_mirrored) := ⟨rfl, rfl, rfl, by decide +kernel, rfl, by decide +kernel, by decide +kernel⟩
theorem ok__law_mirrored {f : Addr} {fd : FuncData} (D : Dfs K mg "_law_mirrored" s__law_mirrored ["_law_store_here"] f fd) (T : Tx K mg) : Cal P w K mg base 1 "_law_mirrored" ["_law_store_here"] (spMirrored K) f fd := by
  refine D.cal (D.F.ok sc__law_mirrored (fun vs H Q E h => ?_) (fun cdv A outer s H vs Q E hr h => ?_))
  · obtain ⟨v, S, rfl, _⟩ := h
    rfl
  · obtain ⟨v, S, rfl, hv, ok, q⟩ := h
    obtain ⟨a, l, m, xs, ys, rfl, so⟩ := sto_at hv
    have w5 := ok.w5
    have lx : xs.length = S.shelves.length := so.lx
    have ly : ys.length = S.wishes.length := so.ly
    refine ⟨_, (pss_cons (ps_set (i := 1) sc__law_mirrored.nd rfl (Or.inl rfl) (pe_callB (klen (K := K)) (by rfl) T.n_len (by decide +kernel) (pa_cons (pe_ix (kix_tup (K := K)) (pv 0) pe_int (fun _ _ => rfl)) pa_nil)))
      (pss_cons (ps_set (i := 2) sc__law_mirrored.nd rfl (Or.inl rfl) (pe_disp (pps_cons pe_str pe_str (pps_cons pe_str pe_str (pps_cons pe_str pe_str pps_nil))) (by rfl) (by rfl) (fun z => by cases z) (by decide)))
      (pss_cons (ps_set (i := 3) sc__law_mirrored.nd rfl (Or.inl rfl) (pe_lst pa_nil))
      (pss_cons (ps_for PassesOwn.never rfl (pi_list (by exact (pe_ix (kix_tup (K := K)) (pv 0) pe_int (fun _ _ => rfl)))) (pg_tup (by rfl) (pgs_cons (pg_name (i := 4) sc__law_mirrored.nd rfl (Or.inl rfl)) (pgs_cons (pg_name (i := 5) sc__law_mirrored.nd rfl (Or.inl rfl)) (pgs_cons (pg_name (i := 6) sc__law_mirrored.nd rfl (Or.inl rfl)) (pgs_cons (pg_name (i := 7) sc__law_mirrored.nd rfl (Or.inl rfl)) (pgs_cons (pg_name (i := 8) sc__law_mirrored.nd rfl (Or.inl rfl)) (pgs_cons (pg_name (i := 9) sc__law_mirrored.nd rfl (Or.inl rfl)) pgs_nil))))))) (pss_one (ps_expr (pe_bm PySem.F.plainAttrs_list PySem.F.slot_list_append PySem.F.type_list_append mt_append (pv 3) (pa_cons (pe_tup (pa_cons (pv 4) (pa_cons (pe_op op_sub (pe_op op_sub (pv 1) pe_int) (pv 5)) (pa_cons (pe_dget (hu_of hr) (pv 2) (pv 6) (fun _ _ => rfl)) (pa_cons (pe_op op_sub pe_int (pv 7)) (pa_cons (pv 8) (pa_cons (pv 9) pa_nil))))))) pa_nil)))))
      (pss_one (ps_ret (pe_tup (pa_cons (pe_revL (pe_ix (kix_tup (K := K)) (pv 0) pe_int (fun _ _ => rfl))) (pa_cons (pe_op op_sub (pv 1) (pe_ix (kix_tup (K := K)) (pv 0) pe_int (fun _ _ => rfl))) (pa_cons (pv 3) pa_nil)))))))))), ?_⟩
    refine ⟨_, rfl, a, _, 0, .ref l, rfl, rfl, so.t, rfl, l, xs, rfl, .inl so.l, ?_⟩
    -- sides
    intro pd npd
    refine ⟨upd_same, [(Sum.inr ("left" : Str), .str "right"), (Sum.inr ("right" : Str), .str "left"), (Sum.inr ("any" : Str), .str "any")], rfl, by simp, ?_⟩
    have s1 : Same H (upd (upd H pd (.dK [])) pd (.dK (mergeK [] [(Sum.inr ("left" : Str), .str "right"), (Sum.inr ("right" : Str), .str "left"), (Sum.inr ("any" : Str), .str "any")]))) := Same.put (same_new npd) npd
    have gd : (upd (upd H pd (.dK [])) pd (.dK (mergeK [] [(Sum.inr ("left" : Str), .str "right"), (Sum.inr ("right" : Str), .str "left"), (Sum.inr ("any" : Str), .str "any")]))) pd = some (.dK (mergeK [] [(Sum.inr ("left" : Str), .str "right"), (Sum.inr ("right" : Str), .str "left"), (Sum.inr ("any" : Str), .str "any")])) := upd_same
    generalize upd (upd H pd (.dK [])) pd (.dK (mergeK [] [(Sum.inr ("left" : Str), .str "right"), (Sum.inr ("right" : Str), .str "left"), (Sum.inr ("any" : Str), .str "any")])) = H1 at s1 gd ⊢
    refine ⟨small (by simp), fun r nr => ?_⟩
    have A0 : Acq K H1 H1 (upd H1 r (.lst [])) r [] (dwishes ((S.wishes.take 0).map (mirW S.shelves.length))) := Acq.start (Same.refl _) (Same.refl _) nr
    refine ⟨_, rfl, a, _, 2, .ref m, rfl, rfl, Same.t (s1.trans A0.R) so.t, rfl, m, rfl, ⟨ys, Same.l (s1.trans A0.R) so.m⟩, for_list (K := K) (a := m) (xs := ys) (fun j σ H' => ∃ (B : Hp) (zs : List V) (v4 v5 v6 v7 v8 v9 : Option V), σ = [some (.ref a), some (.int (xs.length : Nat)), some (.ref pd), some (.ref r), v4, v5, v6, v7, v8, v9] ∧ Acq K H1 B H' r zs (dwishes ((S.wishes.take j).map (mirW S.shelves.length)))) ⟨H1, [], none, none, none, none, none, none, rfl, A0⟩ (fun j σ H' _ ⟨B, zs, _, _, _, _, _, _, _, A⟩ => Same.l (s1.trans (A.s.trans A.R)) so.m) ?_ ?_⟩
    · rintro j y σ H2 hy ⟨B, zs, v4, v5, v6, v7, v8, v9, rfl, A⟩
      have hj : j < S.wishes.length := by
        rw [← ly]
        exact (List.getElem?_eq_some_iff.mp hy).1
      have hx := List.getElem?_eq_getElem hj
      generalize S.wishes[j] = x at hx
      have wo := ok.ws x (List.mem_of_getElem? hx)
      obtain ⟨b, t, hb, hbT, ht⟩ := wish_get so.dy hx
      rw [hy] at hb
      cases hb
      have s2 := s1.trans (A.s.trans A.R)
      refine ⟨b, _, rfl, Same.t s2 hbT, rfl, _, _, rfl, _, _, rfl, _, _, rfl, _, _, rfl, _, _, rfl, _, _, rfl, rfl, ?_⟩
      refine ⟨_, rfl, .inl ⟨rfl, _, SqL.of A.el⟩, _, rfl, _, rfl, (xs.length : Int), 1, rfl, rfl, _, rfl, (xs.length : Int) - 1, x.shelf, rfl, rfl, ?_⟩
      have gd2 := (A.s.trans A.R) _ _ gd
      have hval : valV (mergeK [] [(Sum.inr ("left" : Str), V.str "right"), (Sum.inr ("right" : Str), V.str "left"), (Sum.inr ("any" : Str), V.str "any")]) (Sum.inr x.side) = some (.str (mirSide x.side)) := by
        rw [get3]
        unfold mirSide
        rcases wo.side with e | e | e
        · rw [e, if_neg (key_ne (fun z => n_al z.symm)), if_neg (key_ne (fun z => n_rl z.symm)), if_pos rfl, if_pos rfl]
        · rw [e, if_neg (key_ne (fun z => n_ar z.symm)), if_pos rfl, if_neg n_rl, if_pos rfl]
        · rw [e, if_pos rfl, if_neg n_al, if_neg n_ar]
      refine ⟨_, rfl, _, rfl, pd, .str (mirSide x.side), rfl, by rw [← hval]; exact DGet.k (k := Sum.inr x.side) gd2, ?_⟩
      refine ⟨_, rfl, 1, x.crew, rfl, rfl, _, rfl, _, rfl, small (by simp), fun p np => ?_⟩
      have A2 := A.grow (o := .tup [.str x.kind, .int ((xs.length : Int) - 1 - x.shelf), .str (mirSide x.side), .int (1 - x.crew), .int x.keep, .ref t]) np
      have s3 := s1.trans (A2.s.trans A2.R)
      have A3 := A2.app (v := .ref p) (d := (mirW S.shelves.length x).d) (at_wish (s := mirW S.shelves.length x) (t := t) (by
        have e : (xs.length : Int) = S.shelves.length := by rw [lx]
        rw [e]
        exact tup_new) (Same.t (s1.trans A2.s) ht))
      refine ⟨r, zs, .ref p, rfl, rfl, A2.el, ?_, upd B p (.tup [.str x.kind, .int ((xs.length : Int) - 1 - x.shelf), .str (mirSide x.side), .int (1 - x.crew), .int x.keep, .ref t]), zs ++ [.ref p], _, _, _, _, _, _, rfl, ?_⟩
      · have h := dps_len A.dx
        unfold dwishes at h
        rw [List.length_map, List.length_map, List.length_take] at h
        exact size4 (by omega)
      · have e : dwishes ((S.wishes.take (j + 1)).map (mirW S.shelves.length)) = dwishes ((S.wishes.take j).map (mirW S.shelves.length)) ++ [(mirW S.shelves.length x).d] := by
          unfold dwishes
          rw [take_snoc hx, List.map_append, List.map_append]
          rfl
        rw [e]
        exact A3
    · rintro σ H2 ⟨B, zs, v4, v5, v6, v7, v8, v9, rfl, A⟩
      rw [ly, List.take_length] at A
      obtain ⟨s2, hz, dz⟩ := A.all
      have s12 := s1.trans s2
      refine ⟨_, rfl, a, _, 0, .ref l, rfl, rfl, Same.t s12 so.t, rfl, l, xs, rfl, Same.l s12 so.l, fun p1 n1 => ?_⟩
      have s3 := same_new (o := .lst xs.reverse) n1
      refine ⟨_, rfl, _, rfl, a, _, 1, .int S.aisle, rfl, rfl, Same.t (s12.trans s3) so.t, rfl, (xs.length : Int), S.aisle, rfl, rfl, _, rfl, small (by simp), fun p2 n2 => ?_⟩
      have s4 := same_new (o := .tup [.ref p1, .int ((xs.length : Int) - S.aisle), .ref r]) n2
      refine q _ _ ((s12.trans s3).trans s4) ?_
      have e : (xs.length : Int) = S.shelves.length := by rw [lx]
      refine .tup (xs := [.ref p1, .int ((xs.length : Int) - S.aisle), .ref r]) tup_new (.cons (.lst (SqL.of (s4 _ _ upd_same)) ?_) (.cons ?_ (.cons (.lst (Same.l (s3.trans s4) hz) (dps_mono (s3.trans s4) dz)) .nil)))
      · show DpAll K _ xs.reverse (dshelves S.shelves.reverse)
        unfold dshelves
        rw [List.map_reverse]
        exact dps_rev (dps_mono ((s12.trans s3).trans s4) so.dx)
      · rw [e]
        exact .int _
def spMirState (K : PySem.W.Frag) : Sp := fun vs H Q _ => ∃ (v u : V) (S : Sto) (s : Sta), vs = [v, u] ∧ Dp K H v S.d ∧ Dp K H u s.d ∧ s.inside.length < 60 ∧ Ret K H Q (mirA S.shelves.length s).d
/-! _law_mirror_state: 0 _law_store_here, 1 _law_state, 2 _law_inside, 3 _law_crew -/
abbrev s__law_mirror_state : Stmt := topS 53
abbrev N__law_mirror_state : List Str := ["_law_store_here", "_law_state", "_law_inside", "_law_crew"]
theorem sc__law_mirror_state : FnScope N__law_mirror_state ["_law_store_here", "_law_state"] (defScope s__law_mirror_state) := ⟨rfl, rfl, rfl, by decide +kernel, rfl, by decide +kernel, by decide +kernel⟩
theorem ok__law_mirror_state {f : Addr} {fd : FuncData} (D : Dfs K mg "_law_mirror_state" s__law_mirror_state ["_law_store_here", "_law_state"] f fd) (T : Tx K mg) : Cal P w K mg base 1 "_law_mirror_state" ["_law_store_here", "_law_state"] (spMirState K) f fd := by
  refine D.cal (D.F.ok sc__law_mirror_state (fun vs H Q E h => ?_) (fun cdv A outer s H vs Q E hr h => ?_))
  · obtain ⟨v, u, S, s, rfl, _⟩ := h
    rfl
  · obtain ⟨v, u, S, st, rfl, hv, hu, li, q⟩ := h
    obtain ⟨a, l, m, xs, ys, rfl, so⟩ := sto_at hv
    obtain ⟨sa, d, i, rfl, hsa, hd, hi⟩ := sta_at hu
    have lx : xs.length = S.shelves.length := so.lx
    refine ⟨_, (pss_cons (ps_set (i := 2) sc__law_mirror_state.nd rfl (Or.inl rfl) (pe_callTy (ktuple_of (K := K)) (by rfl) T.n_tuple (by decide +kernel) (pa_cons (pe_callB (ksorted (K := K)) (by rfl) T.n_sorted (by decide +kernel) (pa_cons (pe_lc (own := [("_law_crew", 3)]) (g := gName 3) rfl sc__law_mirror_state.nd (pi_tup (by exact (pe_ix (kix_tup (K := K)) (pv 1) pe_int (fun _ _ => rfl)))) (blkOk_by (own := [("_law_crew", 3)]) (N := N__law_mirror_state) (sc := defScope s__law_mirror_state) (by decide +kernel)) (fun _ _ _ _ _ => (pg_name (i := 3) sc__law_mirror_state.nd rfl (Or.inl rfl))) (fun _ _ _ _ _ => pts_nil) (fun _ _ _ _ _ => by exact (pe_op op_sub pe_int (pv 3)))) pa_nil)) pa_nil)))
      (pss_one (ps_ret (pe_tup (pa_cons (pe_op op_sub (pe_callB (klen (K := K)) (by rfl) T.n_len (by decide +kernel) (pa_cons (pe_ix (kix_tup (K := K)) (pv 0) pe_int (fun _ _ => rfl)) pa_nil)) (pe_ix (kix_tup (K := K)) (pv 1) pe_int (fun _ _ => rfl))) (pa_cons (pe_ix (kix_tup (K := K)) (pv 1) pe_int (fun _ _ => rfl)) (pa_cons (pv 2) (pa_cons (pe_ix (kix_tup (K := K)) (pv 1) pe_int (fun _ _ => rfl)) pa_nil)))))))), ?_⟩
    refine ⟨_, rfl, sa, _, 2, .ref i, rfl, rfl, hsa, rfl, i, rfl, ⟨_, hi⟩, fun D1 nD1 => ?_⟩
    refine lc_tup (K := K) (a := i) (xs := st.inside.map V.int) (fun j H' => Same H H' ∧ H' D1 = some (.lst (((st.inside.take j).map fun c => 1 - c).map V.int))) ⟨same_new nD1, by rw [List.take_zero]; exact upd_same⟩ (fun j H' _ h => Same.t h.1 hi) ?_ ?_
    · rintro j y H2 hy ⟨s2, e2⟩
      obtain ⟨z, hz, rfl⟩ := int_item hy
      refine ⟨rfl, ?_⟩
      refine ⟨_, rfl, 1, z, rfl, rfl, _, e2, ?_, fun b o h => ?_, ?_⟩
      · have := (List.getElem?_eq_some_iff.mp hz).1
        rw [List.length_map, List.length_map, List.length_take]
        exact size4 (by omega)
      · rw [upd_ne (ne_of_none h nD1)]
        exact s2 b o h
      · rw [upd_same, take_snoc hz, List.map_append, List.map_append]
        rfl
    · rintro H2 ⟨s2, e2⟩
      rw [List.length_map, List.take_length] at e2
      refine ⟨D1, _, rfl, SqL.of e2, by rw [List.length_map]; omega, ?_⟩
      intro ms p1 pm sr n1
      have em : ms = mirIn st.inside := sortI_of pm sr
      have s3 := s2.trans (same_new (o := .lst (ms.map V.int)) n1)
      refine ⟨p1, _, rfl, .inl ⟨lst_new, fun p2 n2 => ?_⟩⟩
      have s4 := s3.trans (same_new (o := .tup (ms.map V.int)) n2)
      have h4 : SqT K (upd (upd H2 p1 (.lst (ms.map V.int))) p2 (.tup (ms.map V.int))) p2 (ms.map V.int) := tup_new
      generalize upd (upd H2 p1 (.lst (ms.map V.int))) p2 (.tup (ms.map V.int)) = H4 at s4 h4 ⊢
      refine ⟨_, rfl, a, _, 0, .ref l, rfl, rfl, Same.t s4 so.t, rfl, l, xs, rfl, .inl (Same.l s4 so.l), _, rfl, sa, _, 0, .int st.aisle, rfl, rfl, Same.t s4 hsa, rfl, (xs.length : Int), st.aisle, rfl, rfl, _, rfl, sa, _, 1, .ref d, rfl, rfl, Same.t s4 hsa, rfl, _, rfl, _, rfl, sa, _, 3, .int st.kept, rfl, rfl, Same.t s4 hsa, rfl, small (by simp), fun p3 n3 => ?_⟩
      have s5 := same_new (o := .tup [.int ((xs.length : Int) - st.aisle), .ref d, .ref p2, .int st.kept]) n3
      refine q _ _ (s4.trans s5) ?_
      rw [em] at h4
      have e : (xs.length : Int) = S.shelves.length := by rw [lx]
      refine at_sta (s := mirA S.shelves.length st) (d := d) (i := p2) ?_ (Same.t (s4.trans s5) hd) (Same.t s5 h4)
      rw [e]
      exact tup_new
def spMirStep (K : PySem.W.Frag) : Sp := fun vs H Q _ => ∃ (v : V) (t : Stp), vs = [v] ∧ Dp K H v t.d ∧ Ret K H Q (mirT t).d
/-! _law_mirror_step: 0 _law_step -/
abbrev s__law_mirror_step : Stmt := topS 54
abbrev N__law_mirror_step : List Str := ["_law_step"]
theorem sc__law_mirror_step : FnScope N__law_mirror_step ["_law_step"] (defScope s__law_mirror_step) := ⟨rfl, rfl, rfl, by decide +kernel, rfl, by decide +kernel, by decide +kernel⟩
theorem ok__law_mirror_step {f : Addr} {fd : FuncData} (D : Dfs K mg "_law_mirror_step" s__law_mirror_step ["_law_step"] f fd) (T : Tx K mg) : Cal P w K mg base 1 "_law_mirror_step" ["_law_step"] (spMirStep K) f fd := by
  refine D.cal (D.F.ok sc__law_mirror_step (fun vs H Q E h => ?_) (fun cdv A outer s H vs Q E hr h => ?_))
  · obtain ⟨v, t, rfl, _⟩ := h
    rfl
  · obtain ⟨v, t, rfl, hv, q⟩ := h
    have w1 : ¬ (("wait" : Str) = "shift") ∧ ¬ (("in" : Str) = "shift") ∧ ¬ (("out" : Str) = "shift") ∧ ¬ (("do" : Str) = "shift") := by decide +kernel
    have w2 : (("wait" : Str) ∉ [("in" : Str), "out"]) ∧ (("do" : Str) ∉ [("in" : Str), "out"]) := by decide +kernel
    have inn : ∀ {x : Str} {A B : Prop}, x ∈ [("in" : Str), "out"] → A → if (if false = true then !inV (V.str x) [V.str "in", V.str "out"] else inV (V.str x) [V.str "in", V.str "out"]) = true then A else B := fun {x A B} h a => by
      have : inV (V.str x) ([("in" : Str), "out"].map V.str) = true := inV_strs.mpr h
      rw [if_neg Bool.false_ne_true]
      exact (if_pos this).mpr a
    have nin : ∀ {x : Str} {A B : Prop}, x ∉ [("in" : Str), "out"] → B → if (if false = true then !inV (V.str x) [V.str "in", V.str "out"] else inV (V.str x) [V.str "in", V.str "out"]) = true then A else B := fun {x A B} h b => by
      have : ¬ inV (V.str x) ([("in" : Str), "out"].map V.str) = true := fun z => h (inV_strs.mp z)
      rw [if_neg Bool.false_ne_true]
      exact (if_neg this).mpr b
    refine ⟨_, (pss_cons (ps_if (pt_cmpR op_eq (pe_ix (kix_tup (K := K)) (pv 0) pe_int (fun _ _ => rfl)) pe_str (nomark _)) (pss_one (ps_ret (pe_tup (pa_cons pe_str (pa_cons (pe_op op_sub pe_int (pe_ix (kix_tup (K := K)) (pv 0) pe_int (fun _ _ => rfl))) pa_nil))))) pss_nil)
      (pss_cons (ps_if (pt_cmpR (kin_seq (K := K)) (pe_ix (kix_tup (K := K)) (pv 0) pe_int (fun _ _ => rfl)) (pe_tup (pa_cons pe_str (pa_cons pe_str pa_nil))) (by rfl)) (pss_one (ps_ret (pe_tup (pa_cons (pe_ix (kix_tup (K := K)) (pv 0) pe_int (fun _ _ => rfl)) (pa_cons (pe_op op_sub pe_int (pe_ix (kix_tup (K := K)) (pv 0) pe_int (fun _ _ => rfl))) pa_nil))))) pss_nil)
      (pss_one (ps_ret (pv 0))))), ?_⟩
    cases t with
    | wait =>
      obtain ⟨a, rfl, ha⟩ := dp_one hv
      refine ⟨_, rfl, a, _, 0, .str "wait", rfl, rfl, ha, rfl, rfl, _, rfl, itF (sne w1.1) ?_⟩
      refine ⟨_, rfl, a, _, 0, .str "wait", rfl, rfl, ha, rfl, small (by simp), fun p np => ?_⟩
      refine ⟨p, _, rfl, .inr tup_new, rfl, rfl, _, rfl, nin w2.1 ?_⟩
      exact ⟨_, rfl, q _ _ (same_new np) (dp_mono (same_new np) hv)⟩
    | shift b =>
      obtain ⟨a, rfl, ha⟩ := dp_two hv
      refine ⟨_, rfl, a, _, 0, .str "shift", rfl, rfl, ha, rfl, rfl, _, rfl, itD rfl ?_⟩
      refine ⟨_, rfl, a, _, 1, .int b, rfl, rfl, ha, rfl, 0, b, rfl, rfl, small (by simp), fun p np => ?_⟩
      exact q _ _ (same_new np) (two_dp tup_new)
    | cin c =>
      obtain ⟨a, rfl, ha⟩ := dp_two hv
      refine ⟨_, rfl, a, _, 0, .str "in", rfl, rfl, ha, rfl, rfl, _, rfl, itF (sne w1.2.1) ?_⟩
      refine ⟨_, rfl, a, _, 0, .str "in", rfl, rfl, ha, rfl, small (by simp), fun p np => ?_⟩
      refine ⟨p, _, rfl, .inr tup_new, rfl, rfl, _, rfl, inn (by simp) ?_⟩
      have s1 := same_new (o := .tup [.str "in", .str "out"]) np
      refine ⟨_, rfl, a, _, 0, .str "in", rfl, rfl, Same.t s1 ha, rfl, _, rfl, a, _, 1, .int c, rfl, rfl, Same.t s1 ha, rfl, 1, c, rfl, rfl, small (by simp), fun p2 n2 => ?_⟩
      exact q _ _ (s1.trans (same_new n2)) (two_dp tup_new)
    | cout c =>
      obtain ⟨a, rfl, ha⟩ := dp_two hv
      refine ⟨_, rfl, a, _, 0, .str "out", rfl, rfl, ha, rfl, rfl, _, rfl, itF (sne w1.2.2.1) ?_⟩
      refine ⟨_, rfl, a, _, 0, .str "out", rfl, rfl, ha, rfl, small (by simp), fun p np => ?_⟩
      refine ⟨p, _, rfl, .inr tup_new, rfl, rfl, _, rfl, inn (by simp) ?_⟩
      have s1 := same_new (o := .tup [.str "in", .str "out"]) np
      refine ⟨_, rfl, a, _, 0, .str "out", rfl, rfl, Same.t s1 ha, rfl, _, rfl, a, _, 1, .int c, rfl, rfl, Same.t s1 ha, rfl, 1, c, rfl, rfl, small (by simp), fun p2 n2 => ?_⟩
      exact q _ _ (s1.trans (same_new n2)) (two_dp tup_new)
    | wish n =>
      obtain ⟨a, rfl, ha⟩ := dp_two hv
      refine ⟨_, rfl, a, _, 0, .str "do", rfl, rfl, ha, rfl, rfl, _, rfl, itF (sne w1.2.2.2) ?_⟩
      refine ⟨_, rfl, a, _, 0, .str "do", rfl, rfl, ha, rfl, small (by simp), fun p np => ?_⟩
      refine ⟨p, _, rfl, .inr tup_new, rfl, rfl, _, rfl, nin w2.2 ?_⟩
      exact ⟨_, rfl, q _ _ (same_new np) (dp_mono (same_new np) hv)⟩
end

theorem strOk_of (x : String) : PyData.strOk (Str.ofString x) = true := by
  unfold PyData.strOk
  rw [← Array.all_toList]
  refine List.all_eq_true.mpr fun c hc => decide_eq_true ?_
  have hc : c ∈ TL.tl (Str.ofString x) := hc
  rw [TL.tl_ofString, List.mem_map] at hc
  obtain ⟨a, _, rfl⟩ := hc
  have h := a.valid
  have : a.toNat = a.val.toNat := rfl
  rcases h with h | h <;> omega
theorem strOk_num (n : Num) : PyData.strOk (numT n) = true := by
  cases n with
  | none => decide +kernel
  | some i => exact strOk_of _
theorem told_lay (e : Sta × Num) : Lay 3 (toldD e) := Lays.tup (n := 2) (Lays.cons e.1.lay (Lays.cons (lay_str (strOk_num _)) lays_nil))
theorem told_one {p p' : List (Sta × Num)} {ds es : List PyData} (h : p.Perm p') (d1 : ds.Perm (p.map toldD)) (e1 : es.Perm (p'.map toldD)) (d2 : ds.Pairwise fun x y => PySem.W.dataLt y x = false) (e2 : es.Pairwise fun x y => PySem.W.dataLt y x = false) : ds = es := by
  refine List.Perm.eq_of_pairwise (fun a b ha hb h1 h2 => ?_) d2 e2 (d1.trans ((h.map toldD).trans e1.symm))
  obtain ⟨x, _, rfl⟩ := List.mem_map.mp (d1.mem_iff.mp ha)
  obtain ⟨y, _, rfl⟩ := List.mem_map.mp (e1.mem_iff.mp hb)
  exact told_anti h1 h2
theorem told_lays {p : List (Sta × Num)} {ds : List PyData} (h : ds.Perm (p.map toldD)) : Lay 4 (.list ds) := (Lays.all fun d hd => by
  obtain ⟨x, _, rfl⟩ := List.mem_map.mp (h.mem_iff.mp hd)
  exact told_lay x).lst
theorem log_few {i : Int} (h0 : 0 ≤ i) (h1 : i ≤ 4000) : i.natAbs.log2 < 1920 := by
  have h : i.natAbs ≤ 4000 := by omega
  by_cases z : i.natAbs = 0
  · rw [z]; decide
  · have h2 : i.natAbs.log2 < 12 := (Nat.log2_lt z).mpr (by omega)
    omega
section
variable {P : Program} {w : World} {K : PySem.W.Frag} {mg : Str → Option Value} {base : Heap}
def spAsTold (K : PySem.W.Frag) : Sp := fun vs H Q _ => ∃ (a : Addr) (us : List V) (p : List (Sta × Num)), vs = [.ref a] ∧ SqL K H a us ∧ DpAll K H us (dpaps p) ∧ (∀ e ∈ p, ∀ i, e.2 = some i → 0 ≤ i ∧ i ≤ 4000) ∧ p.length ≤ 3900 ∧
  ∀ q zs ds H', Same H H' → H' q = some (.lst zs) → DpAll K H' zs ds → ds.Perm (p.map toldD) → ds.Pairwise (fun x y => PySem.W.dataLt y x = false) → Q (.ref q) H'
/-! _law_as_told: 0 _law_paper, 1 _law_here, 2 _law_number -/
abbrev s__law_as_told : Stmt := topS 55
abbrev N__law_as_told : List Str := ["_law_paper", "_law_here", "_law_number"]
theorem sc__law_as_told : FnScope N__law_as_told ["_law_paper"] (defScope s__law_as_told) := ⟨rfl, rfl, rfl, by decide +kernel, rfl, by decide +kernel, by decide +kernel⟩
theorem ok__law_as_told {f : Addr} {fd : FuncData} (D : Dfs K mg "_law_as_told" s__law_as_told ["_law_paper"] f fd) (T : Tx K mg) : Cal P w K mg base 1 "_law_as_told" ["_law_paper"] (spAsTold K) f fd := by
  refine D.cal (D.F.ok sc__law_as_told (fun vs H Q E h => ?_) (fun cdv A outer s H vs Q E hr h => ?_))
  · obtain ⟨a, us, p, rfl, _⟩ := h
    rfl
  · obtain ⟨a, us, p, rfl, ha, du, nb, lp, q⟩ := h
    refine ⟨_, (pss_one (ps_ret (pe_callB (cr_sortD (K := K) rfl (hu20 hr)) (by rfl) T.n_sorted (by decide +kernel) (pa_cons (pe_lc (own := [("_law_here", 1), ("_law_number", 2)]) (g := gTup K 2 (gCons (gName 1) (gCons (gName 2) gNil))) rfl sc__law_as_told.nd (pi_list (pv 0)) (blkOk_by (own := [("_law_here", 1), ("_law_number", 2)]) (N := N__law_as_told) (sc := defScope s__law_as_told) (by decide +kernel)) (fun _ _ _ _ _ => (kpg_tup (K := K) (by rfl) (pgs_cons (pg_name (i := 1) sc__law_as_told.nd rfl (Or.inl rfl)) (pgs_cons (pg_name (i := 2) sc__law_as_told.nd rfl (Or.inl rfl)) pgs_nil)))) (fun _ _ _ _ _ => pts_nil) (fun _ _ _ _ _ => by exact (pe_tup (pa_cons (pv 1) (pa_cons (pe_callTy call_strN (by rfl) T.n_str (by decide +kernel) (pa_cons (pv 2) pa_nil)) pa_nil))))) pa_nil)))), ?_⟩
    have lu : us.length = p.length := (dps_len du).trans (List.length_map ..)
    refine ⟨_, rfl, a, rfl, ⟨us, ha⟩, fun D1 nD1 => ?_⟩
    refine lc_list (K := K) (a := a) (xs := us) (fun j H' => ∃ zs, AcqM K [] H H' D1 zs ((p.take j).map toldD)) ⟨[], AcqM.start nD1⟩ (fun j H' _ ⟨_, A⟩ => Same.l A.same ha) ?_ ?_
    · rintro j y H2 hy ⟨zs, A⟩
      obtain ⟨d, hd, dy⟩ := dps_of_get du hy
      obtain ⟨x, hx, rfl⟩ := pap_item hd
      obtain ⟨ax, bx, ux, rfl, h1, h2, h3⟩ := pap_at dy
      refine ⟨ax, _, rfl, Same.t A.same h1, rfl, _, _, rfl, _, _, rfl, rfl, rfl, ?_⟩
      dsimp only [tYes]
      rw [if_pos rfl]
      have hj := (List.getElem?_eq_some_iff.mp hx).1
      have fin : ∀ (pt : Addr), H2 pt = none → ∃ acc, (upd H2 pt (.tup [.ref bx, .str (numT x.2)])) D1 = some (.lst acc) ∧ acc.length < sizeLine ∧ ∃ zs, AcqM K [] H (upd (upd H2 pt (.tup [.ref bx, .str (numT x.2)])) D1 (.lst (acc ++ [.ref pt]))) D1 zs ((p.take (j + 1)).map toldD) := fun pt npt => by
        have st := same_new (o := .tup [.ref bx, .str (numT x.2)]) npt
        have A3 := A.pure st
        have n1 : pt ≠ D1 := fun z => by rw [z, A.el] at npt; cases npt
        refine ⟨zs, A3.el, ?_, zs ++ [.ref pt], ?_⟩
        · have h := dps_len A.dx
          rw [List.length_map, List.length_take] at h
          exact size4 (by omega)
        · rw [take_snoc hx, List.map_append]
          refine A3.app (.tup (SqT.of (by rw [imm_at (by simp [n1])]; exact upd_same)) (.cons ?_ (.cons (.str _) .nil)))
          exact dp_imm (A3.mu (fun b hb => nomatch hb)).no (dp_mono (A.same.trans st) h2) (noL_sta _)
      refine ⟨_, rfl, _, rfl, ?_⟩
      cases hn : x.2 with
      | none =>
        rw [hn] at h3 fin
        rw [dp_none h3]
        refine .inl ⟨rfl, small (by simp), fun pt npt => ?_⟩
        exact fin pt npt
      | some i =>
        rw [hn] at h3 fin
        rw [dp_int h3]
        obtain ⟨i0, i1⟩ := nb x (List.mem_of_getElem? hx) i hn
        refine .inr ⟨i, rfl, log_few i0 i1, small (by simp), fun pt npt => ?_⟩
        exact fin pt npt
    · rintro H2 ⟨zs, A⟩
      rw [lu, List.take_length] at A
      have dz := dps_mono imm_sub A.dx
      refine ⟨D1, zs, _, rfl, SqL.of A.el, dz, ?_, ?_, ?_, fun q2 zs2 ds2 n2 d2 pm so => ?_⟩
      · exact PySem.W.AllAlike.of told_alike
      · exact PySem.W.Sortable.tuples fun b => ⟨_, _, rfl⟩
      · intro d hd
        obtain ⟨x, _, rfl⟩ := List.mem_map.mp hd
        exact Nat.le_trans (told_lay x).2 (by decide)
      · exact q q2 zs2 ds2 _ (A.same.trans (same_new n2)) upd_same (dps_mono (same_new n2) d2) pm so
end

/-! ## the wishes in another order: an order as a list -/
theorem nodup_get {α : Type} {l : List α} (nd : l.Nodup) {i j : Nat} {a : α} (h1 : l[i]? = some a) (h2 : l[j]? = some a) : i = j := by
  obtain ⟨a1, b1⟩ := List.getElem?_eq_some_iff.mp h1
  obtain ⟨a2, b2⟩ := List.getElem?_eq_some_iff.mp h2
  have h := List.pairwise_iff_getElem.mp nd
  rcases Nat.lt_trichotomy i j with e | e | e
  · exact absurd (b1.trans b2.symm) (h i j a1 a2 e)
  · exact e
  · exact absurd (b2.trans b1.symm) (h j i a2 a1 e)
structure OrdOk (m : Nat) (ord : List Int) : Prop where
  len : ord.length = m
  nd : ord.Nodup
  rg : ∀ i ∈ ord, 0 ≤ i ∧ i < m
def posI (ord : List Int) (i : Int) : Int := (ord.idxOf i : Nat)
def atO (ord : List Int) (j : Int) : Int := ord.getD j.toNat 0
def wishAt (S : Sto) (i : Int) : Wish := (S.wishes[i.toNat]?).getD ⟨"", 0, "", 0, 0, []⟩
def ordS (S : Sto) (ord : List Int) : Sto := ⟨S.shelves, S.aisle, ord.map fun i => renW (posI ord) (wishAt S i)⟩
theorem OrdOk.all {m : Nat} {ord : List Int} (O : OrdOk m ord) {i : Int} (h0 : 0 ≤ i) (h1 : i < m) : i ∈ ord := by
  refine Classical.byContradiction fun hn => ?_
  have nd : (i :: ord).Nodup := List.nodup_cons.mpr ⟨hn, O.nd⟩
  have := nodup_len (l := i :: ord) (u := (List.range m).map fun k : Nat => (k : Int)) nd fun x hx => by
    have hx' : 0 ≤ x ∧ x < m := by
      rcases List.mem_cons.mp hx with rfl | hx
      · exact ⟨h0, h1⟩
      · exact O.rg x hx
    exact List.mem_map.mpr ⟨x.toNat, List.mem_range.mpr (by omega), by omega⟩
  rw [List.length_cons, O.len, List.length_map, List.length_range] at this
  omega
theorem OrdOk.pos {m : Nat} {ord : List Int} (O : OrdOk m ord) {i : Int} (h : i ∈ ord) : 0 ≤ posI ord i ∧ posI ord i < m ∧ ord[(posI ord i).toNat]? = some i := by
  have h1 : ord.idxOf i < ord.length := List.idxOf_lt_length_of_mem h
  have h2 : ord[ord.idxOf i]'h1 = i := List.getElem_idxOf h1
  have hl := O.len
  unfold posI
  refine ⟨by omega, by omega, ?_⟩
  rw [Int.toNat_natCast, List.getElem?_eq_getElem h1, h2]
theorem ord_perm {m : Nat} {ord : List Int} (O : OrdOk m ord) : PermOn m (posI ord) (atO ord) := by
  refine ⟨fun i h0 h1 => ?_, fun j h0 h1 => ?_⟩
  · obtain ⟨p0, p1, p2⟩ := O.pos (O.all h0 h1)
    refine ⟨p0, p1, ?_⟩
    unfold atO
    rw [List.getD_eq_getElem?_getD, p2]
    rfl
  · have hl := O.len
    have hj : j.toNat < ord.length := by omega
    have e : atO ord j = ord[j.toNat] := by
      unfold atO
      rw [List.getD_eq_getElem?_getD, List.getElem?_eq_getElem hj]
      rfl
    have hm : ord[j.toNat] ∈ ord := List.getElem_mem hj
    obtain ⟨r0, r1⟩ := O.rg _ hm
    rw [e]
    refine ⟨r0, r1, ?_⟩
    obtain ⟨p0, p1, p2⟩ := O.pos hm
    have := nodup_get O.nd p2 (List.getElem?_eq_getElem hj)
    omega
theorem ord_ren {S : Sto} {ord : List Int} (O : OrdOk S.wishes.length ord) : Ren S (ordS S ord) (posI ord) (atO ord) := by
  refine ⟨rfl, rfl, by show (ord.map _).length = _; rw [List.length_map, O.len], ord_perm O, fun i x h0 h1 hx => ?_⟩
  obtain ⟨p0, p1, p2⟩ := O.pos (O.all h0 h1)
  show (ord.map _)[_]? = _
  rw [List.getElem?_map, p2]
  have e : wishAt S i = x := by
    unfold wishAt
    rw [hx]
    rfl
  show some (renW (posI ord) (wishAt S i)) = _
  rw [e]
/-- order.index(z) -/
theorem index_at {K : PySem.W.Frag} {H : Hp} {Q : VK} {o : Addr} {m : Nat} {ord : List Int} (O : OrdOk m ord) (ho : SqL K H o (ord.map V.int)) {z : Int} (hz : z ∈ ord) (q : Q (.int (posI ord z)) H) : rIndex K (.ref o) [.int z] H Q := by
  obtain ⟨p0, p1, p2⟩ := O.pos hz
  refine ⟨o, ord.map V.int, .int z, ord.idxOf z, .int z, rfl, rfl, ho, rfl, flat_ints ord, ?_, decide_eq_true rfl, fun k z' hk hz' => ?_, q⟩
  · rw [List.getElem?_map]
    have : ord[ord.idxOf z]? = some z := p2
    rw [this]
    rfl
  · obtain ⟨y, hy, rfl⟩ := int_item hz'
    refine decide_eq_false fun e => ?_
    obtain rfl : y = z := e
    have p2 : ord[ord.idxOf y]? = some y := p2
    have := nodup_get O.nd hy p2
    omega
section
variable {P : Program} {w : World} {K : PySem.W.Frag} {mg : Str → Option Value} {base : Heap}
def spOrdered (K : PySem.W.Frag) : Sp := fun vs H Q _ => ∃ (v : V) (o : Addr) (S : Sto) (ord : List Int), vs = [v, .ref o] ∧ Dp K H v S.d ∧ StoOk S ∧ SqL K H o (ord.map V.int) ∧ OrdOk S.wishes.length ord ∧ Ret K H Q (ordS S ord).d
/-! _law_ordered: 0 _law_store_here, 1 _law_order, 2 _law_wishes, 3 _law_number, 4 _law_wish_here, 5 _law_one -/
abbrev s__law_ordered : Stmt := topS 56
abbrev N__law_ordered : List Str := ["_law_store_here", "_law_order", "_law_wishes", "_law_number", "_law_wish_here", "_law_one"]
theorem sc__law_ordered : FnScope N__law_ordered ["_law_store_here", "_law_order"] (defScope s__law_ordered) := ⟨rfl, rfl, rfl, by decide +kernel, rfl, by decide +kernel, by decide +kernel⟩
theorem ok__law_ordered {f : Addr} {fd : FuncData} (D : Dfs K mg "_law_ordered" s__law_ordered ["_law_store_here", "_law_order"] f fd) (T : Tx K mg) : Cal P w K mg base 1 "_law_ordered" ["_law_store_here", "_law_order"] (spOrdered K) f fd := by
  refine D.cal (D.F.ok sc__law_ordered (fun vs H Q E h => ?_) (fun cdv A outer s H vs Q E hr h => ?_))
  · obtain ⟨v, o, S, ord, rfl, _⟩ := h
    rfl
  · obtain ⟨v, o, S, ord, rfl, hv, ok, ho, O, q⟩ := h
    obtain ⟨a, l, m, xs, ys, rfl, so⟩ := sto_at hv
    have w5 := ok.w5
    have lo := O.len
    refine ⟨_, (pss_cons (ps_set (i := 2) sc__law_ordered.nd rfl (Or.inl rfl) (pe_lst pa_nil))
      (pss_cons (ps_for PassesOwn.never rfl (pi_list (pv 1)) (pg_name (i := 3) sc__law_ordered.nd rfl (Or.inl rfl)) (pss_cons (ps_set (i := 4) sc__law_ordered.nd rfl (Or.inl rfl) (pe_ix (kix_list (K := K)) (pe_ix (kix_tup (K := K)) (pv 0) pe_int (fun _ _ => rfl)) (pv 3) (fun _ _ => rfl)))
      (pss_one (ps_expr (pe_bm PySem.F.plainAttrs_list PySem.F.slot_list_append PySem.F.type_list_append mt_append (pv 2) (pa_cons (pe_op (kcatA (K := K)) (pe_slice (ksl_tup (K := K)) (pv 4) po_none (po_some pe_int)) (pe_tup (pa_cons (pe_callTy (ktuple_of (K := K)) (by rfl) T.n_tuple (by decide +kernel) (pa_cons (pe_callB (ksorted (K := K)) (by rfl) T.n_sorted (by decide +kernel) (pa_cons (pe_lc (own := [("_law_one", 5)]) (g := gName 5) rfl sc__law_ordered.nd (pi_tup (by exact (pe_ix (kix_tup (K := K)) (pv 4) pe_int (fun _ _ => rfl)))) (blkOk_by (own := [("_law_one", 5)]) (N := N__law_ordered) (sc := defScope s__law_ordered) (by decide +kernel)) (fun _ _ _ _ _ => (pg_name (i := 5) sc__law_ordered.nd rfl (Or.inl rfl))) (fun _ _ _ _ _ => pts_nil) (fun _ _ _ _ _ => by exact (kpe_bm (K := K) PySem.F.plainAttrs_list PySem.F.slot_list_index PySem.F.type_list_index (kindex (K := K)) (pv 1) (pa_cons (pv 5) pa_nil)))) pa_nil)) pa_nil)) pa_nil))) pa_nil))))))
      (pss_one (ps_ret (pe_tup (pa_cons (pe_ix (kix_tup (K := K)) (pv 0) pe_int (fun _ _ => rfl)) (pa_cons (pe_ix (kix_tup (K := K)) (pv 0) pe_int (fun _ _ => rfl)) (pa_cons (pv 2) pa_nil)))))))), ?_⟩
    refine ⟨small (by simp), fun r nr => ?_⟩
    have A0 : Acq K H H (upd H r (.lst [])) r [] (dwishes ((ord.take 0).map fun i => renW (posI ord) (wishAt S i))) := Acq.start (Same.refl _) (Same.refl _) nr
    refine ⟨_, rfl, o, rfl, ⟨_, Same.l A0.R ho⟩, for_list (K := K) (a := o) (xs := ord.map V.int) (fun j σ H' => ∃ (B : Hp) (zs : List V) (v3 v4 v5 : Option V), σ = [some (.ref a), some (.ref o), some (.ref r), v3, v4, v5] ∧ Acq K H B H' r zs (dwishes ((ord.take j).map fun i => renW (posI ord) (wishAt S i)))) ⟨H, [], none, none, none, rfl, A0⟩ (fun j σ H' _ ⟨B, zs, _, _, _, _, A⟩ => Same.l (A.s.trans A.R) ho) ?_ ?_⟩
    · rintro j y σ H2 hy ⟨B, zs, v3, v4, v5, rfl, A⟩
      obtain ⟨i, hi, rfl⟩ := int_item hy
      have hj := (List.getElem?_eq_some_iff.mp hi).1
      obtain ⟨i0, i1⟩ := O.rg i (List.mem_of_getElem? hi)
      obtain ⟨x, hx, hm⟩ := wish_at_k i0 i1
      have wo := ok.ws x hm
      obtain ⟨b, t, hb, hbT, ht⟩ := wish_get so.dy hx
      have s2 := A.s.trans A.R
      have so2 := so.mono s2
      refine ⟨_, rfl, a, _, 2, .ref m, rfl, rfl, so2.t, rfl, _, rfl, m, ys, i, .ref b, rfl, rfl, so2.m, at_of (j := i.toNat) (by omega) hb, ?_⟩
      refine ⟨_, rfl, .inl ⟨rfl, _, SqL.of A.el⟩, _, rfl, 5, rfl, b, _, rfl, Same.t s2 hbT, by simp [HT.sIx], fun p1 n1 => ?_⟩
      have s3 := s2.trans (same_new (o := .tup (cutV [V.str x.kind, .int x.shelf, .str x.side, .int x.crew, .int x.keep, .ref t] none (some 5))) n1)
      have A3 := A.grow (o := .tup (cutV [V.str x.kind, .int x.shelf, .str x.side, .int x.crew, .int x.keep, .ref t] none (some 5))) n1
      have h1 : SqT K (upd H2 p1 (.tup (cutV [V.str x.kind, .int x.shelf, .str x.side, .int x.crew, .int x.keep, .ref t] none (some 5)))) p1 [.str x.kind, .int x.shelf, .str x.side, .int x.crew, .int x.keep] := tup_new
      generalize upd H2 p1 (.tup (cutV [V.str x.kind, .int x.shelf, .str x.side, .int x.crew, .int x.keep, .ref t] none (some 5))) = H3 at s3 A3 h1 ⊢
      generalize upd B p1 (.tup (cutV [V.str x.kind, .int x.shelf, .str x.side, .int x.crew, .int x.keep, .ref t] none (some 5))) = B3 at A3
      have hbT3 := Same.t s3 hbT
      have ht3 := Same.t s3 ht
      refine ⟨_, rfl, b, _, 5, .ref t, rfl, rfl, hbT3, rfl, t, rfl, ⟨_, ht3⟩, fun D1 nD1 => ?_⟩
      have laf : x.after.length ≤ 5 := by
        have := wo.after.len
        omega
      refine lc_tup (K := K) (a := t) (xs := x.after.map V.int) (fun k H' => Same H3 H' ∧ H' D1 = some (.lst (((x.after.take k).map (posI ord)).map V.int))) ⟨same_new nD1, by rw [List.take_zero]; exact upd_same⟩ (fun k H' _ h => Same.t h.1 ht3) ?_ ?_
      · rintro k y H4 hy ⟨s4, e4⟩
        obtain ⟨z, hz, rfl⟩ := int_item hy
        have hz' := wo.after.mem (List.mem_of_getElem? hz)
        refine ⟨rfl, ?_⟩
        dsimp only [tYes]
        rw [if_pos rfl]
        have ho4 := Same.l (s3.trans s4) ho
        refine ⟨_, rfl, .inl ⟨rfl, _, ho4⟩, _, rfl, ?_⟩
        dsimp only [tNil]
        refine index_at O ho4 (O.all hz'.1 hz'.2) ⟨_, e4, ?_, fun b o h => ?_, ?_⟩
        · rw [List.length_map, List.length_map, List.length_take]
          exact size4 (by omega)
        · rw [upd_ne (ne_of_none h nD1)]
          exact s4 b o h
        · rw [upd_same, take_snoc hz, List.map_append, List.map_append]
          rfl
      · rintro H4 ⟨s4, e4⟩
        rw [List.length_map, List.take_length] at e4
        refine ⟨D1, _, rfl, SqL.of e4, by rw [List.length_map]; omega, fun ms p2 pm sr n2 => ?_⟩
        have em : ms = renL (posI ord) x.after := sortI_of pm sr
        subst em
        have t5 := same_new (o := .lst ((renL (posI ord) x.after).map V.int)) n2
        refine ⟨p2, _, rfl, .inl ⟨lst_new, fun p3 n3 => ?_⟩⟩
        have t6 := same_new (o := .tup ((renL (posI ord) x.after).map V.int)) n3
        have e6 : SqT K (upd (upd H4 p2 (.lst ((renL (posI ord) x.after).map V.int))) p3 (.tup ((renL (posI ord) x.after).map V.int))) p3 ((renL (posI ord) x.after).map V.int) := tup_new
        have s46 := s4.trans (t5.trans t6)
        generalize upd (upd H4 p2 (.lst ((renL (posI ord) x.after).map V.int))) p3 (.tup ((renL (posI ord) x.after).map V.int)) = H6 at e6 s46 ⊢
        refine ⟨small (by simp), fun p4 n4 => ?_⟩
        have t7 := same_new (o := .tup [.ref p3]) n4
        refine ⟨p1, p4, _, _, rfl, rfl, Same.t (s46.trans t7) h1, tup_new, small (by simp), fun z => (by cases z), fun _ z => (by cases z), fun _ _ p5 n5 => ?_⟩
        have t8 := same_new (o := .tup ([V.str x.kind, .int x.shelf, .str x.side, .int x.crew, .int x.keep] ++ [.ref p3])) n5
        have s38 := s46.trans (t7.trans t8)
        have e8 : SqT K (upd (upd H6 p4 (.tup [.ref p3])) p5 (.tup ([V.str x.kind, .int x.shelf, .str x.side, .int x.crew, .int x.keep] ++ [.ref p3]))) p5 [V.str x.kind, .int x.shelf, .str x.side, .int x.crew, .int x.keep, .ref p3] := tup_new
        have e68 := Same.t (t7.trans t8) e6
        generalize upd (upd H6 p4 (.tup [.ref p3])) p5 (.tup ([V.str x.kind, .int x.shelf, .str x.side, .int x.crew, .int x.keep] ++ [.ref p3])) = H8 at s38 e8 e68 ⊢
        have A8 := A3.pure s38
        have d8 := dp_del A8.el (at_wish (s := renW (posI ord) x) e8 e68) (by
          have h := noL_wishes [renW (posI ord) x]
          have h' : (noL (renW (posI ord) x).d && true) = true := h
          rwa [Bool.and_true] at h')
        refine ⟨r, zs, .ref p5, rfl, rfl, A8.el, ?_, del1 H8 r, zs ++ [.ref p5], _, _, _, rfl, ?_⟩
        · have h := dps_len A.dx
          unfold dwishes at h
          rw [List.length_map, List.length_map, List.length_take] at h
          exact size4 (by omega)
        · have ew : wishAt S i = x := by
            unfold wishAt
            rw [hx]
            rfl
          have e : dwishes ((ord.take (j + 1)).map fun i => renW (posI ord) (wishAt S i)) = dwishes ((ord.take j).map fun i => renW (posI ord) (wishAt S i)) ++ [(renW (posI ord) x).d] := by
            unfold dwishes
            rw [take_snoc hi, List.map_append, List.map_append, List.map_cons, ew]
            rfl
          rw [e]
          exact A8.app d8
    · rintro σ H2 ⟨B, zs, v3, v4, v5, rfl, A⟩
      rw [List.length_map, List.take_length] at A
      obtain ⟨s2, hz, dz⟩ := A.all
      refine ⟨_, rfl, a, _, 0, .ref l, rfl, rfl, Same.t s2 so.t, rfl, _, rfl, a, _, 1, .int S.aisle, rfl, rfl, Same.t s2 so.t, rfl, _, rfl, small (by simp), fun p2 n2 => ?_⟩
      have s4 := same_new (o := .tup [.ref l, .int S.aisle, .ref r]) n2
      exact q _ _ (s2.trans s4) (.tup (xs := [.ref l, .int S.aisle, .ref r]) tup_new (.cons (.lst (Same.l (s2.trans s4) so.l) (dps_mono (s2.trans s4) so.dx)) (.cons (.int _) (.cons (.lst (Same.l s4 hz) (dps_mono s4 dz)) .nil))))
end

theorem noL_papsT : ∀ p : List (Sta × Num), noLs (dpaps p) = true
  | [] => rfl
  | x :: p => by
    show ((noL x.1.d && (noL (dnum x.2) && true)) && noLs (dpaps p)) = true
    rw [noL_sta, nodot, noL_papsT p]
    rfl
theorem last_play {S : Sto} : ∀ {s : Sta} {ts : List Stp}, (playS S s ts)[ts.length]? = some (runS S s ts)
  | s, [] => rfl
  | s, t :: r => last_play (S := S) (s := behindS S s t) (ts := r)
theorem atI_end {xs : List V} {v : V} (h : xs[xs.length - 1]? = some v) : atI xs (-1) = some v := by
  have hne : xs ≠ [] := fun z => by rw [z] at h; cases h
  have e : xs = xs.dropLast ++ [v] := by
    rw [← List.getLast?_eq_getElem?, List.getLast?_eq_some_getLast hne] at h
    rw [← Option.some.inj h]
    exact (List.dropLast_concat_getLast hne).symm
  rw [e]
  exact atI_last _ _
/-! ## what is told, at hand, and its plan -/
structure Told2 (K : PySem.W.Frag) (B : Hp) (t : Addr) (S : Sto) (q2 : Addr) (ys : List V) (vis l : List Sta) (vv : Val) (xs : List V) : Prop where
  t : SqT K B t xs
  q : B q2 = some (.lst ys)
  y : DpAll K B ys (dpaps (papOf vv l))
  pl : l.Perm vis
  fo : Found S (sta0 S) vis vis.length
  cs : Costs S vis vv
  w : (xs = [.str "none", .ref q2] ∧ vv (sta0 S) = none) ∨ ∃ (q1 : Addr) (zs : List V) (ts : List Stp) (e : Sta), xs = [.str "plan", .ref q1, .int ((costP ts).1 : Nat), .ref q2] ∧ B q1 = some (.lst zs) ∧ DpAll K B zs (dsteps ts) ∧ Way S (sta0 S) ts e ∧ isEndS S e = true ∧ vv (sta0 S) = some (costP ts) ∧ ts.length ≤ 3900
section
variable {K : PySem.W.Frag} {B B' H H' : Hp} {t : Addr} {S : Sto} {q2 : Addr} {ys : List V} {vis l : List Sta} {vv : Val} {xs : List V}
theorem Told2.mono (h : Told2 K B t S q2 ys vis l vv xs) (s : Same B B') : Told2 K B' t S q2 ys vis l vv xs :=
  ⟨Same.t s h.t, s _ _ h.q, dps_mono s h.y, h.pl, h.fo, h.cs, h.w.elim .inl fun ⟨q1, zs, ts, e, a, b, c, d⟩ => .inr ⟨q1, zs, ts, e, a, s _ _ b, dps_mono s c, d⟩⟩
theorem told2_of (to : TellOut K S H H' t) : ∃ q2 ys vis l vv xs, H q2 = none ∧ (∀ q1, xs[1]? = some (.ref q1) → H q1 = none) ∧ Told2 K H' t S q2 ys vis l vv xs := by
  obtain ⟨B', vis, vv, l, ys, q2, sB, sB2, n2, nB2, e2, dy, pl, so, Fo, Cs, po⟩ := to
  rcases po with ⟨ht, hv⟩ | ⟨q1, zs, ts, e, ht, _, n1, _, e1, dz, wy, en, hv, lt⟩
  · exact ⟨q2, ys, vis, l, vv, _, n2, fun q1 h => by
      have h : V.ref q2 = V.ref q1 := Option.some.inj h
      injection h with h
      rw [← h]
      exact n2, ht, e2, dps_mono sB2 dy, pl, Fo, Cs, .inl ⟨rfl, hv⟩⟩
  · exact ⟨q2, ys, vis, l, vv, _, n2, fun q1' h => by
      have h : V.ref q1 = V.ref q1' := Option.some.inj h
      injection h with h
      rw [← h]
      exact n1, ht, e2, dps_mono sB2 dy, pl, Fo, Cs, .inr ⟨q1, zs, ts, e, rfl, e1, dps_mono sB2 dz, wy, en, hv, lt⟩⟩
theorem Told2.del {r : Addr} {zs : List V} (h : Told2 K B t S q2 ys vis l vv xs) (e : B r = some (.lst zs)) (ne : q2 ≠ r) (ne1 : ∀ q1, xs[1]? = some (.ref q1) → q1 ≠ r) : Told2 K (del1 B r) t S q2 ys vis l vv xs :=
  ⟨sqt_del e h.t, by rw [del1_ne ne]; exact h.q, dps_del e h.y (noL_papsT _), h.pl, h.fo, h.cs, h.w.elim .inl fun ⟨q1, zs, ts, en, a, b, c, d⟩ => .inr ⟨q1, zs, ts, en, a, by rw [del1_ne (ne1 q1 (by rw [a]; rfl))]; exact b, dps_del e c (noLs_steps _), d⟩⟩
theorem Told2.last (h : Told2 K B t S q2 ys vis l vv xs) : atI xs (-1) = some (.ref q2) := by
  rcases h.w with ⟨e, _⟩ | ⟨q1, zs, ts, en, e, _⟩
  · rw [e]; rfl
  · rw [e]; rfl
theorem Told2.nums (h : Told2 K B t S q2 ys vis l vv xs) (ok : StoOk S) : (∀ e ∈ papOf vv l, ∀ i, e.2 = some i → 0 ≤ i ∧ i ≤ 4000) ∧ (papOf vv l).length ≤ 3900 := by
  have few : vis.length ≤ 3072 := h.fo.len ok (sta0_ok ok)
  refine ⟨fun e he i hi => ?_, by unfold papOf; rw [List.length_map, h.pl.length_eq]; omega⟩
  obtain ⟨s, hs, rfl⟩ := List.mem_map.mp he
  have hi : numV (vv s) = some i := hi
  cases hv : vv s with
  | none => rw [hv] at hi; cases hi
  | some c =>
    rw [hv] at hi
    have e : (c.1 : Int) = i := Option.some.inj hi
    have := h.cs.few (h.pl.mem_iff.mp hs) hv
    omega
end
theorem map_nums {p : List (Sta × Num)} {f : Sta → Sta} (h : (∀ e ∈ p, ∀ i, e.2 = some i → 0 ≤ i ∧ i ≤ 4000) ∧ p.length ≤ 3900) : (∀ e ∈ p.map (fun e => (f e.1, e.2)), ∀ i, e.2 = some i → 0 ≤ i ∧ i ≤ 4000) ∧ (p.map (fun e => (f e.1, e.2))).length ≤ 3900 := by
  refine ⟨fun e he i hi => ?_, by rw [List.length_map]; exact h.2⟩
  obtain ⟨x, hx, rfl⟩ := List.mem_map.mp he
  exact h.1 x hx i hi
theorem noints_eqv (ns : List Int) : PyData.eqv (.list (dints ns)) (.list []) = decide (ns = []) := by
  cases ns with
  | nil => rfl
  | cons i l =>
    show PyData.eqv (.list (.int i :: dints l)) (.list []) = _
    simp [PyData.eqv, PyData.eqvAll]
theorem seq_at {i : Int} {n : Nat} (h0 : 0 ≤ i) (h1 : i < n) : seqIndex? i n = some i.toNat := by
  unfold seqIndex?
  rw [if_neg (by omega : ¬ i < 0)]
  rw [if_pos (by simp [h0, h1])]
def rgI (n : Nat) : List Int := (List.range n).map fun i : Nat => 0 + (i : Int)
theorem rgI_v (n : Nat) : rgV 0 (n : Nat) = (rgI n).map V.int := by
  unfold rgV rgI
  rw [List.map_map, Int.sub_zero, Int.toNat_natCast]
  rfl
theorem erase_map {α β : Type} {f : α → β} : ∀ (l : List α) (k : Nat), (l.map f).eraseIdx k = (l.eraseIdx k).map f
  | [], _ => rfl
  | x :: l, 0 => rfl
  | x :: l, k + 1 => congrArg (f x :: ·) (erase_map l k)
theorem erase_perm {α : Type} : ∀ {l : List α} {k : Nat} (h : k < l.length), (l[k] :: l.eraseIdx k).Perm l
  | x :: l, 0, _ => List.Perm.refl _
  | x :: l, k + 1, h => (List.Perm.swap x (l[k]'(Nat.lt_of_succ_lt_succ h)) (l.eraseIdx k)).trans ((erase_perm (l := l) (k := k) (Nat.lt_of_succ_lt_succ h)).cons x)

def spLaw (K : PySem.W.Frag) : Sp := fun vs H Q _ => ∃ (a : Addr) (ns : List Int), vs = [.ref a] ∧ SqL K H a (ns.map V.int) ∧ ns.length ≤ 63 ∧ ∀ H', Q (.bl true) H'
section
variable {P : Program} {w : World} {K : PySem.W.Frag} {mg : Str → Option Value} {base : Heap}
/-! law: 0 _law_script, 1 _law_row, 2 _law_store_here, 3 _law_one, 4 _law_other, 5 _law_two, 6 _law_steps, 7 _law_left, 8 _law_order, 9 _law_three, 10 _law_turned, 11 _law_here, 12 _law_number, 13 _law_done, 14 _law_step, 15 _law_wish_here -/
abbrev s_law : Stmt := topS 57
abbrev N_law : List Str := ["_law_script", "_law_row", "_law_store_here", "_law_one", "_law_other", "_law_two", "_law_steps", "_law_left", "_law_order", "_law_three", "_law_turned", "_law_here", "_law_number", "_law_done", "_law_step", "_law_wish_here"]
theorem sc_law : FnScope N_law ["_law_script"] (defScope s_law) := ⟨rfl, rfl, rfl, by decide +kernel, rfl, by decide +kernel, by decide +kernel⟩
theorem ok_law {f f1 f2 f3 f4 f5 f6 f7 f8 f9 f10 f11 C fI fS fW : Addr} {fd fd1 fd2 fd3 fd4 fd5 fd6 fd7 fd8 fd9 fd10 fd11 fdI fdS fdW : FuncData} (D : Dfs K mg "law" s_law ["_law_script"] f fd) (T : Tx K mg) (TS : TSx K mg C fI fS fW fdI fdS fdW)
    (C__law_taken : Cal P w K mg base 1 "_law_taken" ["_law_row", "_law_many"] (spTaken K) f1 fd1) (C__law_store : Cal P w K mg base 3 "_law_store" ["_law_row"] (spStore K) f2 fd2) (C__law_made : Cal P w K mg base 6 "_law_made" ["_law_store_here"] (spMade K C) f3 fd3)
    (C_least : Cal P w K mg base 9 "least" ["store"] (spLeast P w K C) f4 fd4) (C__law_mirrored : Cal P w K mg base 1 "_law_mirrored" ["_law_store_here"] (spMirrored K) f5 fd5) (C__law_mirror_state : Cal P w K mg base 1 "_law_mirror_state" ["_law_store_here", "_law_state"] (spMirState K) f6 fd6)
    (C__law_mirror_step : Cal P w K mg base 1 "_law_mirror_step" ["_law_step"] (spMirStep K) f7 fd7) (C__law_as_told : Cal P w K mg base 1 "_law_as_told" ["_law_paper"] (spAsTold K) f8 fd8) (C__law_ordered : Cal P w K mg base 1 "_law_ordered" ["_law_store_here", "_law_order"] (spOrdered K) f9 fd9)
    (C_is_end : Cal P w K mg base 2 "is_end" ["store", "state"] (spIsEnd K C) f10 fd10) (C_played : Cal P w K mg base 6 "played" ["store", "plan"] (spPlayedW K C) f11 fd11) :
    FnOk P w K mg base CX0 10 f fd ["_law_script"] (spLaw K) := by
  refine D.F.ok sc_law (fun vs H Q E h => ?_) (fun cdv A outer s H vs Q E hr h => ?_)
  · obtain ⟨a, ns, rfl, _⟩ := h
    rfl
  · obtain ⟨a, ns, rfl, hS, _, q⟩ := h
    refine ⟨_, (pss_cons (ps_set (i := 1) sc_law.nd rfl (Or.inl rfl) (pe_lst (pa_cons (pv 0) (pa_cons pe_int (pa_cons pe_int pa_nil)))))
      (pss_cons (ps_set (i := 2) sc_law.nd rfl (Or.inr rfl) (pe_call C__law_store.G (hr.mono (by decide)) (by rfl) C__law_store.g C__law_store.kp C__law_store.b .nil pass0 (pa_cons (pv 1) pa_nil)))
      (pss_cons (ps_set (i := 3) sc_law.nd rfl (Or.inl rfl) (pe_call C_least.G (hr.mono (by decide)) (by rfl) C_least.g C_least.kp C_least.b .nil pass0 (pa_cons (pe_call C__law_made.G (hr.mono (by decide)) (by rfl) C__law_made.g C__law_made.kp C__law_made.b .nil pass0 (pa_cons (pv 2) pa_nil)) pa_nil)))
      (pss_cons (ps_set (i := 4) sc_law.nd rfl (Or.inl rfl) (pe_call C__law_mirrored.G (hr.mono (by decide)) (by rfl) C__law_mirrored.g C__law_mirrored.kp C__law_mirrored.b .nil pass0 (pa_cons (pv 2) pa_nil)))
      (pss_cons (ps_set (i := 5) sc_law.nd rfl (Or.inl rfl) (pe_call C_least.G (hr.mono (by decide)) (by rfl) C_least.g C_least.kp C_least.b .nil pass0 (pa_cons (pe_call C__law_made.G (hr.mono (by decide)) (by rfl) C__law_made.g C__law_made.kp C__law_made.b .nil pass0 (pa_cons (pv 4) pa_nil)) pa_nil)))
      (C8.pss_cut (ps_if (PW.pt (pw_or (pt_cmpR op_ne (pe_ix (kix_tup (K := K)) (pv 3) pe_int (fun _ _ => rfl)) (pe_ix (kix_tup (K := K)) (pv 5) pe_int (fun _ _ => rfl)) (nomark _)) (pw_or1 (PW.pt (pw_and (pt_cmpR op_eq (pe_ix (kix_tup (K := K)) (pv 3) pe_int (fun _ _ => rfl)) pe_str (nomark _)) (pw_and1 (pt_cmpR op_ne (pe_ix (kix_tup (K := K)) (pv 3) pe_int (fun _ _ => rfl)) (pe_ix (kix_tup (K := K)) (pv 5) pe_int (fun _ _ => rfl)) (nomark _)))))))) (pss_one (ps_ret pe_bl)) pss_nil)
      (C8.pss_cut (ps_if (pt_cmpR (kneD (K := K) hr.units) (pe_call C__law_as_told.G (hr.mono (by decide)) (by rfl) C__law_as_told.g C__law_as_told.kp C__law_as_told.b .nil pass0 (pa_cons (pe_lc (own := [("_law_here", 11), ("_law_number", 12)]) (g := gTup K 2 (gCons (gName 11) (gCons (gName 12) gNil))) rfl sc_law.nd (pi_list (by exact (pe_ix (kix_tup (K := K)) (pv 3) (pe_un un_neg pe_int) (fun _ _ => rfl)))) (blkOk_by (own := [("_law_here", 11), ("_law_number", 12)]) (N := N_law) (sc := defScope s_law) (by decide +kernel)) (fun _ _ _ _ _ => (kpg_tup (K := K) (by rfl) (pgs_cons (pg_name (i := 11) sc_law.nd rfl (Or.inl rfl)) (pgs_cons (pg_name (i := 12) sc_law.nd rfl (Or.inl rfl)) pgs_nil)))) (fun _ _ _ _ _ => pts_nil) (fun _ _ _ _ _ => by exact (pe_tup (pa_cons (pe_call C__law_mirror_state.G (hr.mono (by decide)) (by rfl) C__law_mirror_state.g C__law_mirror_state.kp C__law_mirror_state.b .nil pass0 (pa_cons (pv 2) (pa_cons (pv 11) pa_nil))) (pa_cons (pv 12) pa_nil))))) pa_nil)) (pe_call C__law_as_told.G (hr.mono (by decide)) (by rfl) C__law_as_told.g C__law_as_told.kp C__law_as_told.b .nil pass0 (pa_cons (pe_ix (kix_tup (K := K)) (pv 5) (pe_un un_neg pe_int) (fun _ _ => rfl)) pa_nil)) (nomark _)) (pss_one (ps_ret pe_bl)) pss_nil)
      (C8.pss_cut (ps_if (pt_cmpR op_eq (pe_ix (kix_tup (K := K)) (pv 3) pe_int (fun _ _ => rfl)) pe_str (nomark _)) (pss_cons (ps_setLc (i := 6) (own := [("_law_step", 14)]) (g := gName 14) rfl sc_law.nd rfl rfl (sw_true rfl rfl rfl (by decide +kernel)) (pi_list (by exact (pe_ix (kix_tup (K := K)) (pv 3) pe_int (fun _ _ => rfl)))) (blkOk_by (own := [("_law_step", 14)]) (N := N_law) (sc := defScope s_law) (by decide +kernel)) (fun _ _ _ _ _ => (pg_name (i := 14) sc_law.nd rfl (Or.inl rfl))) (fun _ _ _ _ _ => pts_nil) (fun _ _ _ _ _ => by exact (pe_call C__law_mirror_step.G (hr.mono (by decide)) (by rfl) C__law_mirror_step.g C__law_mirror_step.kp C__law_mirror_step.b .nil pass0 (pa_cons (pv 14) pa_nil))))
      (pss_one (ps_if (PW.pt (pw_or (pt_cmpR op_isnot_bl (pe_call C_is_end.G (hr.mono (by decide)) (by rfl) C_is_end.g C_is_end.kp C_is_end.b .nil pass0 (pa_cons (pe_call C__law_made.G (hr.mono (by decide)) (by rfl) C__law_made.g C__law_made.kp C__law_made.b .nil pass0 (pa_cons (pv 4) pa_nil)) (pa_cons (pe_ix (kix_list (K := K)) (pe_call C_played.G (hr.mono (by decide)) (by rfl) C_played.g C_played.kp C_played.b .nil pass0 (pa_cons (pe_call C__law_made.G (hr.mono (by decide)) (by rfl) C__law_made.g C__law_made.kp C__law_made.b .nil pass0 (pa_cons (pv 4) pa_nil)) (pa_cons (pv 6) pa_nil))) (pe_un un_neg pe_int) (fun _ _ => rfl)) pa_nil))) pe_bl (nomark _)) (pw_or1 (pt_cmpR op_ne (pe_callB (klen (K := K)) (by rfl) T.n_len (by decide +kernel) (pa_cons (pv 6) pa_nil)) (pe_callB (klen (K := K)) (by rfl) T.n_len (by decide +kernel) (pa_cons (pe_ix (kix_tup (K := K)) (pv 5) pe_int (fun _ _ => rfl)) pa_nil)) (nomark _))))) (pss_one (ps_ret pe_bl)) pss_nil))) pss_nil)
      (pss_cons (ps_set (i := 7) sc_law.nd rfl (Or.inl rfl) (pe_listRg rfl (by rfl) T.n_list (prg_1 (by rfl) T.n_range (pe_callB (klen (K := K)) (by rfl) T.n_len (by decide +kernel) (pa_cons (pe_ix (kix_tup (K := K)) (pv 2) pe_int (fun _ _ => rfl)) pa_nil)))))
      (pss_cons (ps_set (i := 8) sc_law.nd rfl (Or.inr rfl) (pe_lst pa_nil))
      (pss_cons (ps_while PassesOwn.never (pt_cmpR (kneD (K := K) hr.units) (pv 7) (pe_lst pa_nil) (nomark _)) (pss_one (ps_expr (pe_bm PySem.F.plainAttrs_list PySem.F.slot_list_append PySem.F.type_list_append mt_append (pv 8) (pa_cons (pe_bm PySem.F.plainAttrs_list PySem.F.slot_list_pop PySem.F.type_list_pop mt_popAt (pv 7) (pa_cons (pe_call C__law_taken.G (hr.mono (by decide)) (by rfl) C__law_taken.g C__law_taken.kp C__law_taken.b .nil pass0 (pa_cons (pv 1) (pa_cons (pe_callB (klen (K := K)) (by rfl) T.n_len (by decide +kernel) (pa_cons (pv 7) pa_nil)) pa_nil))) pa_nil)) pa_nil)))))
      (pss_cons (ps_set (i := 9) sc_law.nd rfl (Or.inl rfl) (pe_call C_least.G (hr.mono (by decide)) (by rfl) C_least.g C_least.kp C_least.b .nil pass0 (pa_cons (pe_call C__law_made.G (hr.mono (by decide)) (by rfl) C__law_made.g C__law_made.kp C__law_made.b .nil pass0 (pa_cons (pe_call C__law_ordered.G (hr.mono (by decide)) (by rfl) C__law_ordered.g C__law_ordered.kp C__law_ordered.b .nil pass0 (pa_cons (pv 2) (pa_cons (pv 8) pa_nil))) pa_nil)) pa_nil)))
      (pss_cons (ps_set (i := 10) sc_law.nd rfl (Or.inl rfl) (pe_lst pa_nil))
      (pss_cons (ps_for PassesOwn.never rfl (pi_list (by exact (pe_ix (kix_tup (K := K)) (pv 3) (pe_un un_neg pe_int) (fun _ _ => rfl)))) (pg_tup (by rfl) (pgs_cons (pg_name (i := 11) sc_law.nd rfl (Or.inl rfl)) (pgs_cons (pg_name (i := 12) sc_law.nd rfl (Or.inl rfl)) pgs_nil))) (pss_cons (ps_set (i := 13) sc_law.nd rfl (Or.inl rfl) (pe_callTy (ktuple_of (K := K)) (by rfl) T.n_tuple (by decide +kernel) (pa_cons (pe_callB (ksorted (K := K)) (by rfl) T.n_sorted (by decide +kernel) (pa_cons (pe_lc (own := [("_law_wish_here", 15)]) (g := gName 15) rfl sc_law.nd (pi_tup (by exact (pe_ix (kix_tup (K := K)) (pv 11) pe_int (fun _ _ => rfl)))) (blkOk_by (own := [("_law_wish_here", 15)]) (N := N_law) (sc := defScope s_law) (by decide +kernel)) (fun _ _ _ _ _ => (pg_name (i := 15) sc_law.nd rfl (Or.inl rfl))) (fun _ _ _ _ _ => pts_nil) (fun _ _ _ _ _ => by exact (kpe_bm (K := K) PySem.F.plainAttrs_list PySem.F.slot_list_index PySem.F.type_list_index (kindex (K := K)) (pv 8) (pa_cons (pv 15) pa_nil)))) pa_nil)) pa_nil)))
      (pss_one (ps_expr (pe_bm PySem.F.plainAttrs_list PySem.F.slot_list_append PySem.F.type_list_append mt_append (pv 10) (pa_cons (pe_tup (pa_cons (pe_tup (pa_cons (pe_ix (kix_tup (K := K)) (pv 11) pe_int (fun _ _ => rfl)) (pa_cons (pv 13) (pa_cons (pe_ix (kix_tup (K := K)) (pv 11) pe_int (fun _ _ => rfl)) (pa_cons (pe_ix (kix_tup (K := K)) (pv 11) pe_int (fun _ _ => rfl)) pa_nil))))) (pa_cons (pv 12) pa_nil))) pa_nil))))))
      (pss_cons (ps_if (pt_cmpR (kneD (K := K) hr.units) (pe_call C__law_as_told.G (hr.mono (by decide)) (by rfl) C__law_as_told.g C__law_as_told.kp C__law_as_told.b .nil pass0 (pa_cons (pv 10) pa_nil)) (pe_call C__law_as_told.G (hr.mono (by decide)) (by rfl) C__law_as_told.g C__law_as_told.kp C__law_as_told.b .nil pass0 (pa_cons (pe_ix (kix_tup (K := K)) (pv 9) (pe_un un_neg pe_int) (fun _ _ => rfl)) pa_nil)) (nomark _)) (pss_one (ps_ret pe_bl)) pss_nil)
      (pss_one (ps_ret (pe_and (pe_cmpR op_eq (pe_ix (kix_tup (K := K)) (pv 9) pe_int (fun _ _ => rfl)) (pe_ix (kix_tup (K := K)) (pv 3) pe_int (fun _ _ => rfl)) (nomark _)) (pe_one (pe_or (pe_cmpR op_eq (pe_ix (kix_tup (K := K)) (pv 3) pe_int (fun _ _ => rfl)) pe_str (nomark _)) (pe_one (pe_cmpR op_eq (pe_ix (kix_tup (K := K)) (pv 9) pe_int (fun _ _ => rfl)) (pe_ix (kix_tup (K := K)) (pv 3) pe_int (fun _ _ => rfl)) (nomark _))))))))))))))))))))))), ?_⟩
    -- row, store
    refine ⟨_, rfl, small (by simp), fun r nr => ?_⟩
    have R0 : RowSt K ⟨r, a, ns⟩ H (upd H r (.lst [.ref a, .int 0, .int 0])) := ⟨same_new nr, nr, hS, 0, 0, upd_same, by decide⟩
    generalize hρ : (⟨r, a, ns⟩ : RowP) = ρ at R0
    have er : r = ρ.r := by rw [← hρ]
    refine ⟨_, rfl, ρ, H, by rw [← er]; rfl, R0, fun v B2 H2 S s2 R2 dv ok => ?_⟩
    have ok0 := sta0_ok ok
    -- one
    refine ⟨_, rfl, v, S, rfl, dp_mono R2.same dv, ok, fun p1 H3 s3 np1 ob1 => ?_⟩
    refine ⟨p1, S, rfl, ob1, ok, ok0, fun t1 H4 s4 to1 => ?_⟩
    obtain ⟨q1, ys1, vis1, l1, vv1, xs1, n1, n1', T1⟩ := told2_of to1
    obtain ⟨m1, m2, er3, z3⟩ := (R2.pure s3).row
    have R4 := R2.pure (s3.trans s4)
    have nq1 : q1 ≠ ρ.r := fun z => by rw [z, er3] at n1; cases n1
    have nq1' : ∀ q', xs1[1]? = some (.ref q') → q' ≠ ρ.r := fun q' h z => by
      have := n1' q' h
      rw [z, er3] at this
      cases this
    clear n1 n1' to1
    -- other, two
    have okm := mirS_ok ok
    have I := mir_iso ok
    refine ⟨_, rfl, v, S, rfl, dp_mono R4.same dv, ok, fun o H5 s5 do_ => ?_⟩
    refine ⟨_, rfl, o, mirS S, rfl, do_, okm, fun p2 H6 s6 np2 ob2 => ?_⟩
    refine ⟨p2, mirS S, rfl, ob2, okm, sta0_ok okm, fun t2 H7 s7 to2 => ?_⟩
    obtain ⟨q2, ys2, vis2, l2, vv2, xs2, n2, n2', T2⟩ := told2_of to2
    have s47 := s5.trans (s6.trans s7)
    have R7 := R4.pure s47
    have T1 := T1.mono s47
    have do_ := dp_mono (s6.trans s7) do_
    have er7 := (s4.trans s47) _ _ er3
    clear n2 n2' to2 s3 s4 s5 s6 s7 s47 R4 ob1 ob2 np1 np2 er3 R0
    have ev := I.val0 ok okm T1.fo T2.fo T1.cs T2.cs
    refine ⟨fun σ H' => σ = [some (.ref a), some (.ref ρ.r), some v, some (.ref t1), some o, some (.ref t2), none, none, none, none, none, none, none, none, none, none] ∧ H' = H7, ?_, ?_⟩
    · rw [← er]
      have tt1 := T1.t
      have tt2 := T2.t
      rcases T1.w with ⟨e1, hv1⟩ | ⟨p1, zs1, ts1, en1, e1, _, _, _, _, hv1, _⟩
      · rw [e1] at tt1
        rcases T2.w with ⟨e2, hv2⟩ | ⟨p2, zs2, ts2, en2, e2, _, _, _, _, hv2, _⟩
        · rw [e2] at tt2
          refine ⟨_, rfl, t1, _, 0, _, rfl, rfl, tt1, rfl, _, rfl, t2, _, 0, _, rfl, rfl, tt2, rfl, rfl, _, rfl, ?_⟩
          refine (if_neg (by rw [decide_eq_true rfl]; exact Bool.false_ne_true)).mpr ?_
          refine ⟨_, rfl, t1, _, 0, _, rfl, rfl, tt1, rfl, rfl, _, rfl, ?_⟩
          refine (if_neg (by rw [decide_eq_false (sne (by decide +kernel))]; exact Bool.false_ne_true)).mpr ?_
          exact (if_neg Bool.false_ne_true).mpr ⟨rfl, rfl⟩
        · rw [hv1, hv2] at ev
          cases ev
      · rw [e1] at tt1
        rcases T2.w with ⟨e2, hv2⟩ | ⟨p2, zs2, ts2, en2, e2, _, _, _, _, hv2, _⟩
        · rw [hv1, hv2] at ev
          cases ev
        · rw [e2] at tt2
          rw [hv1, hv2] at ev
          have ec := Option.some.inj ev
          refine ⟨_, rfl, t1, _, 0, _, rfl, rfl, tt1, rfl, _, rfl, t2, _, 0, _, rfl, rfl, tt2, rfl, rfl, _, rfl, ?_⟩
          refine (if_neg (by rw [decide_eq_true rfl]; exact Bool.false_ne_true)).mpr ?_
          refine ⟨_, rfl, t1, _, 0, _, rfl, rfl, tt1, rfl, rfl, _, rfl, ?_⟩
          refine (if_pos (decide_eq_true rfl)).mpr ?_
          refine ⟨_, rfl, t1, _, 2, _, rfl, rfl, tt1, rfl, _, rfl, t2, _, 2, _, rfl, rfl, tt2, rfl, rfl, _, rfl, ?_⟩
          rw [ec]
          refine (if_neg (by rw [decide_eq_true rfl]; exact Bool.false_ne_true)).mpr ⟨rfl, rfl⟩
    rintro σ H7' ⟨rfl, hh⟩
    subst hh
    -- the papers
    have few1 := T1.nums ok
    have few2 := T2.nums okm
    refine ⟨fun σ H' => σ = [some (.ref a), some (.ref ρ.r), some v, some (.ref t1), some o, some (.ref t2), none, none, none, none, none, none, none, none, none, none] ∧ Same H7' H', ?_, ?_⟩
    · refine ⟨_, rfl, 1, rfl, t1, _, -1, .ref q1, rfl, rfl, T1.t, T1.last, q1, rfl, ⟨_, SqL.of T1.q⟩, fun D1 nD1 => ?_⟩
      have lp : ys1.length = (papOf vv1 l1).length := (dps_len T1.y).trans (List.length_map ..)
      refine lc_list (K := K) (a := q1) (xs := ys1) (fun j H' => ∃ zs, AcqM K [] H7' H' D1 zs (dpaps (((papOf vv1 l1).take j).map fun e => (mirA S.shelves.length e.1, e.2)))) ⟨[], AcqM.start nD1⟩ (fun j H' _ ⟨_, A⟩ => SqL.of (A.same _ _ T1.q)) ?_ ?_
      · rintro j y H8 hy ⟨zs, A⟩
        obtain ⟨d, hd, dy⟩ := dps_of_get T1.y hy
        obtain ⟨x, hx, rfl⟩ := pap_item hd
        obtain ⟨ax, bx, ux, rfl, h1, h2, h3⟩ := pap_at dy
        refine ⟨ax, _, rfl, Same.t A.same h1, rfl, _, _, rfl, _, _, rfl, rfl, rfl, ?_⟩
        dsimp only [tYes]
        rw [if_pos rfl]
        have hj := (List.getElem?_eq_some_iff.mp hx).1
        have xk : StaOk S x.1 := by
          obtain ⟨z, hz, ez⟩ := List.mem_map.mp (List.mem_of_getElem? hx)
          rw [← ez]
          exact found_ok ok ok0 T1.fo z (T1.pl.mem_iff.mp hz)
        obtain ⟨f1, f2⟩ := sta_few ok xk
        refine ⟨_, rfl, _, rfl, v, .ref bx, S, x.1, rfl, dp_mono (R7.same.trans A.same) dv, dp_mono A.same h2, by omega, fun u H9 s9 du => ?_⟩
        refine ⟨_, rfl, small (by simp), fun pt npt => ?_⟩
        have st := same_new (o := .tup [u, ux]) npt
        have A3 := A.pure (s9.trans st)
        have n1 : pt ≠ D1 := fun z => by rw [z, s9 _ _ A.el] at npt; cases npt
        have no := (A3.mu (fun b hb => nomatch hb)).no
        refine ⟨zs, A3.el, ?_, zs ++ [.ref pt], ?_⟩
        · have h := dps_len A.dx
          unfold dpaps at h
          rw [List.length_map, List.length_map, List.length_take] at h
          have := few1.2
          exact size4 (by omega)
        · have e : dpaps (((papOf vv1 l1).take (j + 1)).map fun e => (mirA S.shelves.length e.1, e.2)) = dpaps (((papOf vv1 l1).take j).map fun e => (mirA S.shelves.length e.1, e.2)) ++ [dpap (mirA S.shelves.length x.1, x.2)] := by
            unfold dpaps
            rw [take_snoc hx, List.map_append, List.map_append]
            rfl
          rw [e]
          exact A3.app (.tup (SqT.of (by rw [imm_at (by simp [n1])]; exact upd_same)) (.cons (dp_imm no (dp_mono st du) (noL_sta _)) (.cons (dp_imm no (dp_mono (A.same.trans (s9.trans st)) h3) (nodot _)) .nil)))
      · rintro H8 ⟨zs, A⟩
        rw [lp, List.take_length] at A
        obtain ⟨nb1, lf1⟩ := map_nums (f := mirA S.shelves.length) few1
        refine ⟨D1, zs, _, rfl, SqL.of A.el, dps_mono imm_sub A.dx, nb1, lf1, fun q8 zs8 ds8 H9 s9 e8 d8 pm8 so8 => ?_⟩
        have s79 := A.same.trans s9
        refine ⟨_, rfl, 1, rfl, t2, _, -1, .ref q2, rfl, rfl, Same.t s79 T2.t, T2.last, q2, ys2, papOf vv2 l2, rfl, SqL.of (s79 _ _ T2.q), dps_mono s79 T2.y, few2.1, few2.2, fun q9 zs9 ds9 H10 s10 e9 d9 pm9 so9 => ?_⟩
        have ed := told_one (I.paps ok okm T1.fo T2.fo T1.cs T2.cs T1.pl T2.pl) pm8 pm9 so8 so9
        subst ed
        refine ⟨.list ds8, .list ds8, .lst (SqL.of (s10 _ _ e8)) (dps_mono s10 d8), .lst (SqL.of e9) d9, (told_lays pm8).shaped, (told_lays pm9).shaped, _, rfl, ?_⟩
        rw [(told_lays pm8).refl]
        exact iteF ⟨rfl, s79.trans s10⟩
    rintro σ H8 ⟨rfl, s8⟩
    -- the plan
    refine ⟨fun σ H' => ∃ v6 : Option V, σ = [some (.ref a), some (.ref ρ.r), some v, some (.ref t1), some o, some (.ref t2), v6, none, none, none, none, none, none, none, none, none] ∧ Same H7' H', ?_, ?_⟩
    · have tt1 := Same.t s8 T1.t
      rcases T1.w with ⟨e1, hv1⟩ | ⟨p1, zs1, ts1, en1, e1, ep1, dp1, wy1, ee1, hv1, lt1⟩
      · rw [e1] at tt1
        refine ⟨_, rfl, t1, _, 0, _, rfl, rfl, tt1, rfl, rfl, _, rfl, ?_⟩
        exact (if_neg (by rw [decide_eq_false (sne (by decide +kernel))]; exact Bool.false_ne_true)).mpr ⟨_, rfl, s8⟩
      · rw [e1] at tt1
        refine ⟨_, rfl, t1, _, 0, _, rfl, rfl, tt1, rfl, rfl, _, rfl, ?_⟩
        refine (if_pos (decide_eq_true rfl)).mpr ?_
        have ez1 := s8 _ _ ep1
        have lz1 : zs1.length = ts1.length := (dps_len dp1).trans (List.length_map ..)
        refine ⟨_, rfl, t1, _, 1, .ref p1, rfl, rfl, tt1, rfl, p1, rfl, ⟨zs1, SqL.of ez1⟩, fun D1 nD1 => ?_⟩
        refine lc_list (K := K) (a := p1) (xs := zs1) (fun j H' => ∃ us, AcqM K [] H8 H' D1 us (dsteps ((ts1.take j).map mirT))) ⟨[], AcqM.start nD1⟩ (fun j H' _ ⟨_, A⟩ => SqL.of (A.same _ _ ez1)) ?_ ?_
        · rintro j y H9 hy ⟨us, A⟩
          obtain ⟨d, hd, dy⟩ := dps_of_get dp1 hy
          obtain ⟨t, ht, rfl⟩ := step_item hd
          refine ⟨rfl, ?_⟩
          dsimp only [tYes]
          rw [if_pos rfl]
          refine ⟨_, rfl, y, t, rfl, dp_mono (s8.trans A.same) dy, fun u H10 s10 du => ?_⟩
          have A3 := A.pure s10
          refine ⟨us, A3.el, ?_, us ++ [u], ?_⟩
          · have h := dps_len A.dx
            unfold dsteps at h
            rw [List.length_map, List.length_map, List.length_take] at h
            exact size4 (by omega)
          · have e : dsteps ((ts1.take (j + 1)).map mirT) = dsteps ((ts1.take j).map mirT) ++ [(mirT t).d] := by
              unfold dsteps
              rw [take_snoc ht, List.map_append, List.map_append]
              rfl
            rw [e]
            exact A3.app (dp_imm (A3.mu (fun b hb => nomatch hb)).no du (noL_stp _))
        rintro H9 ⟨us, A⟩
        rw [lz1, List.take_length] at A
        have s79 := s8.trans A.same
        have eD1 := A.el
        have du := dps_mono imm_sub A.dx
        have lu : us.length = ts1.length := (dps_len du).trans (by unfold dsteps; rw [List.length_map, List.length_map])
        have wy2 := I.to.way ok ok0 wy1
        rw [I.s0] at wy2
        refine ⟨_, rfl, o, mirS S, rfl, dp_mono s79 do_, okm, fun p3 H10 s10 np3 ob3 => ?_⟩
        refine ⟨_, rfl, o, mirS S, rfl, dp_mono (s79.trans s10) do_, okm, fun p4 H11 s11 np4 ob4 => ?_⟩
        refine ⟨_, rfl, p4, D1, us, mirS S, ts1.map mirT, rfl, ob4, okm, SqL.of ((s10.trans s11) _ _ eD1), dps_mono (s10.trans s11) du, sta0_ok okm, ⟨_, wy2⟩, by rw [List.length_map]; exact lt1, fun q5 zs5 H12 s12 n5 e5 d5 => ?_⟩
        have lz : zs5.length = (ts1.map mirT).length + 1 := by
          have h := dps_len d5
          unfold dstates at h
          rw [List.length_map, playS_len] at h
          exact h
        obtain ⟨z, hz, dz⟩ := dps_get d5 (i := (ts1.map mirT).length) (d := (mirA S.shelves.length en1).d) (by
          unfold dstates
          rw [List.getElem?_map, last_play, show runS (mirS S) (sta0 (mirS S)) (ts1.map mirT) = mirA S.shelves.length en1 from wy2.run]
          rfl)
        refine ⟨1, rfl, q5, zs5, -1, z, rfl, rfl, SqL.of e5, atI_end (by rw [lz]; exact hz), ?_⟩
        refine ⟨p3, z, mirS S, _, rfl, ob3.mono (s11.trans s12), dz, fun H13 s13 => ?_⟩
        have ke := I.to.en en1 (wy1.sta ok ok0)
        rw [ee1] at ke
        rw [show (decide ((mirA S.shelves.length en1).done.length = (mirS S).wishes.length) && decide ((mirA S.shelves.length en1).inside.length = 0)) = true from ke]
        refine ⟨_, _, rfl, rfl, _, rfl, (if_neg (by rw [decide_eq_true rfl]; exact Bool.false_ne_true)).mpr ?_⟩
        have s813 := A.same.trans (s10.trans (s11.trans (s12.trans s13)))
        have tt2 := Same.t (s8.trans s813) T2.t
        rcases T2.w with ⟨e2, hv2⟩ | ⟨p2, zs2, ts2, en2, e2, ep2, dp2, _, _, hv2, _⟩
        · rw [hv1, hv2] at ev
          cases ev
        · rw [e2] at tt2
          rw [hv1, hv2] at ev
          have ec : ts1.length = ts2.length := congrArg Prod.snd (Option.some.inj ev)
          have lz2 : zs2.length = ts2.length := (dps_len dp2).trans (List.length_map ..)
          refine ⟨_, rfl, D1, us, rfl, .inl (SqL.of ((s10.trans (s11.trans (s12.trans s13))) _ _ eD1)), _, rfl, t2, _, 1, .ref p2, rfl, rfl, tt2, rfl, p2, zs2, rfl, .inl (SqL.of ((s8.trans s813) _ _ ep2)), rfl, _, rfl, ?_⟩
          rw [lu, lz2, ec]
          exact (if_neg (by rw [decide_eq_true rfl]; exact Bool.false_ne_true)).mpr ⟨_, rfl, s8.trans s813⟩
    rintro σ H9 ⟨v6, rfl, s9⟩
    clear s8 few2 ev
    have R9 := R7.pure s9
    have T9 := T1.mono s9
    have er9 := s9 _ _ er7
    obtain ⟨RB, sB⟩ := row_all R7 s9
    have TB := T9.del er9 nq1 nq1'
    have dvB := dp_mono sB dv
    generalize del1 H9 ρ.r = B at RB sB TB dvB
    clear R9 T9 T1 T2 R7 do_ er9 er7 s9
    -- left, order
    obtain ⟨va, la, ma, xsS, ysS, rfl, so⟩ := sto_at dvB
    have lyS : ysS.length = S.wishes.length := so.ly
    have w5 := ok.w5
    refine ⟨_, rfl, va, _, 2, .ref ma, rfl, rfl, Same.t RB.same so.t, rfl, ma, ysS, rfl, .inl (Same.l RB.same so.m), ?_⟩
    refine ⟨_, rfl, RgOk.of_le (by decide) (by omega) (by decide) (by omega), fun L nL => ⟨small (by simp), fun O nO => ?_⟩⟩
    rw [rgI_v] at nO ⊢
    have RL := RB.new (o := .lst ((rgI ysS.length).map V.int)) nL
    have RO := RL.new (o := .lst []) nO
    have bL := RB.same.free nL
    have bO := RL.same.free nO
    have rL := RB.nr nL
    have rO := RL.nr nO
    have LO : L ≠ O := ne_of_none upd_same nO
    have eL : (upd (upd H9 L (.lst ((rgI ysS.length).map V.int))) O (.lst [])) L = some (.lst ((rgI ysS.length).map V.int)) := by rw [upd_ne LO]; exact upd_same
    have eO : (upd (upd H9 L (.lst ((rgI ysS.length).map V.int))) O (.lst [])) O = some (.lst (([] : List Int).map V.int)) := upd_same
    generalize upd (upd H9 L (.lst ((rgI ysS.length).map V.int))) O (.lst []) = H10 at RO eL eO ⊢
    clear RL nL nO
    refine ⟨fun m σ H' => ∃ lf od : List Int, m = lf.length ∧ σ = [some (.ref a), some (.ref ρ.r), some (.ref va), some (.ref t1), some o, some (.ref t2), v6, some (.ref L), some (.ref O), none, none, none, none, none, none, none] ∧ RowSt K ρ B H' ∧ H' L = some (.lst (lf.map V.int)) ∧ H' O = some (.lst (od.map V.int)) ∧ (od ++ lf).Perm (rgI ysS.length), ⟨_, rgI ysS.length, [], rfl, rfl, RO, eL, eO, List.Perm.refl _⟩, ?_⟩
    clear eL eO RO
    rintro m σ H11 ⟨lf, od, rfl, rfl, R11, eL, eO, pm⟩
    have ll : od.length + lf.length = ysS.length := by
      have h := pm.length_eq
      unfold rgI at h
      rw [List.length_append, List.length_map, List.length_range] at h
      exact h
    refine ⟨_, rfl, small (by simp), fun pe npe => ?_⟩
    have se := same_new (o := .lst []) npe
    have R12 := R11.new (o := .lst []) npe
    have eL2 := se _ _ eL
    have eO2 := se _ _ eO
    refine ⟨.list (dints lf), .list [], .lst (SqL.of eL2) (ints_dps _), .lst lst_new .nil, ((lays_ints (n := 0) lf).lst).shaped, (Lays.lst (n := 0) lays_nil).shaped, _, rfl, ?_⟩
    rw [noints_eqv]
    generalize upd H11 pe (.lst []) = H12 at R12 eL2 eO2 ⊢
    by_cases hlf : lf = []
    · rw [decide_eq_true hlf]
      refine (if_neg Bool.false_ne_true).mpr ?_
      subst hlf
      rw [List.append_nil] at pm
      have O_ : OrdOk S.wishes.length od := by
        refine ⟨by rw [← lyS, ← ll]; rfl, pm.nodup_iff.mpr ?_, fun i hi => ?_⟩
        · unfold rgI
          exact List.pairwise_map.mpr (List.nodup_range.imp fun ne e => ne (by omega))
        · have hi := pm.mem_iff.mp hi
          unfold rgI at hi
          obtain ⟨k, hk, rfl⟩ := List.mem_map.mp hi
          have := List.mem_range.mp hk
          omega
      -- three
      have okr := (ord_ren O_).ok ok
      have J := ren_iso ok (ord_ren O_)
      refine ⟨_, rfl, _, rfl, .ref va, O, S, od, rfl, dp_mono R12.same dvB, ok, SqL.of eO2, O_, fun u H13 s13 du => ?_⟩
      refine ⟨u, _, rfl, du, okr, fun p3 H14 s14 np3 ob3 => ⟨p3, _, rfl, ob3, okr, sta0_ok okr, fun t3 H15 s15 to3 => ?_⟩⟩
      obtain ⟨q3, ys3, vis3, l3, vv3, xs3, _, _, T3⟩ := told2_of to3
      have s125 := s13.trans (s14.trans s15)
      have eO5 := s125 _ _ eO2
      have TA := TB.mono (R12.same.trans s125)
      have ev := J.val0 ok okr TA.fo T3.fo TA.cs T3.cs
      clear s13 s14 s15 ob3 np3 to3 du
      -- turned
      refine ⟨small (by simp), fun r9 n9 => ?_⟩
      have C0 : AcqM K [] H15 (upd H15 r9 (.lst [])) r9 [] (dpaps (((papOf vv1 l1).take 0).map fun e => (renA (posI od) e.1, e.2))) := AcqM.start n9
      have lp : ys1.length = (papOf vv1 l1).length := (dps_len TA.y).trans (List.length_map ..)
      refine ⟨_, rfl, 1, rfl, t1, _, -1, .ref q1, rfl, rfl, Same.t C0.same TA.t, TA.last, q1, rfl, ⟨_, SqL.of (C0.same _ _ TA.q)⟩, for_list (K := K) (a := q1) (xs := ys1) (fun j σ H' => ∃ (zs : List V) (v11 v12 v13 : Option V), σ = [some (.ref a), some (.ref ρ.r), some (.ref va), some (.ref t1), some o, some (.ref t2), v6, some (.ref L), some (.ref O), some (.ref t3), some (.ref r9), v11, v12, v13, none, none] ∧ AcqM K [] H15 H' r9 zs (dpaps (((papOf vv1 l1).take j).map fun e => (renA (posI od) e.1, e.2)))) ⟨[], none, none, none, rfl, C0⟩ (fun j σ H' _ ⟨_, _, _, _, _, A⟩ => SqL.of (A.same _ _ TA.q)) ?_ ?_⟩
      · rintro j y σ H16 hy ⟨zs, v11, v12, v13, rfl, A⟩
        obtain ⟨d, hd, dy⟩ := dps_of_get TA.y hy
        obtain ⟨x, hx, rfl⟩ := pap_item hd
        obtain ⟨ax, bx, ux, rfl, h1, h2, h3⟩ := pap_at dy
        have hj := (List.getElem?_eq_some_iff.mp hx).1
        have xk : StaOk S x.1 := by
          obtain ⟨z, hz, ez⟩ := List.mem_map.mp (List.mem_of_getElem? hx)
          rw [← ez]
          exact found_ok ok ok0 TA.fo z (TA.pl.mem_iff.mp hz)
        obtain ⟨f1, f2⟩ := sta_few ok xk
        obtain ⟨bx', dx, ix, eb, j1, j2, j3⟩ := sta_at h2
        obtain rfl : bx = bx' := by injection eb
        refine ⟨ax, _, rfl, Same.t A.same h1, rfl, _, _, rfl, _, _, rfl, rfl, ?_⟩
        refine ⟨_, rfl, bx, _, 1, .ref dx, rfl, rfl, Same.t A.same j1, rfl, dx, rfl, ⟨_, Same.t A.same j2⟩, fun D1 nD1 => ?_⟩
        refine lc_tup (K := K) (a := dx) (xs := x.1.done.map V.int) (fun k H' => Same H16 H' ∧ H' D1 = some (.lst (((x.1.done.take k).map (posI od)).map V.int))) ⟨same_new nD1, by rw [List.take_zero]; exact upd_same⟩ (fun k H' _ h => Same.t (A.same.trans h.1) j2) ?_ ?_
        · rintro k y H17 hy ⟨s17, e17⟩
          obtain ⟨z, hz, rfl⟩ := int_item hy
          have hz' := xk.done.mem (List.mem_of_getElem? hz)
          have hk := (List.getElem?_eq_some_iff.mp hz).1
          refine ⟨rfl, ?_⟩
          dsimp only [tYes]
          rw [if_pos rfl]
          have ho := SqL.of (K := K) ((A.same.trans s17) _ _ eO5)
          refine ⟨_, rfl, .inl ⟨rfl, _, ho⟩, _, rfl, ?_⟩
          dsimp only [tNil]
          refine index_at O_ ho (O_.all hz'.1 hz'.2) ⟨_, e17, ?_, fun b o h => ?_, ?_⟩
          · rw [List.length_map, List.length_map, List.length_take]
            exact size4 (by omega)
          · rw [upd_ne (ne_of_none h nD1)]
            exact s17 b o h
          · rw [upd_same, take_snoc hz, List.map_append, List.map_append]
            rfl
        · rintro H17 ⟨s17, e17⟩
          rw [List.length_map, List.take_length] at e17
          refine ⟨D1, _, rfl, SqL.of e17, by rw [List.length_map]; omega, fun ms pb pm sr nb => ?_⟩
          have em : ms = renL (posI od) x.1.done := sortI_of pm sr
          subst em
          have t5 := same_new (o := .lst ((renL (posI od) x.1.done).map V.int)) nb
          refine ⟨pb, _, rfl, .inl ⟨lst_new, fun pc nc => ?_⟩⟩
          have t6 := same_new (o := .tup ((renL (posI od) x.1.done).map V.int)) nc
          have e6 : SqT K (upd (upd H17 pb (.lst ((renL (posI od) x.1.done).map V.int))) pc (.tup ((renL (posI od) x.1.done).map V.int))) pc ((renL (posI od) x.1.done).map V.int) := tup_new
          have s18 := s17.trans (t5.trans t6)
          generalize upd (upd H17 pb (.lst ((renL (posI od) x.1.done).map V.int))) pc (.tup ((renL (posI od) x.1.done).map V.int)) = H18 at e6 s18 ⊢
          have A18 := A.pure s18
          have j1' := Same.t A18.same j1
          refine ⟨_, rfl, .inl ⟨rfl, _, SqL.of A18.el⟩, _, rfl, bx, _, 0, .int x.1.aisle, rfl, rfl, j1', rfl, _, rfl, _, rfl, bx, _, 2, .ref ix, rfl, rfl, j1', rfl, _, rfl, bx, _, 3, .int x.1.kept, rfl, rfl, j1', rfl, small (by simp), fun pa npa => ?_⟩
          have t7 := same_new (o := .tup [.int x.1.aisle, .ref pc, .ref ix, .int x.1.kept]) npa
          have e7 : SqT K (upd H18 pa (.tup [.int x.1.aisle, .ref pc, .ref ix, .int x.1.kept])) pa [.int x.1.aisle, .ref pc, .ref ix, .int x.1.kept] := tup_new
          generalize upd H18 pa (.tup [.int x.1.aisle, .ref pc, .ref ix, .int x.1.kept]) = H19 at t7 e7 ⊢
          refine ⟨_, rfl, small (by simp), fun pt npt => ?_⟩
          have t8 := same_new (o := .tup [.ref pa, ux]) npt
          have A20 := A18.pure (t7.trans t8)
          have n1 : pt ≠ r9 := fun z => by rw [z, t7 _ _ A18.el] at npt; cases npt
          have no := (A20.mu (fun b hb => nomatch hb)).no
          have dsta : Dp K (upd H19 pt (.tup [.ref pa, ux])) (.ref pa) (renA (posI od) x.1).d := at_sta (s := renA (posI od) x.1) (Same.t t8 e7) (Same.t (t7.trans t8) e6) (Same.t (A20.same) j3)
          refine ⟨r9, zs, .ref pt, rfl, rfl, A20.el, ?_, zs ++ [.ref pt], _, _, _, rfl, ?_⟩
          · have h := dps_len A.dx
            unfold dpaps at h
            rw [List.length_map, List.length_map, List.length_take] at h
            have := few1.2
            exact size4 (by omega)
          · have e : dpaps (((papOf vv1 l1).take (j + 1)).map fun e => (renA (posI od) e.1, e.2)) = dpaps (((papOf vv1 l1).take j).map fun e => (renA (posI od) e.1, e.2)) ++ [dpap (renA (posI od) x.1, x.2)] := by
              unfold dpaps
              rw [take_snoc hx, List.map_append, List.map_append]
              rfl
            rw [e]
            exact A20.app (.tup (SqT.of (by rw [imm_at (by simp [n1])]; exact upd_same)) (.cons (dp_imm no dsta (noL_sta _)) (.cons (dp_imm no (dp_mono A20.same h3) (nodot _)) .nil)))
      · rintro σ H16 ⟨zs, v11, v12, v13, rfl, A⟩
        rw [lp, List.take_length] at A
        obtain ⟨nb1, lf1⟩ := map_nums (f := renA (posI od)) few1
        have few3 := T3.nums okr
        refine ⟨_, rfl, r9, zs, _, rfl, SqL.of A.el, dps_mono imm_sub A.dx, nb1, lf1, fun q8 zs8 ds8 H17 s17 e8 d8 pm8 so8 => ?_⟩
        have s157 := A.same.trans s17
        refine ⟨_, rfl, 1, rfl, t3, _, -1, .ref q3, rfl, rfl, Same.t s157 T3.t, T3.last, q3, ys3, papOf vv3 l3, rfl, SqL.of (s157 _ _ T3.q), dps_mono s157 T3.y, few3.1, few3.2, fun q9 zs9 ds9 H18 s18 e9 d9 pm9 so9 => ?_⟩
        have ed := told_one (J.paps ok okr TA.fo T3.fo TA.cs T3.cs TA.pl T3.pl) pm8 pm9 so8 so9
        subst ed
        refine ⟨.list ds8, .list ds8, .lst (SqL.of (s18 _ _ e8)) (dps_mono s18 d8), .lst (SqL.of e9) d9, (told_lays pm8).shaped, (told_lays pm9).shaped, _, rfl, ?_⟩
        rw [(told_lays pm8).refl]
        refine iteF ?_
        have tt1 := Same.t (s157.trans s18) TA.t
        have tt3 := Same.t (s157.trans s18) T3.t
        rcases TA.w with ⟨e1, hv1⟩ | ⟨p1, zs1, ts1, en1, e1, _, _, _, _, hv1, _⟩
        · rw [e1] at tt1
          rcases T3.w with ⟨e3, hv3⟩ | ⟨p4, zs4, ts4, en4, e3, _, _, _, _, hv3, _⟩
          · rw [e3] at tt3
            refine ⟨_, rfl, t3, _, 0, _, rfl, rfl, tt3, rfl, _, rfl, t1, _, 0, _, rfl, rfl, tt1, rfl, rfl, ?_⟩
            refine ⟨_, rfl, (if_pos (decide_eq_true rfl)).mpr ?_⟩
            refine ⟨_, rfl, t1, _, 0, _, rfl, rfl, tt1, rfl, rfl, ?_⟩
            refine ⟨_, rfl, (if_pos (decide_eq_true rfl)).mpr ?_⟩
            exact q H18
          · rw [hv1, hv3] at ev
            cases ev
        · rw [e1] at tt1
          rcases T3.w with ⟨e3, hv3⟩ | ⟨p4, zs4, ts4, en4, e3, _, _, _, _, hv3, _⟩
          · rw [hv1, hv3] at ev
            cases ev
          · rw [e3] at tt3
            rw [hv1, hv3] at ev
            have ec := Option.some.inj ev
            refine ⟨_, rfl, t3, _, 0, _, rfl, rfl, tt3, rfl, _, rfl, t1, _, 0, _, rfl, rfl, tt1, rfl, rfl, ?_⟩
            refine ⟨_, rfl, (if_pos (decide_eq_true rfl)).mpr ?_⟩
            refine ⟨_, rfl, t1, _, 0, _, rfl, rfl, tt1, rfl, rfl, ?_⟩
            refine ⟨_, rfl, (if_neg (by rw [decide_eq_false (sne (by decide +kernel))]; exact Bool.false_ne_true)).mpr ?_⟩
            refine ⟨_, rfl, t3, _, 2, _, rfl, rfl, tt3, rfl, _, rfl, t1, _, 2, _, rfl, rfl, tt1, rfl, rfl, ?_⟩
            rw [ec, decide_eq_true rfl]
            exact q H18
    · rw [decide_eq_false hlf]
      refine (if_pos rfl).mpr ⟨fun σ' H' => ∃ m', m' < lf.length ∧ ∃ lf' od' : List Int, m' = lf'.length ∧ σ' = [some (.ref a), some (.ref ρ.r), some (.ref va), some (.ref t1), some o, some (.ref t2), v6, some (.ref L), some (.ref O), none, none, none, none, none, none, none] ∧ RowSt K ρ B H' ∧ H' L = some (.lst (lf'.map V.int)) ∧ H' O = some (.lst (od'.map V.int)) ∧ (od' ++ lf').Perm (rgI ysS.length), fun _ _ h => h, ?_⟩
      have lpos : 0 < lf.length := List.length_pos_iff.mpr hlf
      have RP := (R12.add eL2 rL bL).add eO2 rO (by rw [upd_ne (Ne.symm LO)]; exact bO)
      refine ⟨_, rfl, .inl ⟨rfl, _, SqL.of eO2⟩, _, rfl, .inl ⟨rfl, _, SqL.of eL2⟩, _, rfl, _, rfl, L, _, rfl, .inl (SqL.of eL2), ρ, ((lf.map V.int).length : Int), _, rfl, by rw [List.length_map]; omega, RP, fun z H13 z0 z1 R13 => ?_⟩
      rw [List.length_map] at z1
      have zk : z.toNat < lf.length := by omega
      have hz := List.getElem?_eq_getElem zk
      have eO3 : H13 O = some (.lst (od.map V.int)) := R13.same _ _ upd_same
      have eL3 : H13 L = some (.lst (lf.map V.int)) := R13.same _ _ (by rw [upd_ne LO]; exact upd_same)
      have sB : Same B (upd (upd B L (.lst (lf.map V.int))) O (.lst (od.map V.int))) := (same_new bL).trans (same_new (by rw [upd_ne (Ne.symm LO)]; exact bO))
      have R14 := R13.less sB RB.scr
      refine ⟨L, lf.map V.int, z, z.toNat, .int lf[z.toNat], rfl, rfl, eL3, by omega, by omega, by rw [List.length_map]; exact seq_at z0 (by omega), by rw [List.getElem?_map, hz]; rfl, ?_⟩
      refine ⟨O, od.map V.int, .int lf[z.toNat], rfl, rfl, by rw [upd_ne (Ne.symm LO)]; exact eO3, size4 (by rw [List.length_map]; omega), _, ?_, lf.eraseIdx z.toNat, od ++ [lf[z.toNat]], rfl, rfl, (R14.put rL bL).put rO bO, ?_, ?_, ?_⟩
      · rw [List.length_eraseIdx, if_pos zk]
        omega
      · rw [upd_ne LO, upd_same, erase_map]
      · rw [upd_same, List.map_append]
        rfl
      · rw [List.append_assoc]
        exact ((erase_perm zk).append_left od).trans pm
end

theorem wr_tup {K : PySem.W.Frag} {a : Addr} {d : Option Addr} {its : Array Value} {n : Nat} {sl : Array (Option Value)} {xs : List V} (h : K.lookup a = some ⟨.type "tuple", d, .seq its n, sl⟩) (hz : its.size ≤ 1000) (r : Vals xs its.toList) (H : Hp) : SqT K H a xs :=
  .inr ⟨_, its, n, h, rfl, rfl, small hz, r⟩
theorem all_mk {l : PySem.W.OpenLaw} {w : World} {K : PySem.W.Frag} {h : Heap} {mg : Str → Option Value} {fa : Addr} (X : K.In h) (G : h.Ns mainGlobals mg) (hfa : mg "law" = some (.ref fa))
    {C : Addr}
    {f_begin : Addr} {od_begin an_begin : Option Addr} {sl_begin : Array (Option Value)} {oc_begin kV_begin dc_begin pm_begin cd_begin ct_begin : Value}
    {f_steps_at : Addr} {od_steps_at an_steps_at : Option Addr} {sl_steps_at : Array (Option Value)} {oc_steps_at kV_steps_at dc_steps_at pm_steps_at cd_steps_at ct_steps_at : Value}
    {f_played : Addr} {od_played an_played : Option Addr} {sl_played : Array (Option Value)} {oc_played kV_played dc_played pm_played cd_played ct_played : Value}
    {f_shifts : Addr} {od_shifts an_shifts : Option Addr} {sl_shifts : Array (Option Value)} {oc_shifts kV_shifts dc_shifts pm_shifts cd_shifts ct_shifts : Value}
    {f_is_end : Addr} {od_is_end an_is_end : Option Addr} {sl_is_end : Array (Option Value)} {oc_is_end kV_is_end dc_is_end pm_is_end cd_is_end ct_is_end : Value}
    {f_behind : Addr} {od_behind an_behind : Option Addr} {sl_behind : Array (Option Value)} {oc_behind kV_behind dc_behind pm_behind cd_behind ct_behind : Value}
    {f_shifts_of : Addr} {od_shifts_of an_shifts_of : Option Addr} {sl_shifts_of : Array (Option Value)} {oc_shifts_of kV_shifts_of dc_shifts_of pm_shifts_of cd_shifts_of ct_shifts_of : Value}
    {f_refuse_no_steps : Addr} {od_refuse_no_steps an_refuse_no_steps : Option Addr} {sl_refuse_no_steps : Array (Option Value)} {oc_refuse_no_steps kV_refuse_no_steps dc_refuse_no_steps pm_refuse_no_steps cd_refuse_no_steps ct_refuse_no_steps : Value}
    {f__all_steps : Addr} {od__all_steps an__all_steps : Option Addr} {sl__all_steps : Array (Option Value)} {oc__all_steps kV__all_steps dc__all_steps pm__all_steps cd__all_steps ct__all_steps : Value}
    {f__bar : Addr} {od__bar an__bar : Option Addr} {sl__bar : Array (Option Value)} {oc__bar kV__bar dc__bar pm__bar cd__bar ct__bar : Value}
    {f__bar_of_shift : Addr} {od__bar_of_shift an__bar_of_shift : Option Addr} {sl__bar_of_shift : Array (Option Value)} {oc__bar_of_shift kV__bar_of_shift dc__bar_of_shift pm__bar_of_shift cd__bar_of_shift ct__bar_of_shift : Value}
    {f__bar_of_going_in : Addr} {od__bar_of_going_in an__bar_of_going_in : Option Addr} {sl__bar_of_going_in : Array (Option Value)} {oc__bar_of_going_in kV__bar_of_going_in dc__bar_of_going_in pm__bar_of_going_in cd__bar_of_going_in ct__bar_of_going_in : Value}
    {f__bar_of_going_out : Addr} {od__bar_of_going_out an__bar_of_going_out : Option Addr} {sl__bar_of_going_out : Array (Option Value)} {oc__bar_of_going_out kV__bar_of_going_out dc__bar_of_going_out pm__bar_of_going_out cd__bar_of_going_out ct__bar_of_going_out : Value}
    {f__bar_of_wish : Addr} {od__bar_of_wish an__bar_of_wish : Option Addr} {sl__bar_of_wish : Array (Option Value)} {oc__bar_of_wish kV__bar_of_wish dc__bar_of_wish pm__bar_of_wish cd__bar_of_wish ct__bar_of_wish : Value}
    {f__bar_of_load : Addr} {od__bar_of_load an__bar_of_load : Option Addr} {sl__bar_of_load : Array (Option Value)} {oc__bar_of_load kV__bar_of_load dc__bar_of_load pm__bar_of_load cd__bar_of_load ct__bar_of_load : Value}
    {f__is_beside : Addr} {od__is_beside an__is_beside : Option Addr} {sl__is_beside : Array (Option Value)} {oc__is_beside kV__is_beside dc__is_beside pm__is_beside cd__is_beside ct__is_beside : Value}
    {f__has_now : Addr} {od__has_now an__has_now : Option Addr} {sl__has_now : Array (Option Value)} {oc__has_now kV__has_now dc__has_now pm__has_now cd__has_now ct__has_now : Value}
    {f_least_from : Addr} {od_least_from an_least_from : Option Addr} {sl_least_from : Array (Option Value)} {oc_least_from kV_least_from dc_least_from pm_least_from cd_least_from ct_least_from : Value}
    {f__ways_from : Addr} {od__ways_from an__ways_from : Option Addr} {sl__ways_from : Array (Option Value)} {oc__ways_from kV__ways_from dc__ways_from pm__ways_from cd__ways_from ct__ways_from : Value}
    {f__costs : Addr} {od__costs an__costs : Option Addr} {sl__costs : Array (Option Value)} {oc__costs kV__costs dc__costs pm__costs cd__costs ct__costs : Value}
    {f__earlier : Addr} {od__earlier an__earlier : Option Addr} {sl__earlier : Array (Option Value)} {oc__earlier kV__earlier dc__earlier pm__earlier cd__earlier ct__earlier : Value}
    {f__plan : Addr} {od__plan an__plan : Option Addr} {sl__plan : Array (Option Value)} {oc__plan kV__plan dc__plan pm__plan cd__plan ct__plan : Value}
    {f__best_step : Addr} {od__best_step an__best_step : Option Addr} {sl__best_step : Array (Option Value)} {oc__best_step kV__best_step dc__best_step pm__best_step cd__best_step ct__best_step : Value}
    {f__paper : Addr} {od__paper an__paper : Option Addr} {sl__paper : Array (Option Value)} {oc__paper kV__paper dc__paper pm__paper cd__paper ct__paper : Value}
    {f_least : Addr} {od_least an_least : Option Addr} {sl_least : Array (Option Value)} {oc_least kV_least dc_least pm_least cd_least ct_least : Value}
    {f_Store___init__ : Addr} {od_Store___init__ an_Store___init__ : Option Addr} {sl_Store___init__ : Array (Option Value)} {oc_Store___init__ kV_Store___init__ dc_Store___init__ pm_Store___init__ cd_Store___init__ ct_Store___init__ : Value}
    {f_Store_shelves : Addr} {od_Store_shelves an_Store_shelves : Option Addr} {sl_Store_shelves : Array (Option Value)} {oc_Store_shelves kV_Store_shelves dc_Store_shelves pm_Store_shelves cd_Store_shelves ct_Store_shelves : Value}
    {f_Store_wishes : Addr} {od_Store_wishes an_Store_wishes : Option Addr} {sl_Store_wishes : Array (Option Value)} {oc_Store_wishes kV_Store_wishes dc_Store_wishes pm_Store_wishes cd_Store_wishes ct_Store_wishes : Value}
    {f__refuse_no_store : Addr} {od__refuse_no_store an__refuse_no_store : Option Addr} {sl__refuse_no_store : Array (Option Value)} {oc__refuse_no_store kV__refuse_no_store dc__refuse_no_store pm__refuse_no_store cd__refuse_no_store ct__refuse_no_store : Value}
    {f__is_shelf : Addr} {od__is_shelf an__is_shelf : Option Addr} {sl__is_shelf : Array (Option Value)} {oc__is_shelf kV__is_shelf dc__is_shelf pm__is_shelf cd__is_shelf ct__is_shelf : Value}
    {f__is_wish : Addr} {od__is_wish an__is_wish : Option Addr} {sl__is_wish : Array (Option Value)} {oc__is_wish kV__is_wish dc__is_wish pm__is_wish cd__is_wish ct__is_wish : Value}
    {f__is_rising : Addr} {od__is_rising an__is_rising : Option Addr} {sl__is_rising : Array (Option Value)} {oc__is_rising kV__is_rising dc__is_rising pm__is_rising cd__is_rising ct__is_rising : Value}
    {f__law_taken : Addr} {od__law_taken an__law_taken : Option Addr} {sl__law_taken : Array (Option Value)} {oc__law_taken kV__law_taken dc__law_taken pm__law_taken cd__law_taken ct__law_taken : Value}
    {f__law_wish : Addr} {od__law_wish an__law_wish : Option Addr} {sl__law_wish : Array (Option Value)} {oc__law_wish kV__law_wish dc__law_wish pm__law_wish cd__law_wish ct__law_wish : Value}
    {f__law_store : Addr} {od__law_store an__law_store : Option Addr} {sl__law_store : Array (Option Value)} {oc__law_store kV__law_store dc__law_store pm__law_store cd__law_store ct__law_store : Value}
    {f__law_made : Addr} {od__law_made an__law_made : Option Addr} {sl__law_made : Array (Option Value)} {oc__law_made kV__law_made dc__law_made pm__law_made cd__law_made ct__law_made : Value}
    {f__law_mirrored : Addr} {od__law_mirrored an__law_mirrored : Option Addr} {sl__law_mirrored : Array (Option Value)} {oc__law_mirrored kV__law_mirrored dc__law_mirrored pm__law_mirrored cd__law_mirrored ct__law_mirrored : Value}
    {f__law_mirror_state : Addr} {od__law_mirror_state an__law_mirror_state : Option Addr} {sl__law_mirror_state : Array (Option Value)} {oc__law_mirror_state kV__law_mirror_state dc__law_mirror_state pm__law_mirror_state cd__law_mirror_state ct__law_mirror_state : Value}
    {f__law_mirror_step : Addr} {od__law_mirror_step an__law_mirror_step : Option Addr} {sl__law_mirror_step : Array (Option Value)} {oc__law_mirror_step kV__law_mirror_step dc__law_mirror_step pm__law_mirror_step cd__law_mirror_step ct__law_mirror_step : Value}
    {f__law_as_told : Addr} {od__law_as_told an__law_as_told : Option Addr} {sl__law_as_told : Array (Option Value)} {oc__law_as_told kV__law_as_told dc__law_as_told pm__law_as_told cd__law_as_told ct__law_as_told : Value}
    {f__law_ordered : Addr} {od__law_ordered an__law_ordered : Option Addr} {sl__law_ordered : Array (Option Value)} {oc__law_ordered kV__law_ordered dc__law_ordered pm__law_ordered cd__law_ordered ct__law_ordered : Value}
    {f_law : Addr} {od_law an_law : Option Addr} {sl_law : Array (Option Value)} {oc_law kV_law dc_law pm_law cd_law ct_law : Value}
    {t_MOST_SHELVES : Tok}
    {t_MOST_ROOM : Tok}
    {t_MOST_WISHES : Tok}
    {t_MOST_KEEP : Tok}
    {tKINDS0 : Tok}
    {tKINDS1 : Tok}
    {a_KINDS : Addr} {d_KINDS : Option Addr} {n_KINDS : Nat} {sl_KINDS : Array (Option Value)}
    {tSIDES0 : Tok}
    {tSIDES1 : Tok}
    {tSIDES2 : Tok}
    {a_SIDES : Addr} {d_SIDES : Option Addr} {n_SIDES : Nat} {sl_SIDES : Array (Option Value)}
    {a_SS : Addr} {d_SS : Option Addr} {n_SS : Nat} {sl_SS : Array (Option Value)} {b0 b1 b2 b3 b4 b5 b6 : Addr}
    {tS0_0 : Tok}
    {dS0 : Option Addr} {nS0 : Nat} {sS0 : Array (Option Value)}
    {tS1_0 : Tok}
    {tS1_1 : Tok}
    {dS1 : Option Addr} {nS1 : Nat} {sS1 : Array (Option Value)}
    {tS2_0 : Tok}
    {tS2_1 : Tok}
    {dS2 : Option Addr} {nS2 : Nat} {sS2 : Array (Option Value)}
    {tS3_0 : Tok}
    {tS3_1 : Tok}
    {dS3 : Option Addr} {nS3 : Nat} {sS3 : Array (Option Value)}
    {tS4_0 : Tok}
    {tS4_1 : Tok}
    {dS4 : Option Addr} {nS4 : Nat} {sS4 : Array (Option Value)}
    {tS5_0 : Tok}
    {tS5_1 : Tok}
    {dS5 : Option Addr} {nS5 : Nat} {sS5 : Array (Option Value)}
    {tS6_0 : Tok}
    {tS6_1 : Tok}
    {dS6 : Option Addr} {nS6 : Nat} {sS6 : Array (Option Value)}
    (aC : PySem.W.nsIn K mainGlobals "Store" = some (some (.ref C)))
    (a_begin : PySem.W.nsIn K mainGlobals "begin" = some (some (.ref f_begin)))
    (l_begin : K.lookup f_begin = some ⟨oc_begin, od_begin, .func (PySem.W.fnOf "begin" "begin" (defArgs s_begin) (defBody s_begin) (defScope s_begin) .none kV_begin dc_begin pm_begin an_begin cd_begin ct_begin), sl_begin⟩)
    (c_begin : PySem.W.codeIn K cd_begin "begin" = true)
    (k_begin : PySem.W.keepIn K (.ref f_begin) = true)
    (a_steps_at : PySem.W.nsIn K mainGlobals "steps_at" = some (some (.ref f_steps_at)))
    (l_steps_at : K.lookup f_steps_at = some ⟨oc_steps_at, od_steps_at, .func (PySem.W.fnOf "steps_at" "steps_at" (defArgs s_steps_at) (defBody s_steps_at) (defScope s_steps_at) .none kV_steps_at dc_steps_at pm_steps_at an_steps_at cd_steps_at ct_steps_at), sl_steps_at⟩)
    (c_steps_at : PySem.W.codeIn K cd_steps_at "steps_at" = true)
    (k_steps_at : PySem.W.keepIn K (.ref f_steps_at) = true)
    (a_played : PySem.W.nsIn K mainGlobals "played" = some (some (.ref f_played)))
    (l_played : K.lookup f_played = some ⟨oc_played, od_played, .func (PySem.W.fnOf "played" "played" (defArgs s_played) (defBody s_played) (defScope s_played) .none kV_played dc_played pm_played an_played cd_played ct_played), sl_played⟩)
    (c_played : PySem.W.codeIn K cd_played "played" = true)
    (k_played : PySem.W.keepIn K (.ref f_played) = true)
    (a_shifts : PySem.W.nsIn K mainGlobals "shifts" = some (some (.ref f_shifts)))
    (l_shifts : K.lookup f_shifts = some ⟨oc_shifts, od_shifts, .func (PySem.W.fnOf "shifts" "shifts" (defArgs s_shifts) (defBody s_shifts) (defScope s_shifts) .none kV_shifts dc_shifts pm_shifts an_shifts cd_shifts ct_shifts), sl_shifts⟩)
    (c_shifts : PySem.W.codeIn K cd_shifts "shifts" = true)
    (k_shifts : PySem.W.keepIn K (.ref f_shifts) = true)
    (a_is_end : PySem.W.nsIn K mainGlobals "is_end" = some (some (.ref f_is_end)))
    (l_is_end : K.lookup f_is_end = some ⟨oc_is_end, od_is_end, .func (PySem.W.fnOf "is_end" "is_end" (defArgs s_is_end) (defBody s_is_end) (defScope s_is_end) .none kV_is_end dc_is_end pm_is_end an_is_end cd_is_end ct_is_end), sl_is_end⟩)
    (c_is_end : PySem.W.codeIn K cd_is_end "is_end" = true)
    (k_is_end : PySem.W.keepIn K (.ref f_is_end) = true)
    (a_behind : PySem.W.nsIn K mainGlobals "behind" = some (some (.ref f_behind)))
    (l_behind : K.lookup f_behind = some ⟨oc_behind, od_behind, .func (PySem.W.fnOf "behind" "behind" (defArgs s_behind) (defBody s_behind) (defScope s_behind) .none kV_behind dc_behind pm_behind an_behind cd_behind ct_behind), sl_behind⟩)
    (c_behind : PySem.W.codeIn K cd_behind "behind" = true)
    (k_behind : PySem.W.keepIn K (.ref f_behind) = true)
    (a_shifts_of : PySem.W.nsIn K mainGlobals "shifts_of" = some (some (.ref f_shifts_of)))
    (l_shifts_of : K.lookup f_shifts_of = some ⟨oc_shifts_of, od_shifts_of, .func (PySem.W.fnOf "shifts_of" "shifts_of" (defArgs s_shifts_of) (defBody s_shifts_of) (defScope s_shifts_of) .none kV_shifts_of dc_shifts_of pm_shifts_of an_shifts_of cd_shifts_of ct_shifts_of), sl_shifts_of⟩)
    (c_shifts_of : PySem.W.codeIn K cd_shifts_of "shifts_of" = true)
    (k_shifts_of : PySem.W.keepIn K (.ref f_shifts_of) = true)
    (a_refuse_no_steps : PySem.W.nsIn K mainGlobals "refuse_no_steps" = some (some (.ref f_refuse_no_steps)))
    (l_refuse_no_steps : K.lookup f_refuse_no_steps = some ⟨oc_refuse_no_steps, od_refuse_no_steps, .func (PySem.W.fnOf "refuse_no_steps" "refuse_no_steps" (defArgs s_refuse_no_steps) (defBody s_refuse_no_steps) (defScope s_refuse_no_steps) .none kV_refuse_no_steps dc_refuse_no_steps pm_refuse_no_steps an_refuse_no_steps cd_refuse_no_steps ct_refuse_no_steps), sl_refuse_no_steps⟩)
    (c_refuse_no_steps : PySem.W.codeIn K cd_refuse_no_steps "refuse_no_steps" = true)
    (k_refuse_no_steps : PySem.W.keepIn K (.ref f_refuse_no_steps) = true)
    (a__all_steps : PySem.W.nsIn K mainGlobals "_all_steps" = some (some (.ref f__all_steps)))
    (l__all_steps : K.lookup f__all_steps = some ⟨oc__all_steps, od__all_steps, .func (PySem.W.fnOf "_all_steps" "_all_steps" (defArgs s__all_steps) (defBody s__all_steps) (defScope s__all_steps) .none kV__all_steps dc__all_steps pm__all_steps an__all_steps cd__all_steps ct__all_steps), sl__all_steps⟩)
    (c__all_steps : PySem.W.codeIn K cd__all_steps "_all_steps" = true)
    (k__all_steps : PySem.W.keepIn K (.ref f__all_steps) = true)
    (a__bar : PySem.W.nsIn K mainGlobals "_bar" = some (some (.ref f__bar)))
    (l__bar : K.lookup f__bar = some ⟨oc__bar, od__bar, .func (PySem.W.fnOf "_bar" "_bar" (defArgs s__bar) (defBody s__bar) (defScope s__bar) .none kV__bar dc__bar pm__bar an__bar cd__bar ct__bar), sl__bar⟩)
    (c__bar : PySem.W.codeIn K cd__bar "_bar" = true)
    (k__bar : PySem.W.keepIn K (.ref f__bar) = true)
    (a__bar_of_shift : PySem.W.nsIn K mainGlobals "_bar_of_shift" = some (some (.ref f__bar_of_shift)))
    (l__bar_of_shift : K.lookup f__bar_of_shift = some ⟨oc__bar_of_shift, od__bar_of_shift, .func (PySem.W.fnOf "_bar_of_shift" "_bar_of_shift" (defArgs s__bar_of_shift) (defBody s__bar_of_shift) (defScope s__bar_of_shift) .none kV__bar_of_shift dc__bar_of_shift pm__bar_of_shift an__bar_of_shift cd__bar_of_shift ct__bar_of_shift), sl__bar_of_shift⟩)
    (c__bar_of_shift : PySem.W.codeIn K cd__bar_of_shift "_bar_of_shift" = true)
    (k__bar_of_shift : PySem.W.keepIn K (.ref f__bar_of_shift) = true)
    (a__bar_of_going_in : PySem.W.nsIn K mainGlobals "_bar_of_going_in" = some (some (.ref f__bar_of_going_in)))
    (l__bar_of_going_in : K.lookup f__bar_of_going_in = some ⟨oc__bar_of_going_in, od__bar_of_going_in, .func (PySem.W.fnOf "_bar_of_going_in" "_bar_of_going_in" (defArgs s__bar_of_going_in) (defBody s__bar_of_going_in) (defScope s__bar_of_going_in) .none kV__bar_of_going_in dc__bar_of_going_in pm__bar_of_going_in an__bar_of_going_in cd__bar_of_going_in ct__bar_of_going_in), sl__bar_of_going_in⟩)
    (c__bar_of_going_in : PySem.W.codeIn K cd__bar_of_going_in "_bar_of_going_in" = true)
    (k__bar_of_going_in : PySem.W.keepIn K (.ref f__bar_of_going_in) = true)
    (a__bar_of_going_out : PySem.W.nsIn K mainGlobals "_bar_of_going_out" = some (some (.ref f__bar_of_going_out)))
    (l__bar_of_going_out : K.lookup f__bar_of_going_out = some ⟨oc__bar_of_going_out, od__bar_of_going_out, .func (PySem.W.fnOf "_bar_of_going_out" "_bar_of_going_out" (defArgs s__bar_of_going_out) (defBody s__bar_of_going_out) (defScope s__bar_of_going_out) .none kV__bar_of_going_out dc__bar_of_going_out pm__bar_of_going_out an__bar_of_going_out cd__bar_of_going_out ct__bar_of_going_out), sl__bar_of_going_out⟩)
    (c__bar_of_going_out : PySem.W.codeIn K cd__bar_of_going_out "_bar_of_going_out" = true)
    (k__bar_of_going_out : PySem.W.keepIn K (.ref f__bar_of_going_out) = true)
    (a__bar_of_wish : PySem.W.nsIn K mainGlobals "_bar_of_wish" = some (some (.ref f__bar_of_wish)))
    (l__bar_of_wish : K.lookup f__bar_of_wish = some ⟨oc__bar_of_wish, od__bar_of_wish, .func (PySem.W.fnOf "_bar_of_wish" "_bar_of_wish" (defArgs s__bar_of_wish) (defBody s__bar_of_wish) (defScope s__bar_of_wish) .none kV__bar_of_wish dc__bar_of_wish pm__bar_of_wish an__bar_of_wish cd__bar_of_wish ct__bar_of_wish), sl__bar_of_wish⟩)
    (c__bar_of_wish : PySem.W.codeIn K cd__bar_of_wish "_bar_of_wish" = true)
    (k__bar_of_wish : PySem.W.keepIn K (.ref f__bar_of_wish) = true)
    (a__bar_of_load : PySem.W.nsIn K mainGlobals "_bar_of_load" = some (some (.ref f__bar_of_load)))
    (l__bar_of_load : K.lookup f__bar_of_load = some ⟨oc__bar_of_load, od__bar_of_load, .func (PySem.W.fnOf "_bar_of_load" "_bar_of_load" (defArgs s__bar_of_load) (defBody s__bar_of_load) (defScope s__bar_of_load) .none kV__bar_of_load dc__bar_of_load pm__bar_of_load an__bar_of_load cd__bar_of_load ct__bar_of_load), sl__bar_of_load⟩)
    (c__bar_of_load : PySem.W.codeIn K cd__bar_of_load "_bar_of_load" = true)
    (k__bar_of_load : PySem.W.keepIn K (.ref f__bar_of_load) = true)
    (a__is_beside : PySem.W.nsIn K mainGlobals "_is_beside" = some (some (.ref f__is_beside)))
    (l__is_beside : K.lookup f__is_beside = some ⟨oc__is_beside, od__is_beside, .func (PySem.W.fnOf "_is_beside" "_is_beside" (defArgs s__is_beside) (defBody s__is_beside) (defScope s__is_beside) .none kV__is_beside dc__is_beside pm__is_beside an__is_beside cd__is_beside ct__is_beside), sl__is_beside⟩)
    (c__is_beside : PySem.W.codeIn K cd__is_beside "_is_beside" = true)
    (k__is_beside : PySem.W.keepIn K (.ref f__is_beside) = true)
    (a__has_now : PySem.W.nsIn K mainGlobals "_has_now" = some (some (.ref f__has_now)))
    (l__has_now : K.lookup f__has_now = some ⟨oc__has_now, od__has_now, .func (PySem.W.fnOf "_has_now" "_has_now" (defArgs s__has_now) (defBody s__has_now) (defScope s__has_now) .none kV__has_now dc__has_now pm__has_now an__has_now cd__has_now ct__has_now), sl__has_now⟩)
    (c__has_now : PySem.W.codeIn K cd__has_now "_has_now" = true)
    (k__has_now : PySem.W.keepIn K (.ref f__has_now) = true)
    (a_least_from : PySem.W.nsIn K mainGlobals "least_from" = some (some (.ref f_least_from)))
    (l_least_from : K.lookup f_least_from = some ⟨oc_least_from, od_least_from, .func (PySem.W.fnOf "least_from" "least_from" (defArgs s_least_from) (defBody s_least_from) (defScope s_least_from) .none kV_least_from dc_least_from pm_least_from an_least_from cd_least_from ct_least_from), sl_least_from⟩)
    (c_least_from : PySem.W.codeIn K cd_least_from "least_from" = true)
    (k_least_from : PySem.W.keepIn K (.ref f_least_from) = true)
    (a__ways_from : PySem.W.nsIn K mainGlobals "_ways_from" = some (some (.ref f__ways_from)))
    (l__ways_from : K.lookup f__ways_from = some ⟨oc__ways_from, od__ways_from, .func (PySem.W.fnOf "_ways_from" "_ways_from" (defArgs s__ways_from) (defBody s__ways_from) (defScope s__ways_from) .none kV__ways_from dc__ways_from pm__ways_from an__ways_from cd__ways_from ct__ways_from), sl__ways_from⟩)
    (c__ways_from : PySem.W.codeIn K cd__ways_from "_ways_from" = true)
    (k__ways_from : PySem.W.keepIn K (.ref f__ways_from) = true)
    (a__costs : PySem.W.nsIn K mainGlobals "_costs" = some (some (.ref f__costs)))
    (l__costs : K.lookup f__costs = some ⟨oc__costs, od__costs, .func (PySem.W.fnOf "_costs" "_costs" (defArgs s__costs) (defBody s__costs) (defScope s__costs) .none kV__costs dc__costs pm__costs an__costs cd__costs ct__costs), sl__costs⟩)
    (c__costs : PySem.W.codeIn K cd__costs "_costs" = true)
    (k__costs : PySem.W.keepIn K (.ref f__costs) = true)
    (a__earlier : PySem.W.nsIn K mainGlobals "_earlier" = some (some (.ref f__earlier)))
    (l__earlier : K.lookup f__earlier = some ⟨oc__earlier, od__earlier, .func (PySem.W.fnOf "_earlier" "_earlier" (defArgs s__earlier) (defBody s__earlier) (defScope s__earlier) .none kV__earlier dc__earlier pm__earlier an__earlier cd__earlier ct__earlier), sl__earlier⟩)
    (c__earlier : PySem.W.codeIn K cd__earlier "_earlier" = true)
    (k__earlier : PySem.W.keepIn K (.ref f__earlier) = true)
    (a__plan : PySem.W.nsIn K mainGlobals "_plan" = some (some (.ref f__plan)))
    (l__plan : K.lookup f__plan = some ⟨oc__plan, od__plan, .func (PySem.W.fnOf "_plan" "_plan" (defArgs s__plan) (defBody s__plan) (defScope s__plan) .none kV__plan dc__plan pm__plan an__plan cd__plan ct__plan), sl__plan⟩)
    (c__plan : PySem.W.codeIn K cd__plan "_plan" = true)
    (k__plan : PySem.W.keepIn K (.ref f__plan) = true)
    (a__best_step : PySem.W.nsIn K mainGlobals "_best_step" = some (some (.ref f__best_step)))
    (l__best_step : K.lookup f__best_step = some ⟨oc__best_step, od__best_step, .func (PySem.W.fnOf "_best_step" "_best_step" (defArgs s__best_step) (defBody s__best_step) (defScope s__best_step) .none kV__best_step dc__best_step pm__best_step an__best_step cd__best_step ct__best_step), sl__best_step⟩)
    (c__best_step : PySem.W.codeIn K cd__best_step "_best_step" = true)
    (k__best_step : PySem.W.keepIn K (.ref f__best_step) = true)
    (a__paper : PySem.W.nsIn K mainGlobals "_paper" = some (some (.ref f__paper)))
    (l__paper : K.lookup f__paper = some ⟨oc__paper, od__paper, .func (PySem.W.fnOf "_paper" "_paper" (defArgs s__paper) (defBody s__paper) (defScope s__paper) .none kV__paper dc__paper pm__paper an__paper cd__paper ct__paper), sl__paper⟩)
    (c__paper : PySem.W.codeIn K cd__paper "_paper" = true)
    (k__paper : PySem.W.keepIn K (.ref f__paper) = true)
    (a_least : PySem.W.nsIn K mainGlobals "least" = some (some (.ref f_least)))
    (l_least : K.lookup f_least = some ⟨oc_least, od_least, .func (PySem.W.fnOf "least" "least" (defArgs s_least) (defBody s_least) (defScope s_least) .none kV_least dc_least pm_least an_least cd_least ct_least), sl_least⟩)
    (c_least : PySem.W.codeIn K cd_least "least" = true)
    (k_least : PySem.W.keepIn K (.ref f_least) = true)
    (a_Store___init__ : PySem.W.findIn K (.ref C) "__init__" = some (some (.ref f_Store___init__)))
    (i_Store___init__ : PySem.W.isFn K (.ref f_Store___init__) = true)
    (l_Store___init__ : K.lookup f_Store___init__ = some ⟨oc_Store___init__, od_Store___init__, .func (PySem.W.fnOf "__init__" "Store.__init__" (defArgs s_Store___init__) (defBody s_Store___init__) (defScope s_Store___init__) .none kV_Store___init__ dc_Store___init__ pm_Store___init__ an_Store___init__ cd_Store___init__ ct_Store___init__), sl_Store___init__⟩)
    (c_Store___init__ : PySem.W.codeIn K cd_Store___init__ "Store.__init__" = true)
    (k_Store___init__ : PySem.W.keepIn K (.ref f_Store___init__) = true)
    (a_Store_shelves : PySem.W.findIn K (.ref C) "shelves" = some (some (.ref f_Store_shelves)))
    (i_Store_shelves : PySem.W.isFn K (.ref f_Store_shelves) = true)
    (l_Store_shelves : K.lookup f_Store_shelves = some ⟨oc_Store_shelves, od_Store_shelves, .func (PySem.W.fnOf "shelves" "Store.shelves" (defArgs s_Store_shelves) (defBody s_Store_shelves) (defScope s_Store_shelves) .none kV_Store_shelves dc_Store_shelves pm_Store_shelves an_Store_shelves cd_Store_shelves ct_Store_shelves), sl_Store_shelves⟩)
    (c_Store_shelves : PySem.W.codeIn K cd_Store_shelves "Store.shelves" = true)
    (k_Store_shelves : PySem.W.keepIn K (.ref f_Store_shelves) = true)
    (a_Store_wishes : PySem.W.findIn K (.ref C) "wishes" = some (some (.ref f_Store_wishes)))
    (i_Store_wishes : PySem.W.isFn K (.ref f_Store_wishes) = true)
    (l_Store_wishes : K.lookup f_Store_wishes = some ⟨oc_Store_wishes, od_Store_wishes, .func (PySem.W.fnOf "wishes" "Store.wishes" (defArgs s_Store_wishes) (defBody s_Store_wishes) (defScope s_Store_wishes) .none kV_Store_wishes dc_Store_wishes pm_Store_wishes an_Store_wishes cd_Store_wishes ct_Store_wishes), sl_Store_wishes⟩)
    (c_Store_wishes : PySem.W.codeIn K cd_Store_wishes "Store.wishes" = true)
    (k_Store_wishes : PySem.W.keepIn K (.ref f_Store_wishes) = true)
    (a__refuse_no_store : PySem.W.nsIn K mainGlobals "_refuse_no_store" = some (some (.ref f__refuse_no_store)))
    (l__refuse_no_store : K.lookup f__refuse_no_store = some ⟨oc__refuse_no_store, od__refuse_no_store, .func (PySem.W.fnOf "_refuse_no_store" "_refuse_no_store" (defArgs s__refuse_no_store) (defBody s__refuse_no_store) (defScope s__refuse_no_store) .none kV__refuse_no_store dc__refuse_no_store pm__refuse_no_store an__refuse_no_store cd__refuse_no_store ct__refuse_no_store), sl__refuse_no_store⟩)
    (c__refuse_no_store : PySem.W.codeIn K cd__refuse_no_store "_refuse_no_store" = true)
    (k__refuse_no_store : PySem.W.keepIn K (.ref f__refuse_no_store) = true)
    (a__is_shelf : PySem.W.nsIn K mainGlobals "_is_shelf" = some (some (.ref f__is_shelf)))
    (l__is_shelf : K.lookup f__is_shelf = some ⟨oc__is_shelf, od__is_shelf, .func (PySem.W.fnOf "_is_shelf" "_is_shelf" (defArgs s__is_shelf) (defBody s__is_shelf) (defScope s__is_shelf) .none kV__is_shelf dc__is_shelf pm__is_shelf an__is_shelf cd__is_shelf ct__is_shelf), sl__is_shelf⟩)
    (c__is_shelf : PySem.W.codeIn K cd__is_shelf "_is_shelf" = true)
    (k__is_shelf : PySem.W.keepIn K (.ref f__is_shelf) = true)
    (a__is_wish : PySem.W.nsIn K mainGlobals "_is_wish" = some (some (.ref f__is_wish)))
    (l__is_wish : K.lookup f__is_wish = some ⟨oc__is_wish, od__is_wish, .func (PySem.W.fnOf "_is_wish" "_is_wish" (defArgs s__is_wish) (defBody s__is_wish) (defScope s__is_wish) .none kV__is_wish dc__is_wish pm__is_wish an__is_wish cd__is_wish ct__is_wish), sl__is_wish⟩)
    (c__is_wish : PySem.W.codeIn K cd__is_wish "_is_wish" = true)
    (k__is_wish : PySem.W.keepIn K (.ref f__is_wish) = true)
    (a__is_rising : PySem.W.nsIn K mainGlobals "_is_rising" = some (some (.ref f__is_rising)))
    (l__is_rising : K.lookup f__is_rising = some ⟨oc__is_rising, od__is_rising, .func (PySem.W.fnOf "_is_rising" "_is_rising" (defArgs s__is_rising) (defBody s__is_rising) (defScope s__is_rising) .none kV__is_rising dc__is_rising pm__is_rising an__is_rising cd__is_rising ct__is_rising), sl__is_rising⟩)
    (c__is_rising : PySem.W.codeIn K cd__is_rising "_is_rising" = true)
    (k__is_rising : PySem.W.keepIn K (.ref f__is_rising) = true)
    (a__law_taken : PySem.W.nsIn K mainGlobals "_law_taken" = some (some (.ref f__law_taken)))
    (l__law_taken : K.lookup f__law_taken = some ⟨oc__law_taken, od__law_taken, .func (PySem.W.fnOf "_law_taken" "_law_taken" (defArgs s__law_taken) (defBody s__law_taken) (defScope s__law_taken) .none kV__law_taken dc__law_taken pm__law_taken an__law_taken cd__law_taken ct__law_taken), sl__law_taken⟩)
    (c__law_taken : PySem.W.codeIn K cd__law_taken "_law_taken" = true)
    (k__law_taken : PySem.W.keepIn K (.ref f__law_taken) = true)
    (a__law_wish : PySem.W.nsIn K mainGlobals "_law_wish" = some (some (.ref f__law_wish)))
    (l__law_wish : K.lookup f__law_wish = some ⟨oc__law_wish, od__law_wish, .func (PySem.W.fnOf "_law_wish" "_law_wish" (defArgs s__law_wish) (defBody s__law_wish) (defScope s__law_wish) .none kV__law_wish dc__law_wish pm__law_wish an__law_wish cd__law_wish ct__law_wish), sl__law_wish⟩)
    (c__law_wish : PySem.W.codeIn K cd__law_wish "_law_wish" = true)
    (k__law_wish : PySem.W.keepIn K (.ref f__law_wish) = true)
    (a__law_store : PySem.W.nsIn K mainGlobals "_law_store" = some (some (.ref f__law_store)))
    (l__law_store : K.lookup f__law_store = some ⟨oc__law_store, od__law_store, .func (PySem.W.fnOf "_law_store" "_law_store" (defArgs s__law_store) (defBody s__law_store) (defScope s__law_store) .none kV__law_store dc__law_store pm__law_store an__law_store cd__law_store ct__law_store), sl__law_store⟩)
    (c__law_store : PySem.W.codeIn K cd__law_store "_law_store" = true)
    (k__law_store : PySem.W.keepIn K (.ref f__law_store) = true)
    (a__law_made : PySem.W.nsIn K mainGlobals "_law_made" = some (some (.ref f__law_made)))
    (l__law_made : K.lookup f__law_made = some ⟨oc__law_made, od__law_made, .func (PySem.W.fnOf "_law_made" "_law_made" (defArgs s__law_made) (defBody s__law_made) (defScope s__law_made) .none kV__law_made dc__law_made pm__law_made an__law_made cd__law_made ct__law_made), sl__law_made⟩)
    (c__law_made : PySem.W.codeIn K cd__law_made "_law_made" = true)
    (k__law_made : PySem.W.keepIn K (.ref f__law_made) = true)
    (a__law_mirrored : PySem.W.nsIn K mainGlobals "_law_mirrored" = some (some (.ref f__law_mirrored)))
    (l__law_mirrored : K.lookup f__law_mirrored = some ⟨oc__law_mirrored, od__law_mirrored, .func (PySem.W.fnOf "_law_mirrored" "_law_mirrored" (defArgs s__law_mirrored) (defBody s__law_mirrored) (defScope s__law_mirrored) .none kV__law_mirrored dc__law_mirrored pm__law_mirrored an__law_mirrored cd__law_mirrored ct__law_mirrored), sl__law_mirrored⟩)
    (c__law_mirrored : PySem.W.codeIn K cd__law_mirrored "_law_mirrored" = true)
    (k__law_mirrored : PySem.W.keepIn K (.ref f__law_mirrored) = true)
    (a__law_mirror_state : PySem.W.nsIn K mainGlobals "_law_mirror_state" = some (some (.ref f__law_mirror_state)))
    (l__law_mirror_state : K.lookup f__law_mirror_state = some ⟨oc__law_mirror_state, od__law_mirror_state, .func (PySem.W.fnOf "_law_mirror_state" "_law_mirror_state" (defArgs s__law_mirror_state) (defBody s__law_mirror_state) (defScope s__law_mirror_state) .none kV__law_mirror_state dc__law_mirror_state pm__law_mirror_state an__law_mirror_state cd__law_mirror_state ct__law_mirror_state), sl__law_mirror_state⟩)
    (c__law_mirror_state : PySem.W.codeIn K cd__law_mirror_state "_law_mirror_state" = true)
    (k__law_mirror_state : PySem.W.keepIn K (.ref f__law_mirror_state) = true)
    (a__law_mirror_step : PySem.W.nsIn K mainGlobals "_law_mirror_step" = some (some (.ref f__law_mirror_step)))
    (l__law_mirror_step : K.lookup f__law_mirror_step = some ⟨oc__law_mirror_step, od__law_mirror_step, .func (PySem.W.fnOf "_law_mirror_step" "_law_mirror_step" (defArgs s__law_mirror_step) (defBody s__law_mirror_step) (defScope s__law_mirror_step) .none kV__law_mirror_step dc__law_mirror_step pm__law_mirror_step an__law_mirror_step cd__law_mirror_step ct__law_mirror_step), sl__law_mirror_step⟩)
    (c__law_mirror_step : PySem.W.codeIn K cd__law_mirror_step "_law_mirror_step" = true)
    (k__law_mirror_step : PySem.W.keepIn K (.ref f__law_mirror_step) = true)
    (a__law_as_told : PySem.W.nsIn K mainGlobals "_law_as_told" = some (some (.ref f__law_as_told)))
    (l__law_as_told : K.lookup f__law_as_told = some ⟨oc__law_as_told, od__law_as_told, .func (PySem.W.fnOf "_law_as_told" "_law_as_told" (defArgs s__law_as_told) (defBody s__law_as_told) (defScope s__law_as_told) .none kV__law_as_told dc__law_as_told pm__law_as_told an__law_as_told cd__law_as_told ct__law_as_told), sl__law_as_told⟩)
    (c__law_as_told : PySem.W.codeIn K cd__law_as_told "_law_as_told" = true)
    (k__law_as_told : PySem.W.keepIn K (.ref f__law_as_told) = true)
    (a__law_ordered : PySem.W.nsIn K mainGlobals "_law_ordered" = some (some (.ref f__law_ordered)))
    (l__law_ordered : K.lookup f__law_ordered = some ⟨oc__law_ordered, od__law_ordered, .func (PySem.W.fnOf "_law_ordered" "_law_ordered" (defArgs s__law_ordered) (defBody s__law_ordered) (defScope s__law_ordered) .none kV__law_ordered dc__law_ordered pm__law_ordered an__law_ordered cd__law_ordered ct__law_ordered), sl__law_ordered⟩)
    (c__law_ordered : PySem.W.codeIn K cd__law_ordered "_law_ordered" = true)
    (k__law_ordered : PySem.W.keepIn K (.ref f__law_ordered) = true)
    (a_law : PySem.W.nsIn K mainGlobals "law" = some (some (.ref f_law)))
    (l_law : K.lookup f_law = some ⟨oc_law, od_law, .func (PySem.W.fnOf "law" "law" (defArgs s_law) (defBody s_law) (defScope s_law) .none kV_law dc_law pm_law an_law cd_law ct_law), sl_law⟩)
    (c_law : PySem.W.codeIn K cd_law "law" = true)
    (k_law : PySem.W.keepIn K (.ref f_law) = true)
    (pgC : PySem.W.plainGet K C Str.empty = true)
    (hdC : PySem.W.hasDictIn K C = true)
    (poC : PySem.W.plainOver K C = true)
    (saC : PySem.W.findIn K (.ref C) "__setattr__" = some (some (.builtin "object.__setattr__")))
    (mkC : PySem.W.makesIn K C = true)
    (kcC : PySem.W.keepIn K (.ref C) = true)
    (nS : PySem.W.findIn K (.ref C) "_shelves" = some none)
    (nW : PySem.W.findIn K (.ref C) "_wishes" = some none)
    (nA : PySem.W.findIn K (.ref C) "aisle" = some none)
    (z_len : PySem.W.nsIn K mainGlobals "len" = some none)
    (z_list : PySem.W.nsIn K mainGlobals "list" = some none)
    (z_tuple : PySem.W.nsIn K mainGlobals "tuple" = some none)
    (z_sorted : PySem.W.nsIn K mainGlobals "sorted" = some none)
    (z_sum : PySem.W.nsIn K mainGlobals "sum" = some none)
    (z_all : PySem.W.nsIn K mainGlobals "all" = some none)
    (z_str : PySem.W.nsIn K mainGlobals "str" = some none)
    (z_min : PySem.W.nsIn K mainGlobals "min" = some none)
    (z_max : PySem.W.nsIn K mainGlobals "max" = some none)
    (z_int : PySem.W.nsIn K mainGlobals "int" = some none)
    (z_range : PySem.W.nsIn K mainGlobals "range" = some none)
    (z_enumerate : PySem.W.nsIn K mainGlobals "enumerate" = some none)
    (z_isinstance : PySem.W.nsIn K mainGlobals "isinstance" = some none)
    (z_reversed : PySem.W.nsIn K mainGlobals "reversed" = some none)
    (z_bool : PySem.W.nsIn K mainGlobals "bool" = some none)
    (z_ValueError : PySem.W.nsIn K mainGlobals "ValueError" = some none)
    (z_heappop : PySem.W.nsIn K mainGlobals "heappop" = some (some (.builtin "_heapq.heappop")))
    (z_heappush : PySem.W.nsIn K mainGlobals "heappush" = some (some (.builtin "_heapq.heappush")))
    (c_MOST_SHELVES : PySem.W.nsIn K mainGlobals "MOST_SHELVES" = some (some (.int 5 t_MOST_SHELVES)))
    (c_MOST_ROOM : PySem.W.nsIn K mainGlobals "MOST_ROOM" = some (some (.int 9 t_MOST_ROOM)))
    (c_MOST_WISHES : PySem.W.nsIn K mainGlobals "MOST_WISHES" = some (some (.int 5 t_MOST_WISHES)))
    (c_MOST_KEEP : PySem.W.nsIn K mainGlobals "MOST_KEEP" = some (some (.int 3 t_MOST_KEEP)))
    (g_KINDS : PySem.W.nsIn K mainGlobals "KINDS" = some (some (.ref a_KINDS)))
    (l_KINDS : K.lookup a_KINDS = some ⟨.type "tuple", d_KINDS, .seq #[.str "fetch" tKINDS0, .str "bring" tKINDS1] n_KINDS, sl_KINDS⟩)
    (g_SIDES : PySem.W.nsIn K mainGlobals "SIDES" = some (some (.ref a_SIDES)))
    (l_SIDES : K.lookup a_SIDES = some ⟨.type "tuple", d_SIDES, .seq #[.str "left" tSIDES0, .str "right" tSIDES1, .str "any" tSIDES2] n_SIDES, sl_SIDES⟩)
    (g_SS : PySem.W.nsIn K mainGlobals "STEPS_OF_ANY_STORE" = some (some (.ref a_SS)))
    (l_SS : K.lookup a_SS = some ⟨.type "tuple", d_SS, .seq #[.ref b0, .ref b1, .ref b2, .ref b3, .ref b4, .ref b5, .ref b6] n_SS, sl_SS⟩)
    (l_S0 : K.lookup b0 = some ⟨.type "tuple", dS0, .seq #[.str "wait" tS0_0] nS0, sS0⟩)
    (l_S1 : K.lookup b1 = some ⟨.type "tuple", dS1, .seq #[.str "shift" tS1_0, .int (-1) tS1_1] nS1, sS1⟩)
    (l_S2 : K.lookup b2 = some ⟨.type "tuple", dS2, .seq #[.str "shift" tS2_0, .int (1) tS2_1] nS2, sS2⟩)
    (l_S3 : K.lookup b3 = some ⟨.type "tuple", dS3, .seq #[.str "in" tS3_0, .int (0) tS3_1] nS3, sS3⟩)
    (l_S4 : K.lookup b4 = some ⟨.type "tuple", dS4, .seq #[.str "in" tS4_0, .int (1) tS4_1] nS4, sS4⟩)
    (l_S5 : K.lookup b5 = some ⟨.type "tuple", dS5, .seq #[.str "out" tS5_0, .int (0) tS5_1] nS5, sS5⟩)
    (l_S6 : K.lookup b6 = some ⟨.type "tuple", dS6, .seq #[.str "out" tS6_0, .int (1) tS6_1] nS6, sS6⟩)
    : ∃ fd : FuncData, (∀ (s : Shared) (v : Value), BindsTo s fd ⟨[v], []⟩ [("_law_script", v)]) ∧ ∀ base : Heap, K.In base → base.Ns mainGlobals mg → FnOk l.prog w K mg base CX0 10 fa fd ["_law_script"] (spLaw K) := by
  have e := hfa.symm.trans (PySem.W.mg_of X G a_law)
  cases e
  have F_begin := fun_mk (st := s_begin) l_begin c_begin k_begin
  have b_begin := F_begin.binds (ps := ["store"]) fun _ _ _ _ _ _ us hl => match us, hl with | [_], _ => rfl
  have D_begin : Dfs K mg "begin" s_begin ["store"] _ _ := ⟨F_begin, PySem.W.mg_of X G a_begin, b_begin⟩
  have F_steps_at := fun_mk (st := s_steps_at) l_steps_at c_steps_at k_steps_at
  have b_steps_at := F_steps_at.binds (ps := ["store", "state"]) fun _ _ _ _ _ _ us hl => match us, hl with | [_, _], _ => rfl
  have D_steps_at : Dfs K mg "steps_at" s_steps_at ["store", "state"] _ _ := ⟨F_steps_at, PySem.W.mg_of X G a_steps_at, b_steps_at⟩
  have F_played := fun_mk (st := s_played) l_played c_played k_played
  have b_played := F_played.binds (ps := ["store", "plan"]) fun _ _ _ _ _ _ us hl => match us, hl with | [_, _], _ => rfl
  have D_played : Dfs K mg "played" s_played ["store", "plan"] _ _ := ⟨F_played, PySem.W.mg_of X G a_played, b_played⟩
  have F_shifts := fun_mk (st := s_shifts) l_shifts c_shifts k_shifts
  have b_shifts := F_shifts.binds (ps := ["store", "plan"]) fun _ _ _ _ _ _ us hl => match us, hl with | [_, _], _ => rfl
  have D_shifts : Dfs K mg "shifts" s_shifts ["store", "plan"] _ _ := ⟨F_shifts, PySem.W.mg_of X G a_shifts, b_shifts⟩
  have F_is_end := fun_mk (st := s_is_end) l_is_end c_is_end k_is_end
  have b_is_end := F_is_end.binds (ps := ["store", "state"]) fun _ _ _ _ _ _ us hl => match us, hl with | [_, _], _ => rfl
  have D_is_end : Dfs K mg "is_end" s_is_end ["store", "state"] _ _ := ⟨F_is_end, PySem.W.mg_of X G a_is_end, b_is_end⟩
  have F_behind := fun_mk (st := s_behind) l_behind c_behind k_behind
  have b_behind := F_behind.binds (ps := ["store", "state", "step"]) fun _ _ _ _ _ _ us hl => match us, hl with | [_, _, _], _ => rfl
  have D_behind : Dfs K mg "behind" s_behind ["store", "state", "step"] _ _ := ⟨F_behind, PySem.W.mg_of X G a_behind, b_behind⟩
  have F_shifts_of := fun_mk (st := s_shifts_of) l_shifts_of c_shifts_of k_shifts_of
  have b_shifts_of := F_shifts_of.binds (ps := ["step"]) fun _ _ _ _ _ _ us hl => match us, hl with | [_], _ => rfl
  have D_shifts_of : Dfs K mg "shifts_of" s_shifts_of ["step"] _ _ := ⟨F_shifts_of, PySem.W.mg_of X G a_shifts_of, b_shifts_of⟩
  have F_refuse_no_steps := fun_mk (st := s_refuse_no_steps) l_refuse_no_steps c_refuse_no_steps k_refuse_no_steps
  have b_refuse_no_steps := F_refuse_no_steps.binds (ps := ["store", "plan"]) fun _ _ _ _ _ _ us hl => match us, hl with | [_, _], _ => rfl
  have D_refuse_no_steps : Dfs K mg "refuse_no_steps" s_refuse_no_steps ["store", "plan"] _ _ := ⟨F_refuse_no_steps, PySem.W.mg_of X G a_refuse_no_steps, b_refuse_no_steps⟩
  have F__all_steps := fun_mk (st := s__all_steps) l__all_steps c__all_steps k__all_steps
  have b__all_steps := F__all_steps.binds (ps := ["store"]) fun _ _ _ _ _ _ us hl => match us, hl with | [_], _ => rfl
  have D__all_steps : Dfs K mg "_all_steps" s__all_steps ["store"] _ _ := ⟨F__all_steps, PySem.W.mg_of X G a__all_steps, b__all_steps⟩
  have F__bar := fun_mk (st := s__bar) l__bar c__bar k__bar
  have b__bar := F__bar.binds (ps := ["store", "state", "step"]) fun _ _ _ _ _ _ us hl => match us, hl with | [_, _, _], _ => rfl
  have D__bar : Dfs K mg "_bar" s__bar ["store", "state", "step"] _ _ := ⟨F__bar, PySem.W.mg_of X G a__bar, b__bar⟩
  have F__bar_of_shift := fun_mk (st := s__bar_of_shift) l__bar_of_shift c__bar_of_shift k__bar_of_shift
  have b__bar_of_shift := F__bar_of_shift.binds (ps := ["store", "state", "by"]) fun _ _ _ _ _ _ us hl => match us, hl with | [_, _, _], _ => rfl
  have D__bar_of_shift : Dfs K mg "_bar_of_shift" s__bar_of_shift ["store", "state", "by"] _ _ := ⟨F__bar_of_shift, PySem.W.mg_of X G a__bar_of_shift, b__bar_of_shift⟩
  have F__bar_of_going_in := fun_mk (st := s__bar_of_going_in) l__bar_of_going_in c__bar_of_going_in k__bar_of_going_in
  have b__bar_of_going_in := F__bar_of_going_in.binds (ps := ["state", "crew"]) fun _ _ _ _ _ _ us hl => match us, hl with | [_, _], _ => rfl
  have D__bar_of_going_in : Dfs K mg "_bar_of_going_in" s__bar_of_going_in ["state", "crew"] _ _ := ⟨F__bar_of_going_in, PySem.W.mg_of X G a__bar_of_going_in, b__bar_of_going_in⟩
  have F__bar_of_going_out := fun_mk (st := s__bar_of_going_out) l__bar_of_going_out c__bar_of_going_out k__bar_of_going_out
  have b__bar_of_going_out := F__bar_of_going_out.binds (ps := ["state", "crew"]) fun _ _ _ _ _ _ us hl => match us, hl with | [_, _], _ => rfl
  have D__bar_of_going_out : Dfs K mg "_bar_of_going_out" s__bar_of_going_out ["state", "crew"] _ _ := ⟨F__bar_of_going_out, PySem.W.mg_of X G a__bar_of_going_out, b__bar_of_going_out⟩
  have F__bar_of_wish := fun_mk (st := s__bar_of_wish) l__bar_of_wish c__bar_of_wish k__bar_of_wish
  have b__bar_of_wish := F__bar_of_wish.binds (ps := ["store", "state", "wish"]) fun _ _ _ _ _ _ us hl => match us, hl with | [_, _, _], _ => rfl
  have D__bar_of_wish : Dfs K mg "_bar_of_wish" s__bar_of_wish ["store", "state", "wish"] _ _ := ⟨F__bar_of_wish, PySem.W.mg_of X G a__bar_of_wish, b__bar_of_wish⟩
  have F__bar_of_load := fun_mk (st := s__bar_of_load) l__bar_of_load c__bar_of_load k__bar_of_load
  have b__bar_of_load := F__bar_of_load.binds (ps := ["store", "done", "kind", "shelf"]) fun _ _ _ _ _ _ us hl => match us, hl with | [_, _, _, _], _ => rfl
  have D__bar_of_load : Dfs K mg "_bar_of_load" s__bar_of_load ["store", "done", "kind", "shelf"] _ _ := ⟨F__bar_of_load, PySem.W.mg_of X G a__bar_of_load, b__bar_of_load⟩
  have F__is_beside := fun_mk (st := s__is_beside) l__is_beside c__is_beside k__is_beside
  have b__is_beside := F__is_beside.binds (ps := ["aisle", "shelf", "side"]) fun _ _ _ _ _ _ us hl => match us, hl with | [_, _, _], _ => rfl
  have D__is_beside : Dfs K mg "_is_beside" s__is_beside ["aisle", "shelf", "side"] _ _ := ⟨F__is_beside, PySem.W.mg_of X G a__is_beside, b__is_beside⟩
  have F__has_now := fun_mk (st := s__has_now) l__has_now c__has_now k__has_now
  have b__has_now := F__has_now.binds (ps := ["store", "done", "shelf"]) fun _ _ _ _ _ _ us hl => match us, hl with | [_, _, _], _ => rfl
  have D__has_now : Dfs K mg "_has_now" s__has_now ["store", "done", "shelf"] _ _ := ⟨F__has_now, PySem.W.mg_of X G a__has_now, b__has_now⟩
  have F_least_from := fun_mk (st := s_least_from) l_least_from c_least_from k_least_from
  have b_least_from := F_least_from.binds (ps := ["store", "first"]) fun _ _ _ _ _ _ us hl => match us, hl with | [_, _], _ => rfl
  have D_least_from : Dfs K mg "least_from" s_least_from ["store", "first"] _ _ := ⟨F_least_from, PySem.W.mg_of X G a_least_from, b_least_from⟩
  have F__ways_from := fun_mk (st := s__ways_from) l__ways_from c__ways_from k__ways_from
  have b__ways_from := F__ways_from.binds (ps := ["store", "first"]) fun _ _ _ _ _ _ us hl => match us, hl with | [_, _], _ => rfl
  have D__ways_from : Dfs K mg "_ways_from" s__ways_from ["store", "first"] _ _ := ⟨F__ways_from, PySem.W.mg_of X G a__ways_from, b__ways_from⟩
  have F__costs := fun_mk (st := s__costs) l__costs c__costs k__costs
  have b__costs := F__costs.binds (ps := ["store", "ways"]) fun _ _ _ _ _ _ us hl => match us, hl with | [_, _], _ => rfl
  have D__costs : Dfs K mg "_costs" s__costs ["store", "ways"] _ _ := ⟨F__costs, PySem.W.mg_of X G a__costs, b__costs⟩
  have F__earlier := fun_mk (st := s__earlier) l__earlier c__earlier k__earlier
  have b__earlier := F__earlier.binds (ps := ["ways"]) fun _ _ _ _ _ _ us hl => match us, hl with | [_], _ => rfl
  have D__earlier : Dfs K mg "_earlier" s__earlier ["ways"] _ _ := ⟨F__earlier, PySem.W.mg_of X G a__earlier, b__earlier⟩
  have F__plan := fun_mk (st := s__plan) l__plan c__plan k__plan
  have b__plan := F__plan.binds (ps := ["ways", "costs", "first"]) fun _ _ _ _ _ _ us hl => match us, hl with | [_, _, _], _ => rfl
  have D__plan : Dfs K mg "_plan" s__plan ["ways", "costs", "first"] _ _ := ⟨F__plan, PySem.W.mg_of X G a__plan, b__plan⟩
  have F__best_step := fun_mk (st := s__best_step) l__best_step c__best_step k__best_step
  have b__best_step := F__best_step.binds (ps := ["steps", "costs"]) fun _ _ _ _ _ _ us hl => match us, hl with | [_, _], _ => rfl
  have D__best_step : Dfs K mg "_best_step" s__best_step ["steps", "costs"] _ _ := ⟨F__best_step, PySem.W.mg_of X G a__best_step, b__best_step⟩
  have F__paper := fun_mk (st := s__paper) l__paper c__paper k__paper
  have b__paper := F__paper.binds (ps := ["ways", "costs"]) fun _ _ _ _ _ _ us hl => match us, hl with | [_, _], _ => rfl
  have D__paper : Dfs K mg "_paper" s__paper ["ways", "costs"] _ _ := ⟨F__paper, PySem.W.mg_of X G a__paper, b__paper⟩
  have F_least := fun_mk (st := s_least) l_least c_least k_least
  have b_least := F_least.binds (ps := ["store"]) fun _ _ _ _ _ _ us hl => match us, hl with | [_], _ => rfl
  have D_least : Dfs K mg "least" s_least ["store"] _ _ := ⟨F_least, PySem.W.mg_of X G a_least, b_least⟩
  have F_Store___init__ := fun_mk (st := s_Store___init__) l_Store___init__ c_Store___init__ k_Store___init__
  have b_Store___init__ := F_Store___init__.binds (ps := ["self", "shelves", "aisle", "wishes"]) fun _ _ _ _ _ _ us hl => match us, hl with | [_, _, _, _], _ => rfl
  have F_Store_shelves := fun_mk (st := s_Store_shelves) l_Store_shelves c_Store_shelves k_Store_shelves
  have b_Store_shelves := F_Store_shelves.binds (ps := ["self"]) fun _ _ _ _ _ _ us hl => match us, hl with | [_], _ => rfl
  have F_Store_wishes := fun_mk (st := s_Store_wishes) l_Store_wishes c_Store_wishes k_Store_wishes
  have b_Store_wishes := F_Store_wishes.binds (ps := ["self"]) fun _ _ _ _ _ _ us hl => match us, hl with | [_], _ => rfl
  have F__refuse_no_store := fun_mk (st := s__refuse_no_store) l__refuse_no_store c__refuse_no_store k__refuse_no_store
  have b__refuse_no_store := F__refuse_no_store.binds (ps := ["shelves", "aisle", "wishes"]) fun _ _ _ _ _ _ us hl => match us, hl with | [_, _, _], _ => rfl
  have D__refuse_no_store : Dfs K mg "_refuse_no_store" s__refuse_no_store ["shelves", "aisle", "wishes"] _ _ := ⟨F__refuse_no_store, PySem.W.mg_of X G a__refuse_no_store, b__refuse_no_store⟩
  have F__is_shelf := fun_mk (st := s__is_shelf) l__is_shelf c__is_shelf k__is_shelf
  have b__is_shelf := F__is_shelf.binds (ps := ["shelf"]) fun _ _ _ _ _ _ us hl => match us, hl with | [_], _ => rfl
  have D__is_shelf : Dfs K mg "_is_shelf" s__is_shelf ["shelf"] _ _ := ⟨F__is_shelf, PySem.W.mg_of X G a__is_shelf, b__is_shelf⟩
  have F__is_wish := fun_mk (st := s__is_wish) l__is_wish c__is_wish k__is_wish
  have b__is_wish := F__is_wish.binds (ps := ["wish", "many_shelves", "many_wishes"]) fun _ _ _ _ _ _ us hl => match us, hl with | [_, _, _], _ => rfl
  have D__is_wish : Dfs K mg "_is_wish" s__is_wish ["wish", "many_shelves", "many_wishes"] _ _ := ⟨F__is_wish, PySem.W.mg_of X G a__is_wish, b__is_wish⟩
  have F__is_rising := fun_mk (st := s__is_rising) l__is_rising c__is_rising k__is_rising
  have b__is_rising := F__is_rising.binds (ps := ["numbers", "many"]) fun _ _ _ _ _ _ us hl => match us, hl with | [_, _], _ => rfl
  have D__is_rising : Dfs K mg "_is_rising" s__is_rising ["numbers", "many"] _ _ := ⟨F__is_rising, PySem.W.mg_of X G a__is_rising, b__is_rising⟩
  have F__law_taken := fun_mk (st := s__law_taken) l__law_taken c__law_taken k__law_taken
  have b__law_taken := F__law_taken.binds (ps := ["_law_row", "_law_many"]) fun _ _ _ _ _ _ us hl => match us, hl with | [_, _], _ => rfl
  have D__law_taken : Dfs K mg "_law_taken" s__law_taken ["_law_row", "_law_many"] _ _ := ⟨F__law_taken, PySem.W.mg_of X G a__law_taken, b__law_taken⟩
  have F__law_wish := fun_mk (st := s__law_wish) l__law_wish c__law_wish k__law_wish
  have b__law_wish := F__law_wish.binds (ps := ["_law_row", "_law_shelves", "_law_many"]) fun _ _ _ _ _ _ us hl => match us, hl with | [_, _, _], _ => rfl
  have D__law_wish : Dfs K mg "_law_wish" s__law_wish ["_law_row", "_law_shelves", "_law_many"] _ _ := ⟨F__law_wish, PySem.W.mg_of X G a__law_wish, b__law_wish⟩
  have F__law_store := fun_mk (st := s__law_store) l__law_store c__law_store k__law_store
  have b__law_store := F__law_store.binds (ps := ["_law_row"]) fun _ _ _ _ _ _ us hl => match us, hl with | [_], _ => rfl
  have D__law_store : Dfs K mg "_law_store" s__law_store ["_law_row"] _ _ := ⟨F__law_store, PySem.W.mg_of X G a__law_store, b__law_store⟩
  have F__law_made := fun_mk (st := s__law_made) l__law_made c__law_made k__law_made
  have b__law_made := F__law_made.binds (ps := ["_law_store_here"]) fun _ _ _ _ _ _ us hl => match us, hl with | [_], _ => rfl
  have D__law_made : Dfs K mg "_law_made" s__law_made ["_law_store_here"] _ _ := ⟨F__law_made, PySem.W.mg_of X G a__law_made, b__law_made⟩
  have F__law_mirrored := fun_mk (st := s__law_mirrored) l__law_mirrored c__law_mirrored k__law_mirrored
  have b__law_mirrored := F__law_mirrored.binds (ps := ["_law_store_here"]) fun _ _ _ _ _ _ us hl => match us, hl with | [_], _ => rfl
  have D__law_mirrored : Dfs K mg "_law_mirrored" s__law_mirrored ["_law_store_here"] _ _ := ⟨F__law_mirrored, PySem.W.mg_of X G a__law_mirrored, b__law_mirrored⟩
  have F__law_mirror_state := fun_mk (st := s__law_mirror_state) l__law_mirror_state c__law_mirror_state k__law_mirror_state
  have b__law_mirror_state := F__law_mirror_state.binds (ps := ["_law_store_here", "_law_state"]) fun _ _ _ _ _ _ us hl => match us, hl with | [_, _], _ => rfl
  have D__law_mirror_state : Dfs K mg "_law_mirror_state" s__law_mirror_state ["_law_store_here", "_law_state"] _ _ := ⟨F__law_mirror_state, PySem.W.mg_of X G a__law_mirror_state, b__law_mirror_state⟩
  have F__law_mirror_step := fun_mk (st := s__law_mirror_step) l__law_mirror_step c__law_mirror_step k__law_mirror_step
  have b__law_mirror_step := F__law_mirror_step.binds (ps := ["_law_step"]) fun _ _ _ _ _ _ us hl => match us, hl with | [_], _ => rfl
  have D__law_mirror_step : Dfs K mg "_law_mirror_step" s__law_mirror_step ["_law_step"] _ _ := ⟨F__law_mirror_step, PySem.W.mg_of X G a__law_mirror_step, b__law_mirror_step⟩
  have F__law_as_told := fun_mk (st := s__law_as_told) l__law_as_told c__law_as_told k__law_as_told
  have b__law_as_told := F__law_as_told.binds (ps := ["_law_paper"]) fun _ _ _ _ _ _ us hl => match us, hl with | [_], _ => rfl
  have D__law_as_told : Dfs K mg "_law_as_told" s__law_as_told ["_law_paper"] _ _ := ⟨F__law_as_told, PySem.W.mg_of X G a__law_as_told, b__law_as_told⟩
  have F__law_ordered := fun_mk (st := s__law_ordered) l__law_ordered c__law_ordered k__law_ordered
  have b__law_ordered := F__law_ordered.binds (ps := ["_law_store_here", "_law_order"]) fun _ _ _ _ _ _ us hl => match us, hl with | [_, _], _ => rfl
  have D__law_ordered : Dfs K mg "_law_ordered" s__law_ordered ["_law_store_here", "_law_order"] _ _ := ⟨F__law_ordered, PySem.W.mg_of X G a__law_ordered, b__law_ordered⟩
  have F_law := fun_mk (st := s_law) l_law c_law k_law
  have b_law := F_law.binds (ps := ["_law_script"]) fun _ _ _ _ _ _ us hl => match us, hl with | [_], _ => rfl
  have D_law : Dfs K mg "law" s_law ["_law_script"] _ _ := ⟨F_law, PySem.W.mg_of X G a_law, b_law⟩
  have T : Tx K mg := ⟨PySem.W.mg_none_of X G z_len, PySem.W.mg_none_of X G z_list, PySem.W.mg_none_of X G z_tuple, PySem.W.mg_none_of X G z_sorted, PySem.W.mg_none_of X G z_sum, PySem.W.mg_none_of X G z_all, PySem.W.mg_none_of X G z_str, PySem.W.mg_none_of X G z_min, PySem.W.mg_none_of X G z_max, PySem.W.mg_none_of X G z_int, PySem.W.mg_none_of X G z_range, PySem.W.mg_none_of X G z_enumerate, PySem.W.mg_none_of X G z_isinstance, PySem.W.mg_none_of X G z_reversed, PySem.W.mg_none_of X G z_bool, PySem.W.mg_none_of X G z_ValueError⟩
  have n_heappop : mg "heappop" = some (.builtin "_heapq.heappop") := PySem.W.mg_of X G z_heappop
  have n_heappush : mg "heappush" = some (.builtin "_heapq.heappush") := PySem.W.mg_of X G z_heappush
  have Tk : Tc K mg := ⟨⟨_, PySem.W.mg_of X G c_MOST_SHELVES⟩, ⟨_, PySem.W.mg_of X G c_MOST_ROOM⟩, ⟨_, PySem.W.mg_of X G c_MOST_WISHES⟩, ⟨_, PySem.W.mg_of X G c_MOST_KEEP⟩, ⟨_, PySem.W.mg_of X G g_KINDS, wr_tup (xs := [.str "fetch", .str "bring"]) l_KINDS (by simp) (.cons ⟨_, rfl⟩ (.cons ⟨_, rfl⟩ .nil))⟩, ⟨_, PySem.W.mg_of X G g_SIDES, wr_tup (xs := [.str "left", .str "right", .str "any"]) l_SIDES (by simp) (.cons ⟨_, rfl⟩ (.cons ⟨_, rfl⟩ (.cons ⟨_, rfl⟩ .nil)))⟩⟩
  have Tp : Ts K mg := ⟨⟨_, [.ref b0, .ref b1, .ref b2, .ref b3, .ref b4, .ref b5, .ref b6], PySem.W.mg_of X G g_SS, fun H => ⟨wr_tup (xs := [.ref b0, .ref b1, .ref b2, .ref b3, .ref b4, .ref b5, .ref b6]) l_SS (by simp) (.cons rfl (.cons rfl (.cons rfl (.cons rfl (.cons rfl (.cons rfl (.cons rfl .nil))))))) H, (.cons (pair1 (wr_tup (xs := [.str "wait"]) l_S0 (by simp) (.cons ⟨_, rfl⟩ .nil) H)) (.cons (two_dp (wr_tup (xs := [.str "shift", .int (-1)]) l_S1 (by simp) (.cons ⟨_, rfl⟩ (.cons ⟨_, rfl⟩ .nil)) H)) (.cons (two_dp (wr_tup (xs := [.str "shift", .int (1)]) l_S2 (by simp) (.cons ⟨_, rfl⟩ (.cons ⟨_, rfl⟩ .nil)) H)) (.cons (two_dp (wr_tup (xs := [.str "in", .int (0)]) l_S3 (by simp) (.cons ⟨_, rfl⟩ (.cons ⟨_, rfl⟩ .nil)) H)) (.cons (two_dp (wr_tup (xs := [.str "in", .int (1)]) l_S4 (by simp) (.cons ⟨_, rfl⟩ (.cons ⟨_, rfl⟩ .nil)) H)) (.cons (two_dp (wr_tup (xs := [.str "out", .int (0)]) l_S5 (by simp) (.cons ⟨_, rfl⟩ (.cons ⟨_, rfl⟩ .nil)) H)) (.cons (two_dp (wr_tup (xs := [.str "out", .int (1)]) l_S6 (by simp) (.cons ⟨_, rfl⟩ (.cons ⟨_, rfl⟩ .nil)) H)) .nil)))))))⟩⟩⟩
  have TS : TSx K mg C f_Store___init__ f_Store_shelves f_Store_wishes _ _ _ := ⟨⟨pgC, hdC, poC, saC⟩, ⟨mkC, a_Store___init__, i_Store___init__, kcC⟩, PySem.W.mg_of X G aC, nS, nW, nA, ⟨a_Store_shelves, i_Store_shelves, k_Store_shelves⟩, ⟨a_Store_wishes, i_Store_wishes, k_Store_wishes⟩, b_Store___init__, b_Store_shelves, b_Store_wishes⟩
  refine ⟨PySem.W.fnOf "law" "law" (defArgs s_law) (defBody s_law) (defScope s_law) .none kV_law dc_law pm_law an_law cd_law ct_law, fun s v => .of_eq rfl, fun base _ _ => ?_⟩
  have C__law_taken := ok__law_taken (P := l.prog) (w := w) (base := base) (D := D__law_taken) (T := T)
  have C__law_wish := ok__law_wish (P := l.prog) (w := w) (base := base) (D := D__law_wish) (T := T) (C__law_taken := C__law_taken)
  have C__law_store := ok__law_store (P := l.prog) (w := w) (base := base) (D := D__law_store) (T := T) (C__law_taken := C__law_taken) (C__law_wish := C__law_wish)
  have C__is_rising := ok__is_rising (P := l.prog) (w := w) (base := base) (D := D__is_rising)
  have C__is_shelf := ok__is_shelf (P := l.prog) (w := w) (base := base) (D := D__is_shelf) (T := T) (Tk := Tk)
  have C__is_wish := ok__is_wish (P := l.prog) (w := w) (base := base) (D := D__is_wish) (T := T) (Tk := Tk) (C__is_rising := C__is_rising)
  have C__refuse_no_store := ok__refuse_no_store (P := l.prog) (w := w) (base := base) (D := D__refuse_no_store) (T := T) (Tk := Tk) (C__is_shelf := C__is_shelf) (C__is_wish := C__is_wish)
  have G_init := ok_Store_init (P := l.prog) (w := w) (base := base) (F := F_Store___init__) (T := T) (TS := TS) (C__refuse_no_store := C__refuse_no_store)
  have G_shelves := ok_Store_shelves (P := l.prog) (w := w) (base := base) (F := F_Store_shelves) (T := T) (TS := TS)
  have G_wishes := ok_Store_wishes (P := l.prog) (w := w) (base := base) (F := F_Store_wishes) (T := T) (TS := TS)
  have C__law_made := ok__law_made (P := l.prog) (w := w) (base := base) (D := D__law_made) (T := T) (TS := TS) (G_init := G_init)
  have C_fetch := ok_fetch 
  have C_bring := ok_bring 
  have C_left := ok_left 
  have C_right := ok_right 
  have C_any := ok_any 
  have C__has_now := ok__has_now (P := l.prog) (w := w) (base := base) (D := D__has_now) (T := T) (TS := TS) (G_shelves := G_shelves) (G_wishes := G_wishes)
  have C__is_beside := ok__is_beside (P := l.prog) (w := w) (base := base) (D := D__is_beside)
  have C_wait := ok_wait 
  have C_shift := ok_shift 
  have C_in := ok_in 
  have C_out := ok_out 
  have C_do := ok_do 
  have C__bar_of_load := ok__bar_of_load (P := l.prog) (w := w) (base := base) (D := D__bar_of_load) (TS := TS) (G_shelves := G_shelves) (C__has_now := C__has_now)
  have C__bar_of_wish := ok__bar_of_wish (P := l.prog) (w := w) (base := base) (D := D__bar_of_wish) (TS := TS) (G_wishes := G_wishes) (C__bar_of_load := C__bar_of_load) (C__is_beside := C__is_beside)
  have C__bar_of_going_in := ok__bar_of_going_in (P := l.prog) (w := w) (base := base) (D := D__bar_of_going_in)
  have C__bar_of_going_out := ok__bar_of_going_out (P := l.prog) (w := w) (base := base) (D := D__bar_of_going_out)
  have C__bar_of_shift := ok__bar_of_shift (P := l.prog) (w := w) (base := base) (D := D__bar_of_shift) (T := T) (TS := TS) (G_shelves := G_shelves)
  have C__bar := ok__bar (P := l.prog) (w := w) (base := base) (D := D__bar) (C__bar_of_shift := C__bar_of_shift) (C__bar_of_going_in := C__bar_of_going_in) (C__bar_of_going_out := C__bar_of_going_out) (C__bar_of_wish := C__bar_of_wish)
  have C_begin := ok_begin (P := l.prog) (w := w) (base := base) (D := D_begin) (TS := TS)
  have C__all_steps := ok__all_steps (P := l.prog) (w := w) (base := base) (D := D__all_steps) (T := T) (Tp := Tp) (TS := TS) (G_wishes := G_wishes)
  have C_behind := ok_behind (P := l.prog) (w := w) (base := base) (D := D_behind) (T := T) (TS := TS) (G_wishes := G_wishes)
  have C_end := ok_end 
  have C_sticks := ok_sticks 
  have C_kept := ok_kept 
  have C_is := ok_is 
  have C_isnt := ok_isnt 
  have C_done := ok_done 
  have C_after := ok_after 
  have C_crew := ok_crew 
  have C_aisle := ok_aisle 
  have C_empty := ok_empty 
  have C_full := ok_full 
  have C_steps_at := ok_steps_at (P := l.prog) (w := w) (base := base) (D := D_steps_at) (C__all_steps := C__all_steps) (C__bar := C__bar)
  have C_is_end := ok_is_end (P := l.prog) (w := w) (base := base) (D := D_is_end) (T := T) (TS := TS) (G_wishes := G_wishes)
  have C_shifts_of := ok_shifts_of (P := l.prog) (w := w) (base := base) (D := D_shifts_of)
  have C__ways_from := ok__ways_from (P := l.prog) (w := w) (base := base) (D := D__ways_from) (T := T) (C_steps_at := C_steps_at) (C_behind := C_behind)
  have C__paper := ok__paper (P := l.prog) (w := w) (base := base) (D := D__paper) (T := T)
  have C__best_step := ok__best_step (P := l.prog) (w := w) (base := base) (D := D__best_step) (T := T) (C_shifts_of := C_shifts_of)
  have C__plan := ok__plan (P := l.prog) (w := w) (base := base) (D := D__plan) (T := T) (C__best_step := C__best_step)
  have C__earlier := ok__earlier (P := l.prog) (w := w) (base := base) (D := D__earlier) (T := T) (C_shifts_of := C_shifts_of)
  have C__costs := ok__costs (P := l.prog) (w := w) (base := base) (D := D__costs) (T := T) (n_heappush := n_heappush) (n_heappop := n_heappop) (C__earlier := C__earlier) (C_is_end := C_is_end)
  have C_least_from := ok_least_from (P := l.prog) (w := w) (base := base) (D := D_least_from) (C__ways_from := C__ways_from) (C__costs := C__costs) (C__plan := C__plan) (C__paper := C__paper)
  have C_refuse_no_steps := ok_refuse_no_steps (P := l.prog) (w := w) (base := base) (D := D_refuse_no_steps) (C__all_steps := C__all_steps)
  have C_shifts := ok_shifts (P := l.prog) (w := w) (base := base) (D := D_shifts) (T := T) (C_refuse_no_steps := C_refuse_no_steps) (C_shifts_of := C_shifts_of)
  have C_least := ok_least (P := l.prog) (w := w) (base := base) (D := D_least) (C_least_from := C_least_from) (C_begin := C_begin) (C_shifts := C_shifts)
  have C_played := ok_played (P := l.prog) (w := w) (base := base) (D := D_played) (T := T) (C_refuse_no_steps := C_refuse_no_steps) (C_begin := C_begin) (C__bar := C__bar) (C_behind := C_behind)
  have C__law_mirrored := ok__law_mirrored (P := l.prog) (w := w) (base := base) (D := D__law_mirrored) (T := T)
  have C__law_mirror_state := ok__law_mirror_state (P := l.prog) (w := w) (base := base) (D := D__law_mirror_state) (T := T)
  have C__law_mirror_step := ok__law_mirror_step (P := l.prog) (w := w) (base := base) (D := D__law_mirror_step) (T := T)
  have C__law_as_told := ok__law_as_told (P := l.prog) (w := w) (base := base) (D := D__law_as_told) (T := T)
  have C__law_ordered := ok__law_ordered (P := l.prog) (w := w) (base := base) (D := D__law_ordered) (T := T)
  exact ok_law (P := l.prog) (w := w) (base := base) (D := D_law) (T := T) (TS := TS) (C__law_taken := C__law_taken) (C__law_store := C__law_store) (C__law_made := C__law_made) (C_least := C_least) (C__law_mirrored := C__law_mirrored) (C__law_mirror_state := C__law_mirror_state) (C__law_mirror_step := C__law_mirror_step) (C__law_as_told := C__law_as_told) (C__law_ordered := C__law_ordered) (C_is_end := C_is_end) (C_played := C_played)
end Ais
open PySem PySem.W PyProof.Rows
set_option maxRecDepth 100000 in
set_option maxHeartbeats 0 in
theorem PySem.Challenge.cw_aisleshift_k12_whole_seen_from_the_other_holds : PySem.Challenge.rw_aisleshift_k12_whole_seen_from_the_other.Holds := by
  w_on; o_law; k_head; (case hw => w_witness2)
  k_fill
  refine L2.walk_of (l := PySem.Challenge.rw_aisleshift_k12_whole_seen_from_the_other) (n := 63) (k := 10) (x := "_law_script") (CX := fun _ => L2.CX0) (sp := fun w => Ais.spLaw _) rfl (by decide) rfl ⟨rfl, by decide, by decide⟩ (fun w h Y => PySem.W.kIn_of Y) ?F (fun _ _ a ns hl _ hS => ⟨a, ns, rfl, hS, hl, fun _ => rfl⟩) (fun _ _ _ _ _ h => h)
  case F =>
    intro w mg fa h KX G hmg
    refine' Ais.all_mk KX G hmg ?aC ?a_begin ?l_begin ?c_begin ?k_begin ?a_steps_at ?l_steps_at ?c_steps_at ?k_steps_at ?a_played ?l_played ?c_played ?k_played ?a_shifts ?l_shifts ?c_shifts ?k_shifts ?a_is_end ?l_is_end ?c_is_end ?k_is_end ?a_behind ?l_behind ?c_behind ?k_behind ?a_shifts_of ?l_shifts_of ?c_shifts_of ?k_shifts_of ?a_refuse_no_steps ?l_refuse_no_steps ?c_refuse_no_steps ?k_refuse_no_steps ?a__all_steps ?l__all_steps ?c__all_steps ?k__all_steps ?a__bar ?l__bar ?c__bar ?k__bar ?a__bar_of_shift ?l__bar_of_shift ?c__bar_of_shift ?k__bar_of_shift ?a__bar_of_going_in ?l__bar_of_going_in ?c__bar_of_going_in ?k__bar_of_going_in ?a__bar_of_going_out ?l__bar_of_going_out ?c__bar_of_going_out ?k__bar_of_going_out ?a__bar_of_wish ?l__bar_of_wish ?c__bar_of_wish ?k__bar_of_wish ?a__bar_of_load ?l__bar_of_load ?c__bar_of_load ?k__bar_of_load ?a__is_beside ?l__is_beside ?c__is_beside ?k__is_beside ?a__has_now ?l__has_now ?c__has_now ?k__has_now ?a_least_from ?l_least_from ?c_least_from ?k_least_from ?a__ways_from ?l__ways_from ?c__ways_from ?k__ways_from ?a__costs ?l__costs ?c__costs ?k__costs ?a__earlier ?l__earlier ?c__earlier ?k__earlier ?a__plan ?l__plan ?c__plan ?k__plan ?a__best_step ?l__best_step ?c__best_step ?k__best_step ?a__paper ?l__paper ?c__paper ?k__paper ?a_least ?l_least ?c_least ?k_least ?a_Store___init__ ?i_Store___init__ ?l_Store___init__ ?c_Store___init__ ?k_Store___init__ ?a_Store_shelves ?i_Store_shelves ?l_Store_shelves ?c_Store_shelves ?k_Store_shelves ?a_Store_wishes ?i_Store_wishes ?l_Store_wishes ?c_Store_wishes ?k_Store_wishes ?a__refuse_no_store ?l__refuse_no_store ?c__refuse_no_store ?k__refuse_no_store ?a__is_shelf ?l__is_shelf ?c__is_shelf ?k__is_shelf ?a__is_wish ?l__is_wish ?c__is_wish ?k__is_wish ?a__is_rising ?l__is_rising ?c__is_rising ?k__is_rising ?a__law_taken ?l__law_taken ?c__law_taken ?k__law_taken ?a__law_wish ?l__law_wish ?c__law_wish ?k__law_wish ?a__law_store ?l__law_store ?c__law_store ?k__law_store ?a__law_made ?l__law_made ?c__law_made ?k__law_made ?a__law_mirrored ?l__law_mirrored ?c__law_mirrored ?k__law_mirrored ?a__law_mirror_state ?l__law_mirror_state ?c__law_mirror_state ?k__law_mirror_state ?a__law_mirror_step ?l__law_mirror_step ?c__law_mirror_step ?k__law_mirror_step ?a__law_as_told ?l__law_as_told ?c__law_as_told ?k__law_as_told ?a__law_ordered ?l__law_ordered ?c__law_ordered ?k__law_ordered ?a_law ?l_law ?c_law ?k_law ?pgC ?hdC ?poC ?saC ?mkC ?kcC ?nS ?nW ?nA ?z_len ?z_list ?z_tuple ?z_sorted ?z_sum ?z_all ?z_str ?z_min ?z_max ?z_int ?z_range ?z_enumerate ?z_isinstance ?z_reversed ?z_bool ?z_ValueError ?z_heappop ?z_heappush ?c_MOST_SHELVES ?c_MOST_ROOM ?c_MOST_WISHES ?c_MOST_KEEP ?g_KINDS ?l_KINDS ?g_SIDES ?l_SIDES ?g_SS ?l_SS ?l_S0 ?l_S1 ?l_S2 ?l_S3 ?l_S4 ?l_S5 ?l_S6
    (case aC => k_is)
    (case a_begin => k_is)
    (case l_begin => k_is)
    (case c_begin => k_is)
    (case k_begin => k_is)
    (case a_steps_at => k_is)
    (case l_steps_at => k_is)
    (case c_steps_at => k_is)
    (case k_steps_at => k_is)
    (case a_played => k_is)
    (case l_played => k_is)
    (case c_played => k_is)
    (case k_played => k_is)
    (case a_shifts => k_is)
    (case l_shifts => k_is)
    (case c_shifts => k_is)
    (case k_shifts => k_is)
    (case a_is_end => k_is)
    (case l_is_end => k_is)
    (case c_is_end => k_is)
    (case k_is_end => k_is)
    (case a_behind => k_is)
    (case l_behind => k_is)
    (case c_behind => k_is)
    (case k_behind => k_is)
    (case a_shifts_of => k_is)
    (case l_shifts_of => k_is)
    (case c_shifts_of => k_is)
    (case k_shifts_of => k_is)
    (case a_refuse_no_steps => k_is)
    (case l_refuse_no_steps => k_is)
    (case c_refuse_no_steps => k_is)
    (case k_refuse_no_steps => k_is)
    (case a__all_steps => k_is)
    (case l__all_steps => k_is)
    (case c__all_steps => k_is)
    (case k__all_steps => k_is)
    (case a__bar => k_is)
    (case l__bar => k_is)
    (case c__bar => k_is)
    (case k__bar => k_is)
    (case a__bar_of_shift => k_is)
    (case l__bar_of_shift => k_is)
    (case c__bar_of_shift => k_is)
    (case k__bar_of_shift => k_is)
    (case a__bar_of_going_in => k_is)
    (case l__bar_of_going_in => k_is)
    (case c__bar_of_going_in => k_is)
    (case k__bar_of_going_in => k_is)
    (case a__bar_of_going_out => k_is)
    (case l__bar_of_going_out => k_is)
    (case c__bar_of_going_out => k_is)
    (case k__bar_of_going_out => k_is)
    (case a__bar_of_wish => k_is)
    (case l__bar_of_wish => k_is)
    (case c__bar_of_wish => k_is)
    (case k__bar_of_wish => k_is)
    (case a__bar_of_load => k_is)
    (case l__bar_of_load => k_is)
    (case c__bar_of_load => k_is)
    (case k__bar_of_load => k_is)
    (case a__is_beside => k_is)
    (case l__is_beside => k_is)
    (case c__is_beside => k_is)
    (case k__is_beside => k_is)
    (case a__has_now => k_is)
    (case l__has_now => k_is)
    (case c__has_now => k_is)
    (case k__has_now => k_is)
    (case a_least_from => k_is)
    (case l_least_from => k_is)
    (case c_least_from => k_is)
    (case k_least_from => k_is)
    (case a__ways_from => k_is)
    (case l__ways_from => k_is)
    (case c__ways_from => k_is)
    (case k__ways_from => k_is)
    (case a__costs => k_is)
    (case l__costs => k_is)
    (case c__costs => k_is)
    (case k__costs => k_is)
    (case a__earlier => k_is)
    (case l__earlier => k_is)
    (case c__earlier => k_is)
    (case k__earlier => k_is)
    (case a__plan => k_is)
    (case l__plan => k_is)
    (case c__plan => k_is)
    (case k__plan => k_is)
    (case a__best_step => k_is)
    (case l__best_step => k_is)
    (case c__best_step => k_is)
    (case k__best_step => k_is)
    (case a__paper => k_is)
    (case l__paper => k_is)
    (case c__paper => k_is)
    (case k__paper => k_is)
    (case a_least => k_is)
    (case l_least => k_is)
    (case c_least => k_is)
    (case k_least => k_is)
    (case a_Store___init__ => k_is)
    (case i_Store___init__ => k_is)
    (case l_Store___init__ => k_is)
    (case c_Store___init__ => k_is)
    (case k_Store___init__ => k_is)
    (case a_Store_shelves => k_is)
    (case i_Store_shelves => k_is)
    (case l_Store_shelves => k_is)
    (case c_Store_shelves => k_is)
    (case k_Store_shelves => k_is)
    (case a_Store_wishes => k_is)
    (case i_Store_wishes => k_is)
    (case l_Store_wishes => k_is)
    (case c_Store_wishes => k_is)
    (case k_Store_wishes => k_is)
    (case a__refuse_no_store => k_is)
    (case l__refuse_no_store => k_is)
    (case c__refuse_no_store => k_is)
    (case k__refuse_no_store => k_is)
    (case a__is_shelf => k_is)
    (case l__is_shelf => k_is)
    (case c__is_shelf => k_is)
    (case k__is_shelf => k_is)
    (case a__is_wish => k_is)
    (case l__is_wish => k_is)
    (case c__is_wish => k_is)
    (case k__is_wish => k_is)
    (case a__is_rising => k_is)
    (case l__is_rising => k_is)
    (case c__is_rising => k_is)
    (case k__is_rising => k_is)
    (case a__law_taken => k_is)
    (case l__law_taken => k_is)
    (case c__law_taken => k_is)
    (case k__law_taken => k_is)
    (case a__law_wish => k_is)
    (case l__law_wish => k_is)
    (case c__law_wish => k_is)
    (case k__law_wish => k_is)
    (case a__law_store => k_is)
    (case l__law_store => k_is)
    (case c__law_store => k_is)
    (case k__law_store => k_is)
    (case a__law_made => k_is)
    (case l__law_made => k_is)
    (case c__law_made => k_is)
    (case k__law_made => k_is)
    (case a__law_mirrored => k_is)
    (case l__law_mirrored => k_is)
    (case c__law_mirrored => k_is)
    (case k__law_mirrored => k_is)
    (case a__law_mirror_state => k_is)
    (case l__law_mirror_state => k_is)
    (case c__law_mirror_state => k_is)
    (case k__law_mirror_state => k_is)
    (case a__law_mirror_step => k_is)
    (case l__law_mirror_step => k_is)
    (case c__law_mirror_step => k_is)
    (case k__law_mirror_step => k_is)
    (case a__law_as_told => k_is)
    (case l__law_as_told => k_is)
    (case c__law_as_told => k_is)
    (case k__law_as_told => k_is)
    (case a__law_ordered => k_is)
    (case l__law_ordered => k_is)
    (case c__law_ordered => k_is)
    (case k__law_ordered => k_is)
    (case a_law => k_is)
    (case l_law => k_is)
    (case c_law => k_is)
    (case k_law => k_is)
    (case pgC => k_is)
    (case hdC => k_is)
    (case poC => k_is)
    (case saC => k_is)
    (case mkC => k_is)
    (case kcC => k_is)
    (case nS => k_is)
    (case nW => k_is)
    (case nA => k_is)
    (case z_len => k_is)
    (case z_list => k_is)
    (case z_tuple => k_is)
    (case z_sorted => k_is)
    (case z_sum => k_is)
    (case z_all => k_is)
    (case z_str => k_is)
    (case z_min => k_is)
    (case z_max => k_is)
    (case z_int => k_is)
    (case z_range => k_is)
    (case z_enumerate => k_is)
    (case z_isinstance => k_is)
    (case z_reversed => k_is)
    (case z_bool => k_is)
    (case z_ValueError => k_is)
    (case z_heappop => k_is)
    (case z_heappush => k_is)
    (case c_MOST_SHELVES => k_is)
    (case c_MOST_ROOM => k_is)
    (case c_MOST_WISHES => k_is)
    (case c_MOST_KEEP => k_is)
    (case g_KINDS => k_is)
    (case l_KINDS => k_is)
    (case g_SIDES => k_is)
    (case l_SIDES => k_is)
    (case g_SS => k_is)
    (case l_SS => k_is)
    (case l_S0 => k_is)
    (case l_S1 => k_is)
    (case l_S2 => k_is)
    (case l_S3 => k_is)
    (case l_S4 => k_is)
    (case l_S5 => k_is)
    (case l_S6 => k_is)
#print axioms PySem.Challenge.cw_aisleshift_k12_whole_seen_from_the_other_holds
