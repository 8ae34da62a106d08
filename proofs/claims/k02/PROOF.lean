import PyProof.Rows.All
import Wide.All
import OpenK.AllK
import Wide.FinOn
import HandS.ForMost
import HandS.Evl
import HandS.IsInst
import HandS.EndBits
import HandS.Wide
import KE.DatumMoreOrd
import PySem.Challenge.RW_folio_k02_chosen_way
set_option Elab.async false
set_option linter.all false
set_option maxRecDepth 100000
set_option maxHeartbeats 4000000
set_option Elab.async false
namespace Ly
open PySem PySem.Spec PyProof.Rows L2 Evl
open PySem.W (Datum DatumOrd Tup T3 T4)

/-! ### data that is held, masks -/
mutual
theorem dp_mono {K : PySem.W.Frag} {H H' : Hp} (e : Ex H H') : ∀ {v : V} {d : PyData}, Dp K H v d → Dp K H' v d
  | _, _, .non => .non
  | _, _, .bl b => .bl b
  | _, _, .int i => .int i
  | _, _, .str x => .str x
  | _, _, .lst h a => .lst (ex_l e h) (dpa_mono e a)
  | _, _, .tup h a => .tup (ex_t e h) (dpa_mono e a)
theorem dpa_mono {K : PySem.W.Frag} {H H' : Hp} (e : Ex H H') : ∀ {vs : List V} {ds : List PyData}, DpAll K H vs ds → DpAll K H' vs ds
  | _, _, .nil => .nil
  | _, _, .cons a b => .cons (dp_mono e a) (dpa_mono e b)
end
theorem dpa_len {K : PySem.W.Frag} {H : Hp} : ∀ {vs : List V} {ds : List PyData}, DpAll K H vs ds → vs.length = ds.length
  | _, _, .nil => rfl
  | _, _, .cons _ b => by rw [List.length_cons, List.length_cons, dpa_len b]
theorem dpa_at {K : PySem.W.Frag} {H : Hp} : ∀ {vs : List V} {ds : List PyData} {i : Nat} {d : PyData}, DpAll K H vs ds → ds[i]? = some d → ∃ v, vs[i]? = some v ∧ Dp K H v d
  | _, _, i, d, .nil, e => by simp at e
  | _, _, 0, d, .cons a b, e => by simp at e; subst e; exact ⟨_, rfl, a⟩
  | _, _, i + 1, d, .cons a b, e => by
    obtain ⟨v, h1, h2⟩ := dpa_at (i := i) (d := d) b (by simpa using e)
    exact ⟨v, by simpa using h1, h2⟩
theorem dpa_app {K : PySem.W.Frag} {H : Hp} : ∀ {vs ws : List V} {ds es : List PyData}, DpAll K H vs ds → DpAll K H ws es → DpAll K H (vs ++ ws) (ds ++ es)
  | _, _, _, _, .nil, h => h
  | _, _, _, _, .cons a b, h => .cons a (dpa_app b h)

variable {K : PySem.W.Frag}
/-- v holds x -/
def Dt {α : Type} [DecidableEq α] [Datum α] (K : PySem.W.Frag) (H : Hp) (v : V) (x : α) : Prop := Dp K H v (Datum.toD x)
def Dts {α : Type} [DecidableEq α] [Datum α] (K : PySem.W.Frag) (H : Hp) (vs : List V) (xs : List α) : Prop := DpAll K H vs (xs.map Datum.toD)
/-- the heap without the objects of M -/
def msk (M : List Addr) (H : Hp) : Hp := fun a => if a ∈ M then none else H a
def MOk (M : List Addr) (H : Hp) : Prop := ∀ l ∈ M, H l ≠ none
section
variable {α : Type} [DecidableEq α] [Datum α] {H H1 H2 : Hp} {M N : List Addr} {v : V} {x : α}
theorem msk_in {a : Addr} (h : a ∈ M) : msk M H a = none := by unfold msk; rw [if_pos h]
theorem msk_out {a : Addr} (h : a ∉ M) : msk M H a = H a := by unfold msk; rw [if_neg h]
theorem msk_nil : msk [] H = H := by funext a; unfold msk; simp
theorem msk_ex (e : Ex H H1) : Ex (msk M H) (msk M H1) := fun a o h => by
  by_cases q : a ∈ M
  · rw [msk_in q] at h; cases h
  · rw [msk_out q] at h ⊢; exact e a o h
theorem msk_le : Ex (msk M H) H := fun a o h => by
  by_cases q : a ∈ M
  · rw [msk_in q] at h; cases h
  · rw [msk_out q] at h; exact h
theorem msk_sub (s : ∀ a ∈ N, a ∈ M) : Ex (msk M H) (msk N H) := fun a o h => by
  by_cases q : a ∈ M
  · rw [msk_in q] at h; cases h
  · rw [msk_out q] at h
    rw [msk_out fun z => q (s a z)]
    exact h
theorem msk_upd {l : Addr} {o : HO} (h : l ∈ M) : msk M (upd H l o) = msk M H := by
  funext a
  by_cases q : a ∈ M
  · rw [msk_in q, msk_in q]
  · rw [msk_out q, msk_out q, upd_ne (fun z => q (by rw [z]; exact h))]
theorem msk_new {p : Addr} {o : HO} (h : H p = none) : Ex (msk M H) (msk (p :: M) (upd H p o)) := fun a u e => by
  by_cases q : a ∈ M
  · rw [msk_in q] at e; cases e
  · rw [msk_out q] at e
    have n : a ≠ p := ne_of_none e h
    rw [msk_out (by simp [n, q]), upd_ne n]
    exact e
theorem MOk.ex (e : Ex H H1) (m : MOk M H) : MOk M H1 := fun l hl z => by
  have := m l hl
  cases q : H l with
  | none => exact this q
  | some o => rw [e l o q] at z; cases z
theorem MOk.nin {p : Addr} (m : MOk M H) (h : H p = none) : p ∉ M := fun z => m p z h
theorem msk_at {p : Addr} {o : HO} (m : MOk M H) (h : H p = none) : msk M (upd H p o) p = some o := by
  rw [msk_out (m.nin h), upd_same]
theorem Dt.mono (e : Ex H H1) (h : Dt K H v x) : Dt K H1 v x := dp_mono e h
theorem Dts.mono {vs : List V} {xs : List α} (e : Ex H H1) (h : Dts K H vs xs) : Dts K H1 vs xs := dpa_mono e h
theorem Dts.len {vs : List V} {xs : List α} (h : Dts K H vs xs) : vs.length = xs.length := by
  have := dpa_len h
  rwa [List.length_map] at this
theorem Dts.nil : Dts K H [] ([] : List α) := DpAll.nil
theorem Dts.cons {vs : List V} {xs : List α} (a : Dt K H v x) (b : Dts K H vs xs) : Dts K H (v :: vs) (x :: xs) := DpAll.cons a b
theorem Dts.app {vs ws : List V} {xs ys : List α} (a : Dts K H vs xs) (b : Dts K H ws ys) : Dts K H (vs ++ ws) (xs ++ ys) := by
  unfold Dts
  rw [List.map_append]
  exact dpa_app a b
theorem Dts.snoc {vs : List V} {xs : List α} (b : Dts K H vs xs) (a : Dt K H v x) : Dts K H (vs ++ [v]) (xs ++ [x]) := b.app (DpAll.cons a DpAll.nil)
theorem Dts.at {vs : List V} {xs : List α} {i : Nat} {x : α} (h : Dts K H vs xs) (e : xs[i]? = some x) : ∃ v, vs[i]? = some v ∧ Dt K H v x :=
  dpa_at h (by rw [List.getElem?_map, e]; rfl)
theorem Dt.int {i : Int} (h : Dt K H v i) : v = .int i := by
  cases (show Dp K H v (.int i) from h); rfl
theorem Dt.ofInt (i : Int) : Dt K H (.int i) i := Dp.int i
theorem Dt.bool {i : Bool} (h : Dt K H v i) : v = .bl i := by
  cases (show Dp K H v (.bool i) from h); rfl
theorem Dt.ofBool (i : Bool) : Dt K H (.bl i) i := Dp.bl i
theorem Dt.str {i : Str} (h : Dt K H v i) : v = .str i := by
  cases (show Dp K H v (.str i) from h); rfl
theorem Dt.ofStr (i : Str) : Dt K H (.str i) i := Dp.str i
theorem Dt.unit {i : Unit} (h : Dt K H v i) : v = .non := by
  cases (show Dp K H v .none from h); rfl
theorem Dt.list {xs : List α} (h : Dt K H v xs) : ∃ a vs, v = .ref a ∧ SqL K H a vs ∧ Dts K H vs xs := by
  cases (show Dp K H v (.list _) from h) with
  | lst a b => exact ⟨_, _, rfl, a, b⟩
theorem Dt.ofList {a : Addr} {vs : List V} {xs : List α} (h : SqL K H a vs) (d : Dts K H vs xs) : Dt K H (.ref a) xs := Dp.lst h d
theorem Dt.tupv {xs : Tup α} (h : Dt K H v xs) : ∃ a vs, v = .ref a ∧ SqT K H a vs ∧ Dts K H vs xs.items := by
  cases (show Dp K H v (.tuple _) from h) with
  | tup a b => exact ⟨_, _, rfl, a, b⟩
theorem Dt.ofTupv {a : Addr} {vs : List V} {xs : Tup α} (h : SqT K H a vs) (d : Dts K H vs xs.items) : Dt K H (.ref a) xs := Dp.tup h d
end
section
variable {α β γ δ : Type} [DecidableEq α] [Datum α] [DecidableEq β] [Datum β] [DecidableEq γ] [Datum γ] [DecidableEq δ] [Datum δ] {H H1 H2 : Hp} {v : V}
theorem Dt.pair {p : α × β} (h : Dt K H v p) : ∃ l a b, v = .ref l ∧ SqT K H l [a, b] ∧ Dt K H a p.1 ∧ Dt K H b p.2 := by
  cases (show Dp K H v (.tuple [_, _]) from h) with
  | tup s b =>
    cases b with
    | cons b1 b =>
      cases b with
      | cons b2 b =>
        cases b
        exact ⟨_, _, _, rfl, s, b1, b2⟩
theorem Dt.ofPair {l : Addr} {a b : V} {x : α} {y : β} (s : SqT K H l [a, b]) (ha : Dt K H a x) (hb : Dt K H b y) : Dt K H (.ref l) (x, y) := Dp.tup s (.cons ha (.cons hb .nil))
theorem Dt.t3 {p : T3 α β γ} (h : Dt K H v p) : ∃ l a b c, v = .ref l ∧ SqT K H l [a, b, c] ∧ Dt K H a p.a ∧ Dt K H b p.b ∧ Dt K H c p.c := by
  cases (show Dp K H v (.tuple [_, _, _]) from h) with
  | tup s b =>
    cases b with
    | cons b1 b =>
      cases b with
      | cons b2 b =>
        cases b with
        | cons b3 b =>
          cases b
          exact ⟨_, _, _, _, rfl, s, b1, b2, b3⟩
theorem Dt.ofT3 {l : Addr} {a b c : V} {x : α} {y : β} {z : γ} (s : SqT K H l [a, b, c]) (ha : Dt K H a x) (hb : Dt K H b y) (hc : Dt K H c z) : Dt K H (.ref l) (T3.mk x y z) := Dp.tup s (.cons ha (.cons hb (.cons hc .nil)))
theorem Dt.t4 {p : T4 α β γ δ} (h : Dt K H v p) : ∃ l a b c d, v = .ref l ∧ SqT K H l [a, b, c, d] ∧ Dt K H a p.a ∧ Dt K H b p.b ∧ Dt K H c p.c ∧ Dt K H d p.d := by
  cases (show Dp K H v (.tuple [_, _, _, _]) from h) with
  | tup s b =>
    cases b with
    | cons b1 b =>
      cases b with
      | cons b2 b =>
        cases b with
        | cons b3 b =>
          cases b with
          | cons b4 b =>
            cases b
            exact ⟨_, _, _, _, _, rfl, s, b1, b2, b3, b4⟩
theorem Dt.ofT4 {l : Addr} {a b c d : V} {x : α} {y : β} {z : γ} {u : δ} (s : SqT K H l [a, b, c, d]) (ha : Dt K H a x) (hb : Dt K H b y) (hc : Dt K H c z) (hd : Dt K H d u) : Dt K H (.ref l) (T4.mk x y z u) := Dp.tup s (.cons ha (.cons hb (.cons hc (.cons hd .nil))))
end
end Ly

namespace Ly
open PySem PySem.Spec PyProof.Rows L2 Evl
open PySem.W (Datum DatumOrd Tup T3 T4)

/-! ### what an expression gives -/
section
variable {K : PySem.W.Frag} {M : List Addr} {σ : L2.St} {H H' : Hp} {te ta tb tc td : TE} {tt tu : TT}
variable {α β γ δ ε : Type} [DecidableEq α] [Datum α] [DecidableEq β] [Datum β] [DecidableEq γ] [Datum γ] [DecidableEq δ] [Datum δ] [DecidableEq ε] [Datum ε]

def Hv (K : PySem.W.Frag) (M : List Addr) (te : TE) (σ : L2.St) (H : Hp) (x : α) : Prop :=
  ∀ H1, Ex H H1 → MOk M H1 → ∀ Q : VK, (∀ v H2, Ex H1 H2 → Dt K (msk M H2) v x → Q v H2) → te σ H1 Q
def HT (M : List Addr) (tt : TT) (σ : L2.St) (H : Hp) (b : Bool) : Prop :=
  ∀ H1, Ex H H1 → MOk M H1 → ∀ Q : Bool → Hp → Prop, (∀ H2, Ex H1 H2 → Q b H2) → tt σ H1 Q
/-- arguments: P of their values -/
def HA (M : List Addr) (ta : TA) (σ : L2.St) (H : Hp) (P : List V → Hp → Prop) : Prop :=
  ∀ H1, Ex H H1 → MOk M H1 → ∀ Q : List V → Hp → Prop, (∀ vs H2, Ex H1 H2 → P vs H2 → Q vs H2) → ta σ H1 Q
theorem Hv.mono {x : α} (e : Ex H H') (h : Hv K M te σ H x) : Hv K M te σ H' x := fun H1 a m Q q => h H1 (e.trans a) m Q q
theorem HT.mono {b : Bool} (e : Ex H H') (h : HT M tt σ H b) : HT M tt σ H' b := fun H1 a m Q q => h H1 (e.trans a) m Q q
theorem Hv.is {x y : α} (h : Hv K M te σ H x) (e : x = y) : Hv K M te σ H y := by rw [← e]; exact h
theorem HT.is {x y : Bool} (h : HT M tt σ H x) (e : x = y) : HT M tt σ H y := by rw [← e]; exact h
/-- a value that is told -/
theorem hv_ev {v : V} {x : α} (h : Ev te σ H v) (d : Dt K (msk M H) v x) : Hv K M te σ H x := fun H1 e m Q q =>
  h H1 e Q fun H2 e2 => q v H2 e2 (d.mono (msk_ex (e.trans e2)))
theorem hv_evI {x : Int} (h : Ev te σ H (.int x)) : Hv K M te σ H x := hv_ev h (Dt.ofInt x)
theorem hv_evB {x : Bool} (h : Ev te σ H (.bl x)) : Hv K M te σ H x := hv_ev h (Dt.ofBool x)
theorem hv_evS {x : Str} (h : Ev te σ H (.str x)) : Hv K M te σ H x := hv_ev h (Dt.ofStr x)
theorem ev_hvI {x : Int} (h : Hv K M te σ H x) (m : MOk M H) : Ev te σ H (.int x) := fun H1 e Q q =>
  h H1 e (m.ex e) Q fun v H2 e2 d => by rw [d.int]; exact q H2 e2
theorem ev_hvB {x : Bool} (h : Hv K M te σ H x) (m : MOk M H) : Ev te σ H (.bl x) := fun H1 e Q q =>
  h H1 e (m.ex e) Q fun v H2 e2 d => by rw [d.bool]; exact q H2 e2
theorem ev_hvS {x : Str} (h : Hv K M te σ H x) (m : MOk M H) : Ev te σ H (.str x) := fun H1 e Q q =>
  h H1 e (m.ex e) Q fun v H2 e2 d => by rw [d.str]; exact q H2 e2
theorem hv_var {i : Nat} {v : V} {x : α} (h : σ[i]? = some (some v)) (d : Dt K (msk M H) v x) : Hv K M (tVar i) σ H x := hv_ev (ev_var h) d
theorem hv_vI {i : Nat} {x : Int} (h : σ[i]? = some (some (.int x))) : Hv K M (tVar i) σ H x := hv_evI (ev_var h)
theorem hv_vB {i : Nat} {x : Bool} (h : σ[i]? = some (some (.bl x))) : Hv K M (tVar i) σ H x := hv_evB (ev_var h)
theorem hv_vS {i : Nat} {x : Str} (h : σ[i]? = some (some (.str x))) : Hv K M (tVar i) σ H x := hv_evS (ev_var h)
theorem hv_int (n : Int) : Hv K M (tC (.int n)) σ H n := hv_evI ev_c
theorem hv_bl (n : Bool) : Hv K M (tC (.bl n)) σ H n := hv_evB ev_c
theorem hv_str (n : Str) : Hv K M (tC (.str n)) σ H n := hv_evS ev_c
theorem hv_none [PySem.W.SomeDatum α] : Hv K M (tC .non) σ H (none : Option α) := hv_ev ev_c Dp.non
theorem hv_some [PySem.W.SomeDatum α] {x : α} (h : Hv K M te σ H x) : Hv K M te σ H (some x) := fun H1 e m Q q => h H1 e m Q fun v H2 e2 d => q v H2 e2 d

/-! ### whole numbers -/
theorem hv_op0 {g : Int → Int → Int} {i j : Int} (ha : Hv K M ta σ H i) (hb : Hv K M tb σ H j) : Hv K M (tOp (rI0 fun i j => .int (g i j)) ta tb) σ H (g i j) := fun H1 e m Q q =>
  ha H1 e m _ fun v H2 e2 d => hb H2 (e.trans e2) (m.ex e2) _ fun u H3 e3 d' => ⟨i, j, d.int, d'.int, q _ H3 (e2.trans e3) (Dt.ofInt _)⟩
theorem hv_opC {C : Int → Int → Prop} {g : Int → Int → Int} {i j : Int} (ha : Hv K M ta σ H i) (hb : Hv K M tb σ H j) (c : C i j) : Hv K M (tOp (rI C fun i j => .int (g i j)) ta tb) σ H (g i j) := fun H1 e m Q q =>
  ha H1 e m _ fun v H2 e2 d => hb H2 (e.trans e2) (m.ex e2) _ fun u H3 e3 d' => ⟨i, j, d.int, d'.int, c, q _ H3 (e2.trans e3) (Dt.ofInt _)⟩
theorem hv_cmp0 {g : Int → Int → Bool} {i j : Int} (ha : Hv K M ta σ H i) (hb : Hv K M tb σ H j) : Hv K M (tOp (rI0 fun i j => .bl (g i j)) ta tb) σ H (g i j) := fun H1 e m Q q =>
  ha H1 e m _ fun v H2 e2 d => hb H2 (e.trans e2) (m.ex e2) _ fun u H3 e3 d' => ⟨i, j, d.int, d'.int, q _ H3 (e2.trans e3) (Dt.ofBool _)⟩
theorem hv_neg {i : Int} (ha : Hv K M ta σ H i) : Hv K M (tUn (rU fun i => .int (-i)) ta) σ H (-i) := fun H1 e m Q q =>
  ha H1 e m _ fun v H2 e2 d => ⟨i, d.int, q _ H2 e2 (Dt.ofInt _)⟩
theorem hv_lt {i j : Int} (ha : Hv K M ta σ H i) (hb : Hv K M tb σ H j) : Hv K M (tOp (rI0 fun i j => .bl (decide (i < j))) ta tb) σ H (decide (i < j)) := hv_cmp0 (g := fun i j => decide (i < j)) ha hb
theorem hv_le {i j : Int} (ha : Hv K M ta σ H i) (hb : Hv K M tb σ H j) : Hv K M (tOp (rI0 fun i j => .bl (decide (i ≤ j))) ta tb) σ H (decide (i ≤ j)) := hv_cmp0 (g := fun i j => decide (i ≤ j)) ha hb
theorem hv_gt {i j : Int} (ha : Hv K M ta σ H i) (hb : Hv K M tb σ H j) : Hv K M (tOp (rI0 fun i j => .bl (decide (j < i))) ta tb) σ H (decide (j < i)) := hv_cmp0 (g := fun i j => decide (j < i)) ha hb
theorem hv_ge {i j : Int} (ha : Hv K M ta σ H i) (hb : Hv K M tb σ H j) : Hv K M (tOp (rI0 fun i j => .bl (decide (j ≤ i))) ta tb) σ H (decide (j ≤ i)) := hv_cmp0 (g := fun i j => decide (j ≤ i)) ha hb
theorem hv_add {i j : Int} (ha : Hv K M ta σ H i) (hb : Hv K M tb σ H j) : Hv K M (tOp (rI0 fun i j => .int (i + j)) ta tb) σ H (i + j) := hv_op0 (g := fun i j => i + j) ha hb
theorem hv_sub {i j : Int} (ha : Hv K M ta σ H i) (hb : Hv K M tb σ H j) : Hv K M (tOp (rI0 fun i j => .int (i - j)) ta tb) σ H (i - j) := hv_op0 (g := fun i j => i - j) ha hb
theorem hv_mul {i j : Int} (ha : Hv K M ta σ H i) (hb : Hv K M tb σ H j) (c : CMul i j) : Hv K M (tOp (rI CMul fun i j => .int (i * j)) ta tb) σ H (i * j) := hv_opC (g := fun i j => i * j) ha hb c
theorem hv_mod {i j : Int} (ha : Hv K M ta σ H i) (hb : Hv K M tb σ H j) (c : 0 < j) : Hv K M (tOp (rI (fun _ j => 0 < j) fun i j => .int (i % j)) ta tb) σ H (i % j) := hv_opC (C := fun _ j => 0 < j) (g := fun i j => i % j) ha hb c
theorem hv_div {i j : Int} (ha : Hv K M ta σ H i) (hb : Hv K M tb σ H j) (c : CDivW i j) : Hv K M (tOp (rI CDivW fun i j => .int (i / j)) ta tb) σ H (i / j) := hv_opC (g := fun i j => i / j) ha hb c
theorem hv_pow {i j : Int} (ha : Hv K M ta σ H i) (hb : Hv K M tb σ H j) (c : CPow i j) : Hv K M (tOp (rI CPow fun i j => .int (i ^ j.toNat)) ta tb) σ H (i ^ j.toNat) := hv_opC (g := fun i j => i ^ j.toNat) ha hb c
theorem hv_eqI {i j : Int} (ha : Hv K M ta σ H i) (hb : Hv K M tb σ H j) : Hv K M (tOp rEq ta tb) σ H (decide (i = j)) := fun H1 e m Q q =>
  ha H1 e m _ fun v H2 e2 d => hb H2 (e.trans e2) (m.ex e2) _ fun u H3 e3 d' => by
    rw [d.int, d'.int]
    exact ⟨rfl, q _ H3 (e2.trans e3) (by rw [show decide (V.int i = V.int j) = decide (i = j) from decide_eq_decide.mpr ⟨V.int.inj, fun z => by rw [z]⟩]; exact Dt.ofBool _)⟩
theorem hv_neI {i j : Int} (ha : Hv K M ta σ H i) (hb : Hv K M tb σ H j) : Hv K M (tOp rNe ta tb) σ H (!decide (i = j)) := fun H1 e m Q q =>
  ha H1 e m _ fun v H2 e2 d => hb H2 (e.trans e2) (m.ex e2) _ fun u H3 e3 d' => by
    rw [d.int, d'.int]
    exact ⟨rfl, q _ H3 (e2.trans e3) (by rw [show decide (V.int i = V.int j) = decide (i = j) from decide_eq_decide.mpr ⟨V.int.inj, fun z => by rw [z]⟩]; exact Dt.ofBool _)⟩
theorem hv_eqS {i j : Str} (ha : Hv K M ta σ H i) (hb : Hv K M tb σ H j) : Hv K M (tOp rEq ta tb) σ H (decide (i = j)) := fun H1 e m Q q =>
  ha H1 e m _ fun v H2 e2 d => hb H2 (e.trans e2) (m.ex e2) _ fun u H3 e3 d' => by
    rw [d.str, d'.str]
    exact ⟨rfl, q _ H3 (e2.trans e3) (by rw [show decide (V.str i = V.str j) = decide (i = j) from decide_eq_decide.mpr ⟨V.str.inj, fun z => by rw [z]⟩]; exact Dt.ofBool _)⟩
theorem hv_neS {i j : Str} (ha : Hv K M ta σ H i) (hb : Hv K M tb σ H j) : Hv K M (tOp rNe ta tb) σ H (!decide (i = j)) := fun H1 e m Q q =>
  ha H1 e m _ fun v H2 e2 d => hb H2 (e.trans e2) (m.ex e2) _ fun u H3 e3 d' => by
    rw [d.str, d'.str]
    exact ⟨rfl, q _ H3 (e2.trans e3) (by rw [show decide (V.str i = V.str j) = decide (i = j) from decide_eq_decide.mpr ⟨V.str.inj, fun z => by rw [z]⟩]; exact Dt.ofBool _)⟩
theorem hv_eqB {i j : Bool} (ha : Hv K M ta σ H i) (hb : Hv K M tb σ H j) : Hv K M (tOp rEq ta tb) σ H (decide (i = j)) := fun H1 e m Q q =>
  ha H1 e m _ fun v H2 e2 d => hb H2 (e.trans e2) (m.ex e2) _ fun u H3 e3 d' => by
    rw [d.bool, d'.bool]
    exact ⟨rfl, q _ H3 (e2.trans e3) (by rw [show decide (V.bl i = V.bl j) = decide (i = j) from decide_eq_decide.mpr ⟨V.bl.inj, fun z => by rw [z]⟩]; exact Dt.ofBool _)⟩

/-! ### tests -/
theorem ht_val {b : Bool} (h : Hv K M te σ H b) : HT M (tTest te) σ H b := fun H1 e m Q q => h H1 e m _ fun v H2 e2 d => ⟨b, d.bool, q H2 e2⟩
theorem ht_B {b : Bool} (h : Hv K M te σ H b) : HT M (tB te) σ H b := fun H1 e m Q q => h H1 e m _ fun v H2 e2 d => ⟨b, d.bool, q H2 e2⟩
theorem ht_and {a b : Bool} (h1 : HT M tt σ H a) (h2 : a = true → HT M tu σ H b) : HT M (tAnd tt tu) σ H (a && b) := fun H1 e m Q q => h1 H1 e m _ fun H2 e2 => by
  cases a with
  | true =>
    show tu σ H2 Q
    exact h2 rfl H2 (e.trans e2) (m.ex e2) Q fun H3 e3 => q H3 (e2.trans e3)
  | false =>
    show Q false H2
    exact q H2 e2
theorem ht_or {a b : Bool} (h1 : HT M tt σ H a) (h2 : a = false → HT M tu σ H b) : HT M (tOr tt tu) σ H (a || b) := fun H1 e m Q q => h1 H1 e m _ fun H2 e2 => by
  cases a with
  | true =>
    show Q true H2
    exact q H2 e2
  | false =>
    show tu σ H2 Q
    exact h2 rfl H2 (e.trans e2) (m.ex e2) Q fun H3 e3 => q H3 (e2.trans e3)
theorem ht_not {a : Bool} (h1 : HT M tt σ H a) : HT M (tNot tt) σ H (!a) := fun H1 e m _ q => h1 H1 e m _ fun H2 e2 => q H2 e2
theorem hv_and {a b : Bool} (h1 : Hv K M ta σ H a) (h2 : a = true → Hv K M tb σ H b) : Hv K M (tAndV ta tb) σ H (a && b) := fun H1 e m Q q => h1 H1 e m _ fun v H2 e2 d => ⟨a, d.bool, by
  cases a with
  | true =>
    show tb σ H2 Q
    exact h2 rfl H2 (e.trans e2) (m.ex e2) Q fun v H3 e3 => q v H3 (e2.trans e3)
  | false =>
    show Q (.bl false) H2
    exact q _ H2 e2 (Dt.ofBool _)⟩
theorem hv_or {a b : Bool} (h1 : Hv K M ta σ H a) (h2 : a = false → Hv K M tb σ H b) : Hv K M (tOrV ta tb) σ H (a || b) := fun H1 e m Q q => h1 H1 e m _ fun v H2 e2 d => ⟨a, d.bool, by
  cases a with
  | true =>
    show Q (.bl true) H2
    exact q _ H2 e2 (Dt.ofBool _)
  | false =>
    show tb σ H2 Q
    exact h2 rfl H2 (e.trans e2) (m.ex e2) Q fun v H3 e3 => q v H3 (e2.trans e3)⟩
theorem hv_not {a : Bool} (h1 : Hv K M ta σ H a) : Hv K M (tNotV ta) σ H (!a) := fun H1 e m _ q => h1 H1 e m _ fun v H2 e2 d => ⟨a, d.bool, q _ H2 e2 (Dt.ofBool _)⟩
theorem hv_ite {b : Bool} {x y : α} (h : HT M tt σ H b) (h1 : b = true → Hv K M ta σ H x) (h2 : b = false → Hv K M tb σ H y) : Hv K M (tIf tt ta tb) σ H (if b = true then x else y) := fun H1 e m Q q => h H1 e m _ fun H2 e2 => by
  cases b with
  | true =>
    show ta σ H2 Q
    exact h1 rfl H2 (e.trans e2) (m.ex e2) Q fun v H3 e3 => q v H3 (e2.trans e3)
  | false =>
    show tb σ H2 Q
    exact h2 rfl H2 (e.trans e2) (m.ex e2) Q fun v H3 e3 => q v H3 (e2.trans e3)

/-! ### tuples and lists that are written -/
theorem ha_nil : HA M tNil σ H (fun vs _ => vs = []) := fun H1 e m Q q => q [] H1 (Ex.refl H1) rfl
theorem ha_cons {tr : TA} {x : α} {P : List V → Hp → Prop} (h : Hv K M te σ H x) (hr : HA M tr σ H P) : HA M (tCons te tr) σ H (fun vs H => ∃ v r, vs = v :: r ∧ Dt K (msk M H) v x ∧ P r H) := fun H1 e m Q q =>
  h H1 e m _ fun v H2 e2 d => hr H2 (e.trans e2) (m.ex e2) _ fun vs H3 e3 p => q _ H3 (e2.trans e3) ⟨v, vs, rfl, d.mono (msk_ex e3), p⟩
/-- an argument whose value is told -/
theorem ha_consV {tr : TA} {v : V} {P : List V → Hp → Prop} (h : Ev te σ H v) (hr : HA M tr σ H P) : HA M (tCons te tr) σ H (fun vs H => ∃ r, vs = v :: r ∧ P r H) := fun H1 e m Q q =>
  h H1 e _ fun H2 e2 => hr H2 (e.trans e2) (m.ex e2) _ fun vs H3 e3 p => q _ H3 (e2.trans e3) ⟨vs, rfl, p⟩
theorem hv_tup2 {x : α} {y : β} (ha : Hv K M ta σ H x) (hb : Hv K M tb σ H y) : Hv K M (tTup (tCons ta (tCons tb tNil))) σ H (x, y) := fun H1 e m Q q =>
  ha H1 e m _ fun v H2 e2 d => hb H2 (e.trans e2) (m.ex e2) _ fun u H3 e3 d' => ⟨sz_of (by show 2 ≤ 100000; decide), fun p hp => by
    have m3 : MOk M H3 := m.ex (e2.trans e3)
    have e4 : Ex H3 (upd H3 p (.tup [v, u])) := Ex.new hp
    exact q _ _ ((e2.trans e3).trans e4) (Dt.ofPair (SqT.of (msk_at m3 hp)) (d.mono (msk_ex (e3.trans e4))) (d'.mono (msk_ex e4)))⟩
theorem hv_tup3 {x : α} {y : β} {z : γ} (ha : Hv K M ta σ H x) (hb : Hv K M tb σ H y) (hc : Hv K M tc σ H z) : Hv K M (tTup (tCons ta (tCons tb (tCons tc tNil)))) σ H (T3.mk x y z) := fun H1 e m Q q =>
  ha H1 e m _ fun v H2 e2 d => hb H2 (e.trans e2) (m.ex e2) _ fun u H3 e3 d' => hc H3 ((e.trans e2).trans e3) ((m.ex e2).ex e3) _ fun w H4 e4 d'' => ⟨sz_of (by show 3 ≤ 100000; decide), fun p hp => by
    have m4 : MOk M H4 := m.ex ((e2.trans e3).trans e4)
    have e5 : Ex H4 (upd H4 p (.tup [v, u, w])) := Ex.new hp
    exact q _ _ (((e2.trans e3).trans e4).trans e5) (Dt.ofT3 (SqT.of (msk_at m4 hp)) (d.mono (msk_ex ((e3.trans e4).trans e5))) (d'.mono (msk_ex (e4.trans e5))) (d''.mono (msk_ex e5)))⟩
theorem hv_tup4 {x : α} {y : β} {z : γ} {w : δ} (ha : Hv K M ta σ H x) (hb : Hv K M tb σ H y) (hc : Hv K M tc σ H z) (hd : Hv K M td σ H w) : Hv K M (tTup (tCons ta (tCons tb (tCons tc (tCons td tNil))))) σ H (T4.mk x y z w) := fun H1 e m Q q =>
  ha H1 e m _ fun v H2 e2 d => hb H2 (e.trans e2) (m.ex e2) _ fun u H3 e3 d' => hc H3 ((e.trans e2).trans e3) ((m.ex e2).ex e3) _ fun w H4 e4 d'' => hd H4 (((e.trans e2).trans e3).trans e4) (((m.ex e2).ex e3).ex e4) _ fun r H5 e5 d3 => ⟨sz_of (by show 4 ≤ 100000; decide), fun p hp => by
    have m4 : MOk M H5 := m.ex (((e2.trans e3).trans e4).trans e5)
    have e6 : Ex H5 (upd H5 p (.tup [v, u, w, r])) := Ex.new hp
    exact q _ _ ((((e2.trans e3).trans e4).trans e5).trans e6) (Dt.ofT4 (SqT.of (msk_at m4 hp)) (d.mono (msk_ex (((e3.trans e4).trans e5).trans e6))) (d'.mono (msk_ex ((e4.trans e5).trans e6))) (d''.mono (msk_ex (e5.trans e6))) (d3.mono (msk_ex e6)))⟩
/-- items of one type -/
def HAs (K : PySem.W.Frag) (M : List Addr) (ta : TA) (σ : L2.St) (H : Hp) (xs : List α) : Prop := HA M ta σ H (fun vs H => Dts K (msk M H) vs xs)
theorem has_nil : HAs K M tNil σ H ([] : List α) := fun H1 e m Q q => q [] H1 (Ex.refl H1) Dts.nil
theorem has_cons {tr : TA} {x : α} {xs : List α} (h : Hv K M te σ H x) (hr : HAs K M tr σ H xs) : HAs K M (tCons te tr) σ H (x :: xs) := fun H1 e m Q q =>
  h H1 e m _ fun v H2 e2 d => hr H2 (e.trans e2) (m.ex e2) _ fun vs H3 e3 p => q _ H3 (e2.trans e3) (Dts.cons (d.mono (msk_ex e3)) p)
theorem hv_lst {tr : TA} {xs : List α} (h : HAs K M tr σ H xs) (hl : xs.length ≤ 100000) : Hv K M (tLst tr) σ H xs := fun H1 e m Q q =>
  h H1 e m _ fun vs H2 e2 d => ⟨sz_of (by rw [d.len]; exact hl), fun p hp => by
    have e3 : Ex H2 (upd H2 p (.lst vs)) := Ex.new hp
    exact q _ _ (e2.trans e3) (Dt.ofList (SqL.of (msk_at (m.ex e2) hp)) (d.mono (msk_ex e3)))⟩
theorem hv_tupv {tr : TA} {xs : List α} (h : HAs K M tr σ H xs) (hl : xs.length ≤ 100000) : Hv K M (tTup tr) σ H (Tup.mk xs) := fun H1 e m Q q =>
  h H1 e m _ fun vs H2 e2 d => ⟨sz_of (by rw [d.len]; exact hl), fun p hp => by
    have e3 : Ex H2 (upd H2 p (.tup vs)) := Ex.new hp
    exact q _ _ (e2.trans e3) (Dt.ofTupv (SqT.of (msk_at (m.ex e2) hp)) (d.mono (msk_ex e3)))⟩

/-! ### items -/
theorem hv_ixL {xs : List α} {i : Int} {x : α} (ha : Hv K M ta σ H xs) (hb : Hv K M tb σ H i) (h0 : 0 ≤ i) (hx : xs[i.toNat]? = some x) : Hv K M (tOp (rIxL K) ta tb) σ H x := fun H1 e m Q q =>
  ha H1 e m _ fun v H2 e2 d => hb H2 (e.trans e2) (m.ex e2) _ fun u H3 e3 d' => by
    obtain ⟨a, vs, rfl, s, ds⟩ := d.list
    obtain ⟨w, h1, h2⟩ := ds.at hx
    exact ⟨a, vs, i, w, rfl, d'.int, ex_l (msk_le.trans e3) s, at_of (Int.toNat_of_nonneg h0).symm h1, q w H3 (e2.trans e3) (h2.mono (msk_ex e3))⟩
theorem hv_ixV {xs : Tup α} {i : Int} {x : α} (ha : Hv K M ta σ H xs) (hb : Hv K M tb σ H i) (h0 : 0 ≤ i) (hx : xs.items[i.toNat]? = some x) : Hv K M (tOp (rIxT K) ta tb) σ H x := fun H1 e m Q q =>
  ha H1 e m _ fun v H2 e2 d => hb H2 (e.trans e2) (m.ex e2) _ fun u H3 e3 d' => by
    obtain ⟨a, vs, rfl, s, ds⟩ := d.tupv
    obtain ⟨w, h1, h2⟩ := ds.at hx
    exact ⟨a, vs, i, w, rfl, d'.int, ex_t (msk_le.trans e3) s, at_of (Int.toNat_of_nonneg h0).symm h1, q w H3 (e2.trans e3) (h2.mono (msk_ex e3))⟩
theorem hv_p0 {p : α × β} (ha : Hv K M ta σ H p) : Hv K M (tOp (rIxT K) ta (tC (.int 0))) σ H p.1 := fun H1 e m Q q =>
  ha H1 e m _ fun v H2 e2 d => by
    obtain ⟨l, a, b, rfl, s, d1, d2⟩ := d.pair
    exact ⟨l, [a, b], 0, a, rfl, rfl, ex_t msk_le s, at_of (j := 0) rfl rfl, q a H2 e2 d1⟩
theorem hv_p1 {p : α × β} (ha : Hv K M ta σ H p) : Hv K M (tOp (rIxT K) ta (tC (.int 1))) σ H p.2 := fun H1 e m Q q =>
  ha H1 e m _ fun v H2 e2 d => by
    obtain ⟨l, a, b, rfl, s, d1, d2⟩ := d.pair
    exact ⟨l, [a, b], 1, b, rfl, rfl, ex_t msk_le s, at_of (j := 1) rfl rfl, q b H2 e2 d2⟩
theorem hv_t30 {p : T3 α β γ} (ha : Hv K M ta σ H p) : Hv K M (tOp (rIxT K) ta (tC (.int 0))) σ H p.a := fun H1 e m Q q =>
  ha H1 e m _ fun v H2 e2 d => by
    obtain ⟨l, a, b, c, rfl, s, d1, d2, d3⟩ := d.t3
    exact ⟨l, [a, b, c], 0, a, rfl, rfl, ex_t msk_le s, at_of (j := 0) rfl rfl, q a H2 e2 d1⟩
theorem hv_t31 {p : T3 α β γ} (ha : Hv K M ta σ H p) : Hv K M (tOp (rIxT K) ta (tC (.int 1))) σ H p.b := fun H1 e m Q q =>
  ha H1 e m _ fun v H2 e2 d => by
    obtain ⟨l, a, b, c, rfl, s, d1, d2, d3⟩ := d.t3
    exact ⟨l, [a, b, c], 1, b, rfl, rfl, ex_t msk_le s, at_of (j := 1) rfl rfl, q b H2 e2 d2⟩
theorem hv_t32 {p : T3 α β γ} (ha : Hv K M ta σ H p) : Hv K M (tOp (rIxT K) ta (tC (.int 2))) σ H p.c := fun H1 e m Q q =>
  ha H1 e m _ fun v H2 e2 d => by
    obtain ⟨l, a, b, c, rfl, s, d1, d2, d3⟩ := d.t3
    exact ⟨l, [a, b, c], 2, c, rfl, rfl, ex_t msk_le s, at_of (j := 2) rfl rfl, q c H2 e2 d3⟩
def T3.at {α : Type} (p : T3 α α α) (i : Int) : α := if i = 0 then p.a else if i = 1 then p.b else p.c
theorem hv_t3i {p : T3 α α α} {i : Int} (ha : Hv K M ta σ H p) (hb : Hv K M tb σ H i) (h0 : 0 ≤ i) (h3 : i < 3) : Hv K M (tOp (rIxT K) ta tb) σ H (Ly.T3.at p i) := fun H1 e m Q q =>
  ha H1 e m _ fun v H2 e2 d => hb H2 (e.trans e2) (m.ex e2) _ fun u H3 e3 d' => by
    obtain ⟨l, a, b, c, rfl, s, d1, d2, d3⟩ := d.t3
    have hh : i = 0 ∨ i = 1 ∨ i = 2 := by omega
    rcases hh with rfl | rfl | rfl
    · exact ⟨l, [a, b, c], 0, a, rfl, d'.int, ex_t (msk_le.trans e3) s, at_of (j := 0) rfl rfl, q a H3 (e2.trans e3) (d1.mono (msk_ex e3))⟩
    · exact ⟨l, [a, b, c], 1, b, rfl, d'.int, ex_t (msk_le.trans e3) s, at_of (j := 1) rfl rfl, q b H3 (e2.trans e3) (d2.mono (msk_ex e3))⟩
    · exact ⟨l, [a, b, c], 2, c, rfl, d'.int, ex_t (msk_le.trans e3) s, at_of (j := 2) rfl rfl, q c H3 (e2.trans e3) (d3.mono (msk_ex e3))⟩
end
end Ly

namespace Ly
open PySem PySem.Spec PyProof.Rows L2 Evl
open PySem.W (Datum DatumOrd Tup T3 T4)

/-! ### the state of a def: what its names hold -/
/-- what a thing that may still change holds -/
inductive Mv where
  | lst (ds : List PyData)
  | dic (kds : List (Key × PyData))
def MvOk (K : PySem.W.Frag) (H : Hp) (o : HO) : Mv → Prop
  | .lst ds => ∃ vs, o = .lst vs ∧ DpAll K H vs ds
  | .dic kds => ∃ kvs, o = .dK kvs ∧ kvs.map (·.1) = kds.map (·.1) ∧ DpAll K H (kvs.map (·.2)) (kds.map (·.2))
theorem MvOk.mono {K : PySem.W.Frag} {H H' : Hp} {o : HO} {m : Mv} (e : Ex H H') (h : MvOk K H o m) : MvOk K H' o m := by
  cases m with
  | lst ds => obtain ⟨vs, e1, e2⟩ := h; exact ⟨vs, e1, dpa_mono e e2⟩
  | dic kds => obtain ⟨vs, e1, e2, e3⟩ := h; exact ⟨vs, e1, e2, dpa_mono e e3⟩
abbrev Mus := List (Addr × Mv)
abbrev Ims := List (V × PyData)
def muA (mus : Mus) : List Addr := mus.map (·.1)
def Im (K : PySem.W.Frag) (H : Hp) : Ims → Prop
  | [] => True
  | (v, d) :: r => Dp K H v d ∧ Im K H r
def Mu (K : PySem.W.Frag) (Hm H : Hp) : Mus → Prop
  | [] => True
  | (l, m) :: r => (∃ o, H l = some o ∧ MvOk K Hm o m) ∧ Mu K Hm H r
theorem Im.mono {K : PySem.W.Frag} {H H' : Hp} (e : Ex H H') : ∀ {is : Ims}, Im K H is → Im K H' is
  | [], h => h
  | (_, _) :: _, h => ⟨dp_mono e h.1, Im.mono e h.2⟩
theorem Mu.mono {K : PySem.W.Frag} {Hm Hm' H H' : Hp} (e : Ex Hm Hm') (e' : Ex H H') : ∀ {ms : Mus}, Mu K Hm H ms → Mu K Hm' H' ms
  | [], h => h
  | (l, m) :: _, h => by
    obtain ⟨⟨o, h1, h2⟩, h3⟩ := h
    exact ⟨⟨o, e' l o h1, h2.mono e⟩, Mu.mono e e' h3⟩
theorem Mu.upd {K : PySem.W.Frag} {Hm H : Hp} {p : Addr} {o : HO} : ∀ {ms : Mus}, p ∉ muA ms → Mu K Hm H ms → Mu K Hm (upd H p o) ms
  | [], _, h => h
  | (l, m) :: r, n, h => by
    have n' : l ≠ p ∧ p ∉ muA r := by
      unfold muA at n
      simp only [List.map_cons, List.mem_cons, not_or] at n
      exact ⟨fun z => n.1 z.symm, n.2⟩
    obtain ⟨⟨o', h1, h2⟩, h3⟩ := h
    exact ⟨⟨o', by rw [upd_ne n'.1]; exact h1, h2⟩, Mu.upd n'.2 h3⟩
theorem Mu.get {K : PySem.W.Frag} {Hm H : Hp} : ∀ {ms : Mus} {k : Nat} {l : Addr} {m : Mv}, Mu K Hm H ms → ms[k]? = some (l, m) → ∃ o, H l = some o ∧ MvOk K Hm o m
  | [], k, _, _, _, e => by simp at e
  | (l, m) :: r, 0, _, _, h, e => by
    have e' : (l, m) = _ := Option.some.inj (show some (l, m) = some _ from e)
    cases e'
    exact h.1
  | (l, m) :: r, k + 1, _, _, h, e => Mu.get (ms := r) h.2 (by simpa using e)
theorem mem_muA {ms : Mus} {k : Nat} {l : Addr} {m : Mv} (e : ms[k]? = some (l, m)) : l ∈ muA ms := by
  have h : (l, m) ∈ ms := List.mem_of_getElem? e
  exact List.mem_map.mpr ⟨_, h, rfl⟩
theorem muA_set : ∀ {ms : Mus} {k : Nat} {l : Addr} {m m' : Mv}, ms[k]? = some (l, m) → muA (ms.set k (l, m')) = muA ms
  | [], k, _, _, _, e => by simp at e
  | (l, m) :: r, 0, _, _, _, e => by
    have e' : (l, m) = _ := Option.some.inj (show some (l, m) = some _ from e)
    cases e'
    rfl
  | (l, m) :: r, k + 1, l', m0, m', e => by
    have := muA_set (ms := r) (k := k) (m' := m') (show r[k]? = some (l', m0) by simpa using e)
    show l :: muA (r.set k (l', m')) = l :: muA r
    rw [this]
theorem Mu.set {K : PySem.W.Frag} {Hm H : Hp} {o : HO} {m' : Mv} : ∀ {ms : Mus} {k : Nat} {l : Addr} {m : Mv}, (muA ms).Nodup → ms[k]? = some (l, m) → MvOk K Hm o m' → Mu K Hm H ms → Mu K Hm (L2.upd H l o) (ms.set k (l, m'))
  | [], k, _, _, _, e, _, _ => by simp at e
  | (l, m) :: r, 0, _, _, nd, e, ok, h => by
    have e' : (l, m) = _ := Option.some.inj (show some (l, m) = some _ from e)
    cases e'
    have nd' : l ∉ muA r ∧ (muA r).Nodup := List.nodup_cons.mp nd
    exact ⟨⟨o, upd_same, ok⟩, Mu.upd nd'.1 h.2⟩
  | (l, m) :: r, k + 1, l', m0, nd, e, ok, h => by
    have nd' : l ∉ muA r ∧ (muA r).Nodup := List.nodup_cons.mp nd
    have e' : r[k]? = some (l', m0) := by simpa using e
    have ne : l ≠ l' := fun z => nd'.1 (z ▸ mem_muA e')
    obtain ⟨⟨o', h1, h2⟩, h3⟩ := h
    exact ⟨⟨o', by rw [upd_ne ne]; exact h1, h2⟩, Mu.set (ms := r) nd'.2 e' ok h3⟩

/-- Mc: what the caller may still change; He: the heap at the entry -/
structure Sg (K : PySem.W.Frag) (Mc : List Addr) (He H : Hp) (is : Ims) (ms : Mus) : Prop where
  ext : Ex He (msk (muA ms) H)
  okc : MOk Mc He
  nd : (muA ms).Nodup
  im : Im K (msk (muA ms ++ Mc) H) is
  mu : Mu K (msk (muA ms ++ Mc) H) H ms
section
variable {K : PySem.W.Frag} {Mc : List Addr} {He H H1 H2 : Hp} {is js : Ims} {ms : Mus} {σ : L2.St} {te ta tb tl : TE}
variable {α β : Type} [DecidableEq α] [Datum α] [DecidableEq β] [Datum β]
theorem Sg.enter (m : MOk Mc He) (im : Im K (msk Mc He) is) : Sg K Mc He He is [] := by
  refine ⟨?_, m, List.nodup_nil, im, True.intro⟩
  show Ex He (msk [] He)
  rw [msk_nil]
  exact Ex.refl He
theorem Sg.all (s : Sg K Mc He H is ms) : Ex He H := s.ext.trans msk_le
theorem Sg.mok (s : Sg K Mc He H is ms) : MOk (muA ms ++ Mc) H := fun l hl => by
  rcases List.mem_append.mp hl with h | h
  · obtain ⟨p, hp, e⟩ := List.mem_map.mp h
    obtain ⟨k, hk⟩ := List.getElem?_of_mem hp
    obtain ⟨o, ho, _⟩ := s.mu.get (k := k) (l := p.1) (m := p.2) hk
    rw [← e, ho]
    exact fun z => nomatch z
  · exact (s.okc.ex s.all) l h
theorem Sg.new_of (s : Sg K Mc He H is ms) {l : Addr} (h : l ∈ muA ms) : He l = none := by
  cases q : He l with
  | none => rfl
  | some o =>
    have := s.ext l o q
    rw [msk_in h] at this
    cases this
theorem Sg.notc (s : Sg K Mc He H is ms) {l : Addr} (h : l ∈ muA ms) : l ∉ Mc := fun z => s.okc l z (s.new_of h)
theorem Sg.ex (s : Sg K Mc He H is ms) (e : Ex H H1) : Sg K Mc He H1 is ms :=
  ⟨s.ext.trans (msk_ex e), s.okc, s.nd, s.im.mono (msk_ex e), s.mu.mono (msk_ex e) e⟩
theorem Sg.put (s : Sg K Mc He H is ms) {v : V} {x : α} (d : Dt K (msk (muA ms ++ Mc) H) v x) : Sg K Mc He H ((v, Datum.toD x) :: is) ms :=
  ⟨s.ext, s.okc, s.nd, ⟨d, s.im⟩, s.mu⟩
/-- a new thing that may change -/
theorem Sg.new (s : Sg K Mc He H is ms) {p : Addr} {o : HO} {m : Mv} (hp : H p = none) (ok : MvOk K (msk (p :: (muA ms ++ Mc)) (upd H p o)) o m) : Sg K Mc He (upd H p o) is ((p, m) :: ms) := by
  have np : p ∉ muA ms := fun z => by
    have := s.mok p (List.mem_append_left _ z)
    exact this hp
  refine ⟨s.ext.trans (msk_new hp), s.okc, List.nodup_cons.mpr ⟨np, s.nd⟩, ?_, ⟨⟨o, upd_same, ok⟩, ?_⟩⟩
  · exact s.im.mono (msk_new hp)
  · have h := s.mu.mono (msk_new (M := muA ms ++ Mc) (o := o) hp) (Ex.refl H)
    exact Mu.upd np h
/-- the k-th of what may change, changed -/
theorem Sg.set (s : Sg K Mc He H is ms) {k : Nat} {l : Addr} {m m' : Mv} {o : HO} (e : ms[k]? = some (l, m)) (ok : MvOk K (msk (muA ms ++ Mc) H) o m') : Sg K Mc He (upd H l o) is (ms.set k (l, m')) := by
  have hl : l ∈ muA ms := mem_muA e
  have ea := muA_set (m' := m') e
  have hl2 : l ∈ muA ms ++ Mc := List.mem_append_left _ hl
  refine ⟨?_, s.okc, by rw [ea]; exact s.nd, ?_, ?_⟩
  · rw [ea, msk_upd hl]; exact s.ext
  · rw [ea, msk_upd hl2]; exact s.im
  · rw [ea, msk_upd hl2]; exact Mu.set s.nd e ok s.mu
/-- no longer changed: the head of what may change, a list -/
theorem Sg.frz {l : Addr} {xs : List α} (s : Sg K Mc He H is ((l, .lst (xs.map Datum.toD)) :: ms)) : Sg K Mc He H ((.ref l, Datum.toD xs) :: is) ms := by
  have sub : Ex (msk (muA ((l, Mv.lst (xs.map Datum.toD)) :: ms) ++ Mc) H) (msk (muA ms ++ Mc) H) := msk_sub fun a ha => List.mem_cons_of_mem _ ha
  have nd := List.nodup_cons.mp s.nd
  obtain ⟨⟨o, h1, vs, e, h2⟩, h3⟩ := s.mu
  subst e
  have nl : l ∉ muA ms ++ Mc := fun z => (List.mem_append.mp z).elim nd.1 (s.notc List.mem_cons_self)
  refine ⟨s.ext.trans (msk_sub fun a ha => List.mem_cons_of_mem _ ha), s.okc, nd.2, ⟨?_, s.im.mono sub⟩, h3.mono sub (Ex.refl H)⟩
  exact Dt.ofList (SqL.of (by rw [msk_out nl]; exact h1)) (dpa_mono sub h2)
/-- what stands first moves behind -/
theorem Sg.rot {l l' : Addr} {m m' : Mv} (s : Sg K Mc He H is ((l, m) :: (l', m') :: ms)) : Sg K Mc He H is ((l', m') :: (l, m) :: ms) := by
  have ea : ∀ N : List Addr, msk (l :: l' :: N) H = msk (l' :: l :: N) H := fun N => by
    funext a
    unfold msk
    by_cases h : a ∈ l :: l' :: N
    · rw [if_pos h, if_pos (by simp only [List.mem_cons] at h ⊢; rcases h with h | h | h <;> simp [h])]
    · rw [if_neg h, if_neg (by simp only [List.mem_cons, not_or] at h ⊢; exact ⟨h.2.1, h.1, h.2.2⟩)]
  refine ⟨?_, s.okc, ?_, ?_, ?_⟩
  · have := s.ext
    show Ex He (msk (l' :: l :: muA ms) H)
    rw [← ea]; exact this
  · have nd : (l :: l' :: muA ms).Nodup := s.nd
    show (l' :: l :: muA ms).Nodup
    simp only [List.nodup_cons, List.mem_cons, not_or] at nd ⊢
    exact ⟨⟨fun z => nd.1.1 z.symm, nd.2.1⟩, nd.1.2, nd.2.2⟩
  · show Im K (msk (l' :: l :: (muA ms ++ Mc)) H) is
    rw [← ea]; exact s.im
  · have mu : (∃ o, H l = some o ∧ MvOk K (msk (l :: l' :: (muA ms ++ Mc)) H) o m) ∧ (∃ o, H l' = some o ∧ MvOk K (msk (l :: l' :: (muA ms ++ Mc)) H) o m') ∧ Mu K (msk (l :: l' :: (muA ms ++ Mc)) H) H ms := s.mu
    show (∃ o, H l' = some o ∧ MvOk K (msk (l' :: l :: (muA ms ++ Mc)) H) o m') ∧ (∃ o, H l = some o ∧ MvOk K (msk (l' :: l :: (muA ms ++ Mc)) H) o m) ∧ Mu K (msk (l' :: l :: (muA ms ++ Mc)) H) H ms
    rw [← ea]
    exact ⟨mu.2.1, mu.1, mu.2.2⟩
/-- forgetting what is known of names -/
theorem Sg.keep (s : Sg K Mc He H is ms) (h : ∀ Hm, Im K Hm is → Im K Hm js) : Sg K Mc He H js ms := ⟨s.ext, s.okc, s.nd, h _ s.im, s.mu⟩
theorem Sg.lst (s : Sg K Mc He H is ms) {k : Nat} {l : Addr} {xs : List α} (e : ms[k]? = some (l, .lst (xs.map Datum.toD))) : ∃ vs, H l = some (.lst vs) ∧ Dts K (msk (muA ms ++ Mc) H) vs xs := by
  obtain ⟨o, h1, vs, e1, h2⟩ := s.mu.get e
  subst e1
  exact ⟨vs, h1, h2⟩

/-! ### a list that may still change, read -/
def HS (K : PySem.W.Frag) (M : List Addr) (te : TE) (σ : L2.St) (H : Hp) (xs : List α) : Prop :=
  ∀ H1, Ex H H1 → MOk M H1 → ∀ Q : VK, (∀ a vs H2, Ex H1 H2 → SqL K H2 a vs → Dts K (msk M H2) vs xs → Q (.ref a) H2) → te σ H1 Q
theorem hs_of {M : List Addr} {xs : List α} (h : Hv K M te σ H xs) : HS K M te σ H xs := fun H1 e m Q q =>
  h H1 e m Q fun v H2 e2 d => by
    obtain ⟨a, vs, rfl, s, ds⟩ := d.list
    exact q a vs H2 e2 (ex_l msk_le s) ds
theorem hs_mut (s : Sg K Mc He H is ms) {k i : Nat} {l : Addr} {xs : List α} (e : ms[k]? = some (l, .lst (xs.map Datum.toD))) (h : σ[i]? = some (some (.ref l))) : HS K (muA ms ++ Mc) (tVar i) σ H xs := fun H1 e1 m Q q => by
  obtain ⟨vs, h1, h2⟩ := (s.ex e1).lst e
  exact ⟨_, h, q l vs H1 (Ex.refl H1) (SqL.of h1) h2⟩
/-- all of it, for a use that leaves nothing behind -/
theorem hv_mut (s : Sg K Mc He H is ms) {k i : Nat} {l : Addr} {xs : List α} (e : ms[k]? = some (l, .lst (xs.map Datum.toD))) (h : σ[i]? = some (some (.ref l))) : Hv K [] (tVar i) σ H xs := fun H1 e1 m Q q => by
  obtain ⟨vs, h1, h2⟩ := (s.ex e1).lst e
  refine ⟨_, h, q _ H1 (Ex.refl H1) ?_⟩
  rw [msk_nil]
  exact Dt.ofList (SqL.of h1) (h2.mono msk_le)
theorem hv_whole (s : Sg K Mc He H is ms) {x : α} (h : Hv K (muA ms ++ Mc) te σ H x) : Hv K [] te σ H x := fun H1 e m Q q =>
  h H1 e (s.mok.ex e) Q fun v H2 e2 d => q v H2 e2 (by rw [msk_nil]; exact d.mono msk_le)
theorem hv_wholeS (s : Sg K Mc He H is ms) {xs : List α} (h : HS K (muA ms ++ Mc) te σ H xs) : Hv K [] te σ H xs := fun H1 e m Q q =>
  h H1 e (s.mok.ex e) Q fun a vs H2 e2 s2 d => q _ H2 e2 (by rw [msk_nil]; exact Dt.ofList s2 (d.mono msk_le))
theorem hv_backI {M : List Addr} {x : Int} (h : Hv K [] te σ H x) : Hv K M te σ H x := fun H1 e m Q q =>
  h H1 e (fun _ z => nomatch z) Q fun v H2 e2 d => by rw [d.int]; exact q _ H2 e2 (Dt.ofInt x)
theorem hv_backB {M : List Addr} {x : Bool} (h : Hv K [] te σ H x) : Hv K M te σ H x := fun H1 e m Q q =>
  h H1 e (fun _ z => nomatch z) Q fun v H2 e2 d => by rw [d.bool]; exact q _ H2 e2 (Dt.ofBool x)
theorem hv_backS {M : List Addr} {x : Str} (h : Hv K [] te σ H x) : Hv K M te σ H x := fun H1 e m Q q =>
  h H1 e (fun _ z => nomatch z) Q fun v H2 e2 d => by rw [d.str]; exact q _ H2 e2 (Dt.ofStr x)
theorem hv_ixS {M : List Addr} {xs : List α} {i : Int} {x : α} (ha : HS K M ta σ H xs) (hb : Hv K M tb σ H i) (h0 : 0 ≤ i) (hx : xs[i.toNat]? = some x) : Hv K M (tOp (rIxL K) ta tb) σ H x := fun H1 e m Q q =>
  ha H1 e m _ fun a vs H2 e2 s ds => hb H2 (e.trans e2) (m.ex e2) _ fun u H3 e3 d' => by
    obtain ⟨w, h1, h2⟩ := ds.at hx
    exact ⟨a, vs, i, w, rfl, d'.int, ex_l e3 s, at_of (Int.toNat_of_nonneg h0).symm h1, q w H3 (e2.trans e3) (h2.mono (msk_ex e3))⟩

/-! ### statements -/
variable {D : Ends} {tz tu tw : TS} {tt : TT} {g : TG}
theorem z_asg {i : Nat} {x : α} (s : Sg K Mc He H is ms) (h : Hv K (muA ms ++ Mc) te σ H x) (k : ∀ v H1, Sg K Mc He H1 ((v, Datum.toD x) :: is) ms → tz D (σ.set i (some v)) H1) : tSeq (tAsg te (gName i)) tz D σ H :=
  h H (Ex.refl H) s.mok _ fun v H1 e d => k v H1 ((s.ex e).put d)
theorem z_asgI {i : Nat} {x : Int} (s : Sg K Mc He H is ms) (h : Hv K (muA ms ++ Mc) te σ H x) (k : ∀ H1, Sg K Mc He H1 is ms → tz D (σ.set i (some (.int x))) H1) : tSeq (tAsg te (gName i)) tz D σ H :=
  h H (Ex.refl H) s.mok _ fun v H1 e d => by rw [d.int]; exact k H1 (s.ex e)
theorem z_asgB {i : Nat} {x : Bool} (s : Sg K Mc He H is ms) (h : Hv K (muA ms ++ Mc) te σ H x) (k : ∀ H1, Sg K Mc He H1 is ms → tz D (σ.set i (some (.bl x))) H1) : tSeq (tAsg te (gName i)) tz D σ H :=
  h H (Ex.refl H) s.mok _ fun v H1 e d => by rw [d.bool]; exact k H1 (s.ex e)
theorem z_asgS {i : Nat} {x : Str} (s : Sg K Mc He H is ms) (h : Hv K (muA ms ++ Mc) te σ H x) (k : ∀ H1, Sg K Mc He H1 is ms → tz D (σ.set i (some (.str x))) H1) : tSeq (tAsg te (gName i)) tz D σ H :=
  h H (Ex.refl H) s.mok _ fun v H1 e d => by rw [d.str]; exact k H1 (s.ex e)
/-- x = [], to be filled -/
theorem z_nil {i : Nat} (s : Sg K Mc He H is ms) (k : ∀ p H1, Sg K Mc He H1 is ((p, .lst []) :: ms) → tz D (σ.set i (some (.ref p))) H1) : tSeq (tAsg (tLst tNil) (gName i)) tz D σ H :=
  ⟨Nat.zero_le _, fun p hp => k p _ (s.new hp ⟨[], rfl, .nil⟩)⟩
theorem z_if {b : Bool} (s : Sg K Mc He H is ms) (h : HT (muA ms ++ Mc) tt σ H b) (h1 : b = true → ∀ H1, Sg K Mc He H1 is ms → tu { D with nx := tz D } σ H1) (h2 : b = false → ∀ H1, Sg K Mc He H1 is ms → tw { D with nx := tz D } σ H1) :
    tSeq (tIfS tt tu tw) tz D σ H := h H (Ex.refl H) s.mok _ fun H1 e => by
  cases b with
  | true => exact h1 rfl H1 (s.ex e)
  | false => exact h2 rfl H1 (s.ex e)
theorem z_ifE {b : Bool} (s : Sg K Mc He H is ms) (h : HT (muA ms ++ Mc) tt σ H b) (h1 : b = true → ∀ H1, Sg K Mc He H1 is ms → tu D σ H1) (h2 : b = false → ∀ H1, Sg K Mc He H1 is ms → tw D σ H1) :
    tIfS tt tu tw D σ H := h H (Ex.refl H) s.mok _ fun H1 e => by
  cases b with
  | true => exact h1 rfl H1 (s.ex e)
  | false => exact h2 rfl H1 (s.ex e)
theorem z_ret {x : α} (s : Sg K Mc He H is ms) (h : Hv K (muA ms ++ Mc) te σ H x) (k : ∀ v H1, Ex He H1 → Dt K (msk Mc H1) v x → D.rt v H1) : tRet te D σ H :=
  h H (Ex.refl H) s.mok _ fun v H1 e d => k v H1 (s.ex e).all (d.mono (msk_sub fun a ha => List.mem_append_right _ ha))
/-- xs.append(e) -/
theorem z_app {kk : Nat} {l : Addr} {xs : List α} {x : α} (s : Sg K Mc He H is ms) (e : ms[kk]? = some (l, .lst (xs.map Datum.toD))) (hi : Ev ta σ H (.ref l)) (h : Hv K (muA ms ++ Mc) te σ H x) (hz : xs.length < 100000)
    (k : ∀ H1, Sg K Mc He H1 is (ms.set kk (l, .lst ((xs ++ [x]).map Datum.toD))) → D.nx σ H1) : tDrop (tBM K "list" rAppend ta (tCons te tNil)) D σ H := hi H (Ex.refl H) _ fun H1 e1 => by
  obtain ⟨vs, h1, h2⟩ := (s.ex e1).lst e
  refine ⟨Or.inl ⟨rfl, vs, sq_of h1⟩, h H1 e1 (s.mok.ex e1) _ fun v H2 e2 d => ?_⟩
  obtain ⟨vs', h3, h4⟩ := ((s.ex e1).ex e2).lst e
  refine ⟨l, vs', v, rfl, rfl, h3, sz_lt (by rw [h4.len]; exact hz), k _ (((s.ex e1).ex e2).set e ⟨_, rfl, ?_⟩)⟩
  rw [List.map_append]
  exact dpa_app h4 (.cons d .nil)
theorem zq_app {kk : Nat} {l : Addr} {xs : List α} {x : α} (s : Sg K Mc He H is ms) (e : ms[kk]? = some (l, .lst (xs.map Datum.toD))) (hi : Ev ta σ H (.ref l)) (h : Hv K (muA ms ++ Mc) te σ H x) (hz : xs.length < 100000)
    (k : ∀ H1, Sg K Mc He H1 is (ms.set kk (l, .lst ((xs ++ [x]).map Datum.toD))) → tz D σ H1) : tSeq (tDrop (tBM K "list" rAppend ta (tCons te tNil))) tz D σ H := z_app (D := { D with nx := tz D }) s e hi h hz k
/-- the same as last statements -/
theorem z_asgE {i : Nat} {x : α} (s : Sg K Mc He H is ms) (h : Hv K (muA ms ++ Mc) te σ H x) (k : ∀ v H1, Sg K Mc He H1 ((v, Datum.toD x) :: is) ms → D.nx (σ.set i (some v)) H1) : tAsg te (gName i) D σ H :=
  h H (Ex.refl H) s.mok _ fun v H1 e d => k v H1 ((s.ex e).put d)
theorem z_asgIE {i : Nat} {x : Int} (s : Sg K Mc He H is ms) (h : Hv K (muA ms ++ Mc) te σ H x) (k : ∀ H1, Sg K Mc He H1 is ms → D.nx (σ.set i (some (.int x))) H1) : tAsg te (gName i) D σ H :=
  h H (Ex.refl H) s.mok _ fun v H1 e d => by rw [d.int]; exact k H1 (s.ex e)
theorem z_asgBE {i : Nat} {x : Bool} (s : Sg K Mc He H is ms) (h : Hv K (muA ms ++ Mc) te σ H x) (k : ∀ H1, Sg K Mc He H1 is ms → D.nx (σ.set i (some (.bl x))) H1) : tAsg te (gName i) D σ H :=
  h H (Ex.refl H) s.mok _ fun v H1 e d => by rw [d.bool]; exact k H1 (s.ex e)
theorem z_asgSE {i : Nat} {x : Str} (s : Sg K Mc He H is ms) (h : Hv K (muA ms ++ Mc) te σ H x) (k : ∀ H1, Sg K Mc He H1 is ms → D.nx (σ.set i (some (.str x))) H1) : tAsg te (gName i) D σ H :=
  h H (Ex.refl H) s.mok _ fun v H1 e d => by rw [d.str]; exact k H1 (s.ex e)
theorem z_cut {N : L2.St → Hp → Prop} (h : tu { D with nx := N } σ H) (k : ∀ σ' H', N σ' H' → tz D σ' H') : tCut tu tz D σ H := ⟨N, h, k⟩

/-! ### loops -/
theorem for_listD {M : List Addr} {a : Addr} {xs : List α} (Pv : Nat → L2.St → Hp → Prop) (h0 : Pv 0 σ H) (hl : ∀ i σ' H', i ≤ xs.length → Pv i σ' H' → ∃ vs, SqL K H' a vs ∧ Dts K (msk M H') vs xs)
    (hs : ∀ i x w σ' H', xs[i]? = some x → Pv i σ' H' → Dt K (msk M H') w x → g w σ' H' fun σ2 H2 => tu { D with nx := Pv (i + 1), ct := Pv (i + 1), bk := D.nx } σ2 H2) (hd : ∀ σ' H', Pv xs.length σ' H' → D.nx σ' H') :
    ∃ W : Nat → Nat → L2.St → Hp → Prop, (∃ m, W 0 m σ H) ∧ ∀ i m σ H, W i m σ H →
      ((Itl K a).stop i H ∧ D.nx σ H) ∨ ((Itl K a).go i H ∧ ∃ N : L2.St → Hp → Prop, (∀ σ' H', N σ' H' → ∃ m', m' < m ∧ W (i + 1) m' σ' H') ∧ ∀ x H', (Itl K a).yld i H x H' → g x σ H' fun σ2 H2 => tu { D with nx := N, ct := N, bk := D.nx } σ2 H2) := by
  refine ⟨fun i m σ H => m = xs.length - i ∧ i ≤ xs.length ∧ Pv i σ H, ⟨xs.length, by simp, Nat.zero_le _, h0⟩, ?_⟩
  rintro i m σ H ⟨rfl, hi, p⟩
  obtain ⟨vs, q, ds⟩ := hl i σ H hi p
  have el := ds.len
  by_cases hlt : i < xs.length
  · refine .inr ⟨⟨vs, vs[i]'(by omega), q, by simp [show i < vs.length by omega]⟩, Pv (i + 1), fun σ' H' p' => ⟨xs.length - (i + 1), by omega, rfl, hlt, p'⟩, fun x H' y => ?_⟩
    obtain ⟨e, y⟩ := y
    subst e
    obtain ⟨w, h1, h2⟩ := ds.at (i := i) (x := xs[i]) (by simp [hlt])
    have e1 : x = w := Option.some.inj ((y vs q).symm.trans h1)
    subst e1
    exact hs i _ x σ _ (by simp [hlt]) p h2
  · have e : i = xs.length := by omega
    subst e
    exact .inl ⟨⟨vs, q, by omega⟩, hd σ H p⟩
/-- over a value -/
theorem z_for {xs : List α} (s : Sg K Mc He H is ms) (h : Hv K (muA ms ++ Mc) tl σ H xs) (Pv : V → Nat → L2.St → Hp → Prop) (h0 : ∀ v H1, Sg K Mc He H1 ((v, Datum.toD xs) :: is) ms → Pv v 0 σ H1)
    (hl : ∀ v i σ' H', Pv v i σ' H' → Dt K (msk (muA ms ++ Mc) H') v xs)
    (hs : ∀ v i x w σ' H', xs[i]? = some x → Pv v i σ' H' → Dt K (msk (muA ms ++ Mc) H') w x → g w σ' H' fun σ2 H2 => tu { D with nx := Pv v (i + 1), ct := Pv v (i + 1), bk := D.nx } σ2 H2)
    (hd : ∀ v σ' H', Pv v xs.length σ' H' → D.nx σ' H') : tFor (iList K tl) g tu D σ H :=
  h H (Ex.refl H) s.mok _ fun v H1 e d => by
    obtain ⟨a, vs, rfl, s1, ds⟩ := d.list
    refine ⟨a, rfl, ⟨vs, ex_l msk_le s1⟩, for_listD (Pv (.ref a)) (h0 _ H1 ((s.ex e).put d)) (fun i σ' H' _ p => ?_) (hs _) (hd _)⟩
    obtain ⟨a', vs', e', s2, ds'⟩ := (hl _ i σ' H' p).list
    cases e'
    exact ⟨vs', ex_l msk_le s2, ds'⟩
theorem zq_for {xs : List α} (s : Sg K Mc He H is ms) (h : Hv K (muA ms ++ Mc) tl σ H xs) (Pv : V → Nat → L2.St → Hp → Prop) (h0 : ∀ v H1, Sg K Mc He H1 ((v, Datum.toD xs) :: is) ms → Pv v 0 σ H1)
    (hl : ∀ v i σ' H', Pv v i σ' H' → Dt K (msk (muA ms ++ Mc) H') v xs)
    (hs : ∀ v i x w σ' H', xs[i]? = some x → Pv v i σ' H' → Dt K (msk (muA ms ++ Mc) H') w x → g w σ' H' fun σ2 H2 => tu { D with nx := Pv v (i + 1), ct := Pv v (i + 1), bk := tz D } σ2 H2)
    (hd : ∀ v σ' H', Pv v xs.length σ' H' → tz D σ' H') : tSeq (tFor (iList K tl) g tu) tz D σ H := z_for (D := { D with nx := tz D }) s h Pv h0 hl hs hd
/-- over the numbers 0 .. n - 1 -/
theorem z_forR {j : Nat} {n : Int} (s : Sg K Mc He H is ms) (h : Hv K (muA ms ++ Mc) te σ H n) (hn : -100000 ≤ n ∧ n ≤ 100000) (Pv : Nat → L2.St → Hp → Prop) (h0 : ∀ H1, Sg K Mc He H1 is ms → Pv 0 σ H1)
    (hs : ∀ (i : Nat) σ' H', (i : Int) < n → Pv i σ' H' → tu { D with nx := Pv (i + 1), ct := Pv (i + 1), bk := D.nx } (σ'.set j (some (.int (i : Int)))) H') (hd : ∀ σ' H', Pv n.toNat σ' H' → D.nx σ' H') : tFor (iRng1 (tCons te tNil)) (gName j) tu D σ H :=
  h H (Ex.refl H) s.mok _ fun v H1 e d => by
    refine ⟨n, by rw [d.int], by omega, by omega, for_range (lo := 0) (n := n.toNat) Pv (h0 H1 (s.ex e)) (fun i σ' H' hi p => ?_) hd⟩
    have e0 : (0 : Int) + (i : Int) = (i : Int) := Int.zero_add _
    show tu { D with nx := Pv (i + 1), ct := Pv (i + 1), bk := D.nx } (σ'.set j (some (.int ((0 : Int) + (i : Int))))) H'
    rw [e0]
    exact hs i σ' H' (by omega) p
theorem zq_forR {j : Nat} {n : Int} (s : Sg K Mc He H is ms) (h : Hv K (muA ms ++ Mc) te σ H n) (hn : -100000 ≤ n ∧ n ≤ 100000) (Pv : Nat → L2.St → Hp → Prop) (h0 : ∀ H1, Sg K Mc He H1 is ms → Pv 0 σ H1)
    (hs : ∀ (i : Nat) σ' H', (i : Int) < n → Pv i σ' H' → tu { D with nx := Pv (i + 1), ct := Pv (i + 1), bk := tz D } (σ'.set j (some (.int (i : Int)))) H') (hd : ∀ σ' H', Pv n.toNat σ' H' → tz D σ' H') : tSeq (tFor (iRng1 (tCons te tNil)) (gName j) tu) tz D σ H :=
  z_forR (D := { D with nx := tz D }) s h hn Pv h0 hs hd
theorem z_forR2 {j : Nat} {lo n : Int} (s : Sg K Mc He H is ms) (h1 : Hv K (muA ms ++ Mc) ta σ H lo) (h : Hv K (muA ms ++ Mc) te σ H n) (hn : -100000 ≤ lo ∧ lo ≤ 100000 ∧ -100000 ≤ n ∧ n ≤ 100000) (Pv : Nat → L2.St → Hp → Prop) (h0 : ∀ H1, Sg K Mc He H1 is ms → Pv 0 σ H1)
    (hs : ∀ (i : Nat) σ' H', lo + (i : Int) < n → Pv i σ' H' → tu { D with nx := Pv (i + 1), ct := Pv (i + 1), bk := D.nx } (σ'.set j (some (.int (lo + (i : Int))))) H') (hd : ∀ σ' H', Pv (n - lo).toNat σ' H' → D.nx σ' H') : tFor (iRng2 (tCons ta (tCons te tNil))) (gName j) tu D σ H :=
  h1 H (Ex.refl H) s.mok _ fun v H1 e d => h H1 e (s.mok.ex e) _ fun v' H2 e2 d' => by
    refine ⟨lo, n, by rw [d.int, d'.int], ⟨by omega, by omega, by omega, by omega⟩, for_range (lo := lo) (n := (n - lo).toNat) Pv (h0 H2 ((s.ex e).ex e2)) (fun i σ' H' hi p => hs i σ' H' (by omega) p) hd⟩
theorem zq_forR2 {j : Nat} {lo n : Int} (s : Sg K Mc He H is ms) (h1 : Hv K (muA ms ++ Mc) ta σ H lo) (h : Hv K (muA ms ++ Mc) te σ H n) (hn : -100000 ≤ lo ∧ lo ≤ 100000 ∧ -100000 ≤ n ∧ n ≤ 100000) (Pv : Nat → L2.St → Hp → Prop) (h0 : ∀ H1, Sg K Mc He H1 is ms → Pv 0 σ H1)
    (hs : ∀ (i : Nat) σ' H', lo + (i : Int) < n → Pv i σ' H' → tu { D with nx := Pv (i + 1), ct := Pv (i + 1), bk := tz D } (σ'.set j (some (.int (lo + (i : Int))))) H') (hd : ∀ σ' H', Pv (n - lo).toNat σ' H' → tz D σ' H') : tSeq (tFor (iRng2 (tCons ta (tCons te tNil))) (gName j) tu) tz D σ H :=
  z_forR2 (D := { D with nx := tz D }) s h1 h hn Pv h0 hs hd
end
end Ly

namespace Ly
open PySem PySem.Spec PyProof.Rows L2 Evl
open PySem.W (Datum DatumOrd Tup T3 T4)

/-! ### calls -/
section
variable {K : PySem.W.Frag} {Mc M : List Addr} {He H H1 H2 : Hp} {is js : Ims} {ms : Mus} {σ : L2.St} {te ta tb tl : TE}
variable {α β γ : Type} [DecidableEq α] [Datum α] [DecidableEq β] [Datum β]
/-- the promise of a def that changes nothing: its arguments hold what args tells of c, it gives F c -/
def PrD (K : PySem.W.Frag) (args : γ → List PyData) (pre : γ → Prop) (F : γ → β) : Sp := fun vs H Q _ =>
  ∃ (Mc : List Addr) (c : γ), MOk Mc H ∧ DpAll K (msk Mc H) vs (args c) ∧ pre c ∧ ∀ w H', Ex H H' → Dt K (msk Mc H') w (F c) → Q w H'
def HD (K : PySem.W.Frag) (M : List Addr) (ta : TA) (σ : L2.St) (H : Hp) (ds : List PyData) : Prop := HA M ta σ H (fun vs H => DpAll K (msk M H) vs ds)
theorem hd_nil : HD K M tNil σ H [] := fun H1 e m Q q => q [] H1 (Ex.refl H1) .nil
theorem hd_cons {tr : TA} {x : α} {ds : List PyData} (h : Hv K M te σ H x) (hr : HD K M tr σ H ds) : HD K M (tCons te tr) σ H (Datum.toD x :: ds) := fun H1 e m Q q =>
  h H1 e m _ fun v H2 e2 d => hr H2 (e.trans e2) (m.ex e2) _ fun vs H3 e3 p => q _ H3 (e2.trans e3) (.cons (dp_mono (msk_ex e3) d) p)
theorem hv_call {args : γ → List PyData} {pre : γ → Prop} {F : γ → β} {tr : TA} {E : XK} (c : γ) (h : HD K M tr σ H (args c)) (p : pre c) : Hv K M (tCall (PrD K args pre F) [] E tr) σ H (F c) := fun H1 e m Q q =>
  h H1 e m _ fun vs H2 e2 d => by
    show PrD K args pre F (vs ++ []) H2 Q E
    rw [List.append_nil]
    exact ⟨M, c, m.ex e2, d, p, fun w H3 e3 d3 => q w H3 (e2.trans e3) d3⟩
end

/-! ### loops, as functions -/
def loopN {S : Type} (f : S → Int → S) : Nat → Int → S → S
  | 0, _, s => s
  | n + 1, k, s => loopN f n (k + 1) (f s k)
theorem loopN_step {S : Type} {f : S → Int → S} {n i : Nat} {lo : Int} {s : S} (h : i < n) : loopN f (n - i) (lo + (i : Int)) s = loopN f (n - (i + 1)) (lo + ((i + 1 : Nat) : Int)) (f s (lo + (i : Int))) := by
  have e : n - i = (n - (i + 1)) + 1 := by omega
  rw [e]
  show loopN f (n - (i + 1)) (lo + (i : Int) + 1) _ = _
  rw [show lo + (i : Int) + 1 = lo + ((i + 1 : Nat) : Int) by omega]
theorem loopN_end {S : Type} {f : S → Int → S} {n : Nat} {lo : Int} {s : S} : loopN f (n - n) lo s = s := by rw [Nat.sub_self]; rfl
/-- a turn that may leave: a result, a break, or on -/
inductive Lp (ρ S : Type) where
  | ret (r : ρ)
  | brk (s : S)
  | nxt (s : S)
def loopNR {ρ S : Type} (f : S → Int → Lp ρ S) : Nat → Int → S → ρ ⊕ S
  | 0, _, s => .inr s
  | n + 1, k, s => match f s k with
    | .ret r => .inl r
    | .brk s' => .inr s'
    | .nxt s' => loopNR f n (k + 1) s'
theorem loopNR_nxt {ρ S : Type} {f : S → Int → Lp ρ S} {n i : Nat} {lo : Int} {s s' : S} (h : i < n) (e : f s (lo + (i : Int)) = .nxt s') : loopNR f (n - i) (lo + (i : Int)) s = loopNR f (n - (i + 1)) (lo + ((i + 1 : Nat) : Int)) s' := by
  have e1 : n - i = (n - (i + 1)) + 1 := by omega
  rw [e1]
  show (match f s (lo + (i : Int)) with | .ret r => Sum.inl r | .brk s' => Sum.inr s' | .nxt s' => loopNR f (n - (i + 1)) (lo + (i : Int) + 1) s') = _
  rw [e, show lo + (i : Int) + 1 = lo + ((i + 1 : Nat) : Int) by omega]
theorem loopNR_ret {ρ S : Type} {f : S → Int → Lp ρ S} {n i : Nat} {lo : Int} {s : S} {r : ρ} (h : i < n) (e : f s (lo + (i : Int)) = .ret r) : loopNR f (n - i) (lo + (i : Int)) s = .inl r := by
  have e1 : n - i = (n - (i + 1)) + 1 := by omega
  rw [e1]
  show (match f s (lo + (i : Int)) with | .ret r => Sum.inl r | .brk s' => Sum.inr s' | .nxt s' => loopNR f (n - (i + 1)) (lo + (i : Int) + 1) s') = _
  rw [e]
theorem loopNR_brk {ρ S : Type} {f : S → Int → Lp ρ S} {n i : Nat} {lo : Int} {s s' : S} (h : i < n) (e : f s (lo + (i : Int)) = .brk s') : loopNR f (n - i) (lo + (i : Int)) s = .inr s' := by
  have e1 : n - i = (n - (i + 1)) + 1 := by omega
  rw [e1]
  show (match f s (lo + (i : Int)) with | .ret r => Sum.inl r | .brk s' => Sum.inr s' | .nxt s' => loopNR f (n - (i + 1)) (lo + (i : Int) + 1) s') = _
  rw [e]
theorem loopNR_end {ρ S : Type} {f : S → Int → Lp ρ S} {n : Nat} {lo : Int} {s : S} : loopNR f (n - n) lo s = .inr s := by rw [Nat.sub_self]; rfl
theorem drop_at {α : Type} {xs : List α} {i : Nat} {x : α} (h : xs[i]? = some x) : xs.drop i = x :: xs.drop (i + 1) := by
  obtain ⟨h1, h2⟩ := List.getElem?_eq_some_iff.mp h
  rw [List.drop_eq_getElem_cons h1, h2]
theorem foldl_step {α S : Type} {f : S → α → S} {xs : List α} {i : Nat} {x : α} {s : S} (h : xs[i]? = some x) : (xs.drop i).foldl f s = (xs.drop (i + 1)).foldl f (f s x) := by
  rw [drop_at h]; rfl
theorem foldl_end {α S : Type} {f : S → α → S} {xs : List α} {s : S} : (xs.drop xs.length).foldl f s = s := by rw [List.drop_length]; rfl
def loopL {α ρ S : Type} (f : S → α → Lp ρ S) : List α → S → ρ ⊕ S
  | [], s => .inr s
  | x :: r, s => match f s x with
    | .ret r => .inl r
    | .brk s' => .inr s'
    | .nxt s' => loopL f r s'
theorem loopL_nxt {α ρ S : Type} {f : S → α → Lp ρ S} {xs : List α} {i : Nat} {x : α} {s s' : S} (h : xs[i]? = some x) (e : f s x = .nxt s') : loopL f (xs.drop i) s = loopL f (xs.drop (i + 1)) s' := by
  rw [drop_at h, loopL, e]
theorem loopL_ret {α ρ S : Type} {f : S → α → Lp ρ S} {xs : List α} {i : Nat} {x : α} {s : S} {r : ρ} (h : xs[i]? = some x) (e : f s x = .ret r) : loopL f (xs.drop i) s = .inl r := by
  rw [drop_at h, loopL, e]
theorem loopL_brk {α ρ S : Type} {f : S → α → Lp ρ S} {xs : List α} {i : Nat} {x : α} {s s' : S} (h : xs[i]? = some x) (e : f s x = .brk s') : loopL f (xs.drop i) s = .inr s' := by
  rw [drop_at h, loopL, e]
theorem loopL_end {α ρ S : Type} {f : S → α → Lp ρ S} {xs : List α} {s : S} : loopL f (xs.drop xs.length) s = .inr s := by rw [List.drop_length]; rfl

/-! ### items, lengths -/
section
variable {K : PySem.W.Frag} {Mc M : List Addr} {He H H1 H2 : Hp} {is js : Ims} {ms : Mus} {σ : L2.St} {te ta tb tl : TE}
variable {α β γ : Type} [DecidableEq α] [Datum α] [DecidableEq β] [Datum β] [DecidableEq γ] [Datum γ]
theorem getD_at {xs : List α} {i : Int} {d : α} (h0 : 0 ≤ i) (h : i < (xs.length : Int)) : xs[i.toNat]? = some (xs.getD i.toNat d) := by
  have h1 : i.toNat < xs.length := by omega
  rw [List.getD_eq_getElem?_getD, List.getElem?_eq_getElem h1]
  rfl
theorem hv_at {xs : List α} {i : Int} (d : α) (ha : HS K M ta σ H xs) (hb : Hv K M tb σ H i) (h0 : 0 ≤ i) (h : i < (xs.length : Int)) : Hv K M (tOp (rIxL K) ta tb) σ H (xs.getD i.toNat d) :=
  hv_ixS ha hb h0 (getD_at h0 h)
theorem hv_atV {xs : Tup α} {i : Int} (d : α) (ha : Hv K M ta σ H xs) (hb : Hv K M tb σ H i) (h0 : 0 ≤ i) (h : i < (xs.items.length : Int)) : Hv K M (tOp (rIxT K) ta tb) σ H (xs.items.getD i.toNat d) :=
  hv_ixV ha hb h0 (getD_at h0 h)
/-- len -/
theorem hv_len {xs : List α} (ha : HS K M ta σ H xs) : Hv K M (tCB (fun xs H Q => ∃ x n, xs = [x] ∧ LenV K x H n ∧ Q (.int n) H) (tCons ta tNil)) σ H (xs.length : Int) := fun H1 e m Q q =>
  ha H1 e m _ fun a vs H2 e2 s d => ⟨.ref a, vs.length, rfl, Or.inl ⟨vs, s, rfl⟩, q _ H2 e2 (by rw [d.len]; exact Dt.ofInt _)⟩
theorem hv_lenV {xs : Tup α} (ha : Hv K M ta σ H xs) : Hv K M (tCB (fun xs H Q => ∃ x n, xs = [x] ∧ LenV K x H n ∧ Q (.int n) H) (tCons ta tNil)) σ H (xs.items.length : Int) := fun H1 e m Q q =>
  ha H1 e m _ fun v H2 e2 d => by
    obtain ⟨a, vs, rfl, s, ds⟩ := d.tupv
    exact ⟨.ref a, vs.length, rfl, Or.inr ⟨vs, ex_t msk_le s, rfl⟩, q _ H2 e2 (by rw [ds.len]; exact Dt.ofInt _)⟩
theorem hv_len2 {x : α × β} (ha : Hv K M ta σ H x) : Hv K M (tCB (fun xs H Q => ∃ x n, xs = [x] ∧ LenV K x H n ∧ Q (.int n) H) (tCons ta tNil)) σ H (2 : Int) := fun H1 e m Q q =>
  ha H1 e m _ fun v H2 e2 d => by
    obtain ⟨a, u, w, rfl, s, _⟩ := d.pair
    exact ⟨.ref a, 2, rfl, Or.inr ⟨_, ex_t msk_le s, rfl⟩, q _ H2 e2 (Dt.ofInt _)⟩
theorem hv_len3 {x : T3 α β γ} (ha : Hv K M ta σ H x) : Hv K M (tCB (fun xs H Q => ∃ x n, xs = [x] ∧ LenV K x H n ∧ Q (.int n) H) (tCons ta tNil)) σ H (3 : Int) := fun H1 e m Q q =>
  ha H1 e m _ fun v H2 e2 d => by
    obtain ⟨a, u, w, z, rfl, s, _⟩ := d.t3
    exact ⟨.ref a, 3, rfl, Or.inr ⟨_, ex_t msk_le s, rfl⟩, q _ H2 e2 (Dt.ofInt _)⟩

/-! ### isinstance -/
/-- the built-in type of every value of α -/
class TyNm (α : Type) [DecidableEq α] [Datum α] where
  nm : String
  ty : ∀ {K : PySem.W.Frag} {H : Hp} {v : V} {x : α}, Dt K H v x → TyX K H v (.type nm)
theorem tyx_ex {K : PySem.W.Frag} {H H' : Hp} {v : V} {n : String} (e : Ex H H') (h : TyX K H v (.type n)) : TyX K H' v (.type n) := by
  cases h with
  | base h =>
    cases h with
    | non => exact .base .non
    | bl b => exact .base (.bl b)
    | int b => exact .base (.int b)
    | str b => exact .base (.str b)
    | flt b => exact .base (.flt b)
    | lst h => exact .base (.lst (e _ _ h))
    | frz h => exact .base (.frz (e _ _ h))
    | tup h => exact .base (.tup (e _ _ h))
    | dK h => exact .base (.dK (e _ _ h))
    | dT h => exact .base (.dT (e _ _ h))
  | byt y => exact .byt y
  | set h => exact .set (e _ _ h)
  | kList h c => exact .kList h c
  | kTuple h c => exact .kTuple h c
  | kDict h c => exact .kDict h c
  | fTuple h => exact .fTuple (e _ _ h)
  | fDict h => exact .fDict (e _ _ h)

instance : TyNm Int := ⟨"int", fun d => by cases d.int; exact .base (.int _)⟩
instance : TyNm Bool := ⟨"bool", fun d => by cases d.bool; exact .base (.bl _)⟩
instance : TyNm Str := ⟨"str", fun d => by cases d.str; exact .base (.str _)⟩
theorem tyx_L {K : PySem.W.Frag} {H : Hp} {a : Addr} {vs : List V} (h : SqL K H a vs) : TyX K H (.ref a) (.type "list") := by
  rcases h with (h | ⟨o, h⟩) | ⟨o, its, n, h, c, _⟩
  · exact .base (.lst h)
  · exact .base (.frz h)
  · exact .kList h c
theorem tyx_T {K : PySem.W.Frag} {H : Hp} {a : Addr} {vs : List V} (h : SqT K H a vs) : TyX K H (.ref a) (.type "tuple") := by
  rcases h with (h | ⟨o, h⟩) | ⟨o, its, n, h, c, _⟩
  · exact .base (.tup h)
  · exact .fTuple h
  · exact .kTuple h c
instance : TyNm (List α) := ⟨"list", fun d => by obtain ⟨a, vs, rfl, s, _⟩ := d.list; exact tyx_L s⟩
instance : TyNm (Tup α) := ⟨"tuple", fun d => by obtain ⟨a, vs, rfl, s, _⟩ := d.tupv; exact tyx_T s⟩
instance : TyNm (α × β) := ⟨"tuple", fun d => by obtain ⟨a, u, w, rfl, s, _⟩ := d.pair; exact tyx_T s⟩
instance : TyNm (T3 α β γ) := ⟨"tuple", fun d => by obtain ⟨a, u, w, z, rfl, s, _⟩ := d.t3; exact tyx_T s⟩
theorem hv_isi {x : α} [T : TyNm α] {n : String} {b : Bool} (ha : Hv K M ta σ H x) (h : kitB T.nm n = some b) : Hv K M (tCB (rIsi K) (tCons ta (tCons (tC (.ty n)) tNil))) σ H b := fun H1 e m Q q =>
  ha H1 e m _ fun v H2 e2 d => ⟨v, .ty n, .type T.nm, .type n, b, rfl, .ty n, tyx_ex msk_le (T.ty d), kit_ty h, q _ H2 e2 (Dt.ofBool b)⟩

/-! ### == and < of data -/
theorem dt_holds {X : Cx} {pins : List (Addr × Obj)} {s : Shared} {x : α} {v : V} {u : Value} (I : Inv X pins σ H s) (d : Dt X.K H v x) (r : RelV v u) : PySem.W.Holds s.heap u x := Dp.reads I _ v u d r
def rEqT (α : Type) [DecidableEq α] [Datum α] (K : PySem.W.Frag) : R2 := fun x y H Q => ∃ a b : α, Dt K H x a ∧ Dt K H y b ∧ Q (.bl (decide (a = b))) H
def rNeT (α : Type) [DecidableEq α] [Datum α] (K : PySem.W.Frag) : R2 := fun x y H Q => ∃ a b : α, Dt K H x a ∧ Dt K H y b ∧ Q (.bl (!decide (a = b))) H
theorem op_eqT {X : Cx} (hu : X.A.units + Datum.depth α < cLine) : OpR X (compareOp .Eq) (rEqT α X.K) := by
  intro pins s σ H x y v u Q I rx ry h
  obtain ⟨a, b, da, db, q⟩ := h
  exact PySem.W.eq_datum (dt_holds I da rx) (dt_holds I db ry) hu ⟨.bl _, H, I, rfl, q⟩
theorem op_neT {X : Cx} (hu : X.A.units + Datum.depth α < cLine) : OpR X (compareOp .NotEq) (rNeT α X.K) := by
  intro pins s σ H x y v u Q I rx ry h
  obtain ⟨a, b, da, db, q⟩ := h
  exact PySem.W.ne_datum (dt_holds I da rx) (dt_holds I db ry) hu ⟨.bl _, H, I, rfl, by rw [show decide (a ≠ b) = !decide (a = b) from decide_not]; exact q⟩
theorem hv_eqT {x y : α} (ha : Hv K [] ta σ H x) (hb : Hv K [] tb σ H y) : Hv K M (tOp (rEqT α K) ta tb) σ H (decide (x = y)) := fun H1 e m Q q =>
  ha H1 e (fun _ z => nomatch z) _ fun v H2 e2 d => hb H2 (e.trans e2) (fun _ z => nomatch z) _ fun u H3 e3 d' => by
    rw [msk_nil] at d d'
    exact ⟨x, y, d.mono e3, d', q _ H3 (e2.trans e3) (Dt.ofBool _)⟩
theorem hv_neT {x y : α} (ha : Hv K [] ta σ H x) (hb : Hv K [] tb σ H y) : Hv K M (tOp (rNeT α K) ta tb) σ H (!decide (x = y)) := fun H1 e m Q q =>
  ha H1 e (fun _ z => nomatch z) _ fun v H2 e2 d => hb H2 (e.trans e2) (fun _ z => nomatch z) _ fun u H3 e3 d' => by
    rw [msk_nil] at d d'
    exact ⟨x, y, d.mono e3, d', q _ H3 (e2.trans e3) (Dt.ofBool _)⟩
end
section
variable {K : PySem.W.Frag} {M : List Addr} {H H1 H2 : Hp} {σ : L2.St} {te ta tb tl : TE}
variable {α : Type} [DecidableEq α] [DatumOrd α]
def rLtT (α : Type) [DecidableEq α] [DatumOrd α] (K : PySem.W.Frag) : R2 := fun x y H Q => ∃ a b : α, Dt K H x a ∧ Dt K H y b ∧ Q (.bl (DatumOrd.lt a b)) H
theorem op_ltT {X : Cx} (hu : X.A.units + Datum.depth α < cLine) : OpR X (compareOp .Lt) (rLtT α X.K) := by
  intro pins s σ H x y v u Q I rx ry h
  obtain ⟨a, b, da, db, q⟩ := h
  exact PySem.W.lt_datum (dt_holds I da rx) (dt_holds I db ry) hu ⟨.bl _, H, I, rfl, q⟩
theorem hv_ltT {x y : α} (ha : Hv K [] ta σ H x) (hb : Hv K [] tb σ H y) : Hv K M (tOp (rLtT α K) ta tb) σ H (DatumOrd.lt x y) := fun H1 e m Q q =>
  ha H1 e (fun _ z => nomatch z) _ fun v H2 e2 d => hb H2 (e.trans e2) (fun _ z => nomatch z) _ fun u H3 e3 d' => by
    rw [msk_nil] at d d'
    exact ⟨x, y, d.mono e3, d', q _ H3 (e2.trans e3) (Dt.ofBool _)⟩
end
theorem hud {A : Around} {k d : Nat} (hr : Room k A) (h : d ≤ 64) : A.units + d < cLine := Nat.lt_of_le_of_lt (Nat.add_le_add_left h _) hr.units
end Ly

namespace Ly
open PySem PySem.Spec PyProof.Rows L2 Evl
open PySem.W (Datum DatumOrd Tup T3 T4)

theorem dpa_inv {K : PySem.W.Frag} {H : Hp} {vs : List V} {d : PyData} {ds : List PyData} (h : DpAll K H vs (d :: ds)) : ∃ v r, vs = v :: r ∧ Dp K H v d ∧ DpAll K H r ds := by
  cases h with
  | cons a b => exact ⟨_, _, rfl, a, b⟩
theorem dpa_inv0 {K : PySem.W.Frag} {H : Hp} {vs : List V} (h : DpAll K H vs []) : vs = [] := by cases h; rfl

section
variable {K : PySem.W.Frag} {Mc : List Addr} {He H H1 H2 : Hp} {is js : Ims} {ms : Mus} {σ : L2.St} {te ta tb tl : TE}
variable {α β : Type} [DecidableEq α] [Datum α] [DecidableEq β] [Datum β]
variable {D : Ends} {tz tu tw : TS} {tt : TT} {g : TG}
/-! ### statements that name what they store -/
theorem z_asgG {i : Nat} {x : α} (s : Sg K Mc He H is ms) (h : Hv K (muA ms ++ Mc) te σ H x) (k : ∀ y, y = x → ∀ v H1, Sg K Mc He H1 ((v, Datum.toD y) :: is) ms → tz D (σ.set i (some v)) H1) : tSeq (tAsg te (gName i)) tz D σ H :=
  z_asg s h (k x rfl)
theorem z_asgIG {i : Nat} {x : Int} (s : Sg K Mc He H is ms) (h : Hv K (muA ms ++ Mc) te σ H x) (k : ∀ y, y = x → ∀ H1, Sg K Mc He H1 is ms → tz D (σ.set i (some (.int y))) H1) : tSeq (tAsg te (gName i)) tz D σ H :=
  z_asgI s h (k x rfl)
theorem z_asgBG {i : Nat} {x : Bool} (s : Sg K Mc He H is ms) (h : Hv K (muA ms ++ Mc) te σ H x) (k : ∀ y, y = x → ∀ H1, Sg K Mc He H1 is ms → tz D (σ.set i (some (.bl y))) H1) : tSeq (tAsg te (gName i)) tz D σ H :=
  z_asgB s h (k x rfl)
theorem z_asgSG {i : Nat} {x : Str} (s : Sg K Mc He H is ms) (h : Hv K (muA ms ++ Mc) te σ H x) (k : ∀ y, y = x → ∀ H1, Sg K Mc He H1 is ms → tz D (σ.set i (some (.str y))) H1) : tSeq (tAsg te (gName i)) tz D σ H :=
  z_asgS s h (k x rfl)
theorem z_augG {i : Nat} {f : Int → Int → Int} {a b : Int} (s : Sg K Mc He H is ms) (hx : σ[i]? = some (some (.int a))) (h : Hv K (muA ms ++ Mc) te σ H b) (k : ∀ y, y = f a b → ∀ H1, Sg K Mc He H1 is ms → tz D (σ.set i (some (.int y))) H1) : tSeq (tAug i te (ipI f)) tz D σ H :=
  ⟨.int a, hx, h H (Ex.refl H) s.mok _ fun v H1 e d => ⟨a, b, rfl, d.int, k _ rfl H1 (s.ex e)⟩⟩
theorem z_nilG {i : Nat} (α : Type) [DecidableEq α] [Datum α] (s : Sg K Mc He H is ms) (k : ∀ y : List α, y = [] → ∀ p H1, Sg K Mc He H1 is ((p, .lst (y.map Datum.toD)) :: ms) → tz D (σ.set i (some (.ref p))) H1) : tSeq (tAsg (tLst tNil) (gName i)) tz D σ H :=
  z_nil s (k [] rfl)
theorem zq_appG {kk : Nat} {l : Addr} {xs : List α} {x : α} (s : Sg K Mc He H is ms) (e : ms[kk]? = some (l, .lst (xs.map Datum.toD))) (hi : Ev ta σ H (.ref l)) (h : Hv K (muA ms ++ Mc) te σ H x) (hz : xs.length < 100000)
    (k : ∀ y, y = xs ++ [x] → ∀ H1, Sg K Mc He H1 is (ms.set kk (l, .lst (y.map Datum.toD))) → tz D σ H1) : tSeq (tDrop (tBM K "list" rAppend ta (tCons te tNil))) tz D σ H := zq_app s e hi h hz (k _ rfl)
theorem zq_ret {x : α} (s : Sg K Mc He H is ms) (h : Hv K (muA ms ++ Mc) te σ H x) (k : ∀ v H1, Ex He H1 → Dt K (msk Mc H1) v x → D.rt v H1) : tSeq (tRet te) tz D σ H := z_ret (D := { D with nx := tz D }) s h k
/-- an if without else -/
theorem z_ifx {b : Bool} (s : Sg K Mc He H is ms) (h : HT (muA ms ++ Mc) tt σ H b) (h1 : b = true → ∀ H1, Sg K Mc He H1 is ms → tu { D with nx := tz D } σ H1) (h2 : b = false → ∀ H1, Sg K Mc He H1 is ms → tz D σ H1) :
    tSeq (tIfS tt tu tNext) tz D σ H := z_if s h h1 h2
/-- an if behind which both ways go on, N what they reach -/
theorem z_ifj {b : Bool} (N : L2.St → Hp → Prop) (s : Sg K Mc He H is ms) (h : HT (muA ms ++ Mc) tt σ H b) (h1 : b = true → ∀ H1, Sg K Mc He H1 is ms → tu { D with nx := N } σ H1) (h2 : b = false → ∀ H1, Sg K Mc He H1 is ms → tw { D with nx := N } σ H1)
    (k : ∀ σ' H', N σ' H' → tz D σ' H') : tCut (tIfS tt tu tw) tz D σ H := ⟨N, z_ifE (D := { D with nx := N }) s h h1 h2, k⟩

/-! ### loops that name their item -/
theorem zq_forR1G {j : Nat} {n : Int} (s : Sg K Mc He H is ms) (h : Hv K (muA ms ++ Mc) te σ H n) (hn : -100000 ≤ n ∧ n ≤ 100000) (Pv : Nat → L2.St → Hp → Prop) (h0 : ∀ H1, Sg K Mc He H1 is ms → Pv 0 σ H1)
    (hs : ∀ (i : Nat) (x : Int) σ' H', x = (0 : Int) + (i : Int) → i < n.toNat → Pv i σ' H' → tu { D with nx := Pv (i + 1), ct := Pv (i + 1), bk := tz D } (σ'.set j (some (.int x))) H') (hd : ∀ σ' H', Pv n.toNat σ' H' → tz D σ' H') : tSeq (tFor (iRng1 (tCons te tNil)) (gName j) tu) tz D σ H :=
  zq_forR s h hn Pv h0 (fun i σ' H' hi p => hs i _ σ' H' (Int.zero_add _).symm (by omega) p) hd
theorem zq_forR2G {j : Nat} {lo n : Int} (s : Sg K Mc He H is ms) (h1 : Hv K (muA ms ++ Mc) ta σ H lo) (h : Hv K (muA ms ++ Mc) te σ H n) (hn : -100000 ≤ lo ∧ lo ≤ 100000 ∧ -100000 ≤ n ∧ n ≤ 100000) (Pv : Nat → L2.St → Hp → Prop) (h0 : ∀ H1, Sg K Mc He H1 is ms → Pv 0 σ H1)
    (hs : ∀ (i : Nat) (x : Int) σ' H', x = lo + (i : Int) → i < (n - lo).toNat → Pv i σ' H' → tu { D with nx := Pv (i + 1), ct := Pv (i + 1), bk := tz D } (σ'.set j (some (.int x))) H') (hd : ∀ σ' H', Pv (n - lo).toNat σ' H' → tz D σ' H') : tSeq (tFor (iRng2 (tCons ta (tCons te tNil))) (gName j) tu) tz D σ H :=
  zq_forR2 s h1 h hn Pv h0 (fun i σ' H' hi p => hs i _ σ' H' rfl (by omega) p) hd
/-- over a list, the target a name; the item put among what is known -/
theorem zq_forG {xs : List α} {j : Nat} (s : Sg K Mc He H is ms) (h : Hv K (muA ms ++ Mc) tl σ H xs) (Pv : V → Nat → L2.St → Hp → Prop) (h0 : ∀ v H1, Sg K Mc He H1 ((v, Datum.toD xs) :: is) ms → Pv v 0 σ H1)
    (hl : ∀ v i σ' H', Pv v i σ' H' → Dt K (msk (muA ms ++ Mc) H') v xs)
    (hs : ∀ v i x w σ' H', xs[i]? = some x → Pv v i σ' H' → Dt K (msk (muA ms ++ Mc) H') w x → tu { D with nx := Pv v (i + 1), ct := Pv v (i + 1), bk := tz D } (σ'.set j (some w)) H')
    (hd : ∀ v σ' H', Pv v xs.length σ' H' → tz D σ' H') : tSeq (tFor (iList K tl) (gName j) tu) tz D σ H := zq_for s h Pv h0 hl hs hd
/-- over a list that may still change (not in the loop) -/
theorem zq_forM {xs : List α} {kk : Nat} {l : Addr} {ii : Nat} (s : Sg K Mc He H is ms) (e : ms[kk]? = some (l, .lst (xs.map Datum.toD))) (hi : σ[ii]? = some (some (.ref l))) (Pv : Nat → L2.St → Hp → Prop) (h0 : ∀ H1, Sg K Mc He H1 is ms → Pv 0 σ H1)
    (hl : ∀ i σ' H', Pv i σ' H' → ∃ vs, H' l = some (.lst vs) ∧ Dts K (msk (muA ms ++ Mc) H') vs xs)
    (hs : ∀ i x w σ' H', xs[i]? = some x → Pv i σ' H' → Dt K (msk (muA ms ++ Mc) H') w x → g w σ' H' fun σ2 H2 => tu { D with nx := Pv (i + 1), ct := Pv (i + 1), bk := tz D } σ2 H2)
    (hd : ∀ σ' H', Pv xs.length σ' H' → tz D σ' H') : tSeq (tFor (iList K (tVar ii)) g tu) tz D σ H := by
  obtain ⟨vs, h1, h2⟩ := s.lst e
  refine ⟨_, hi, l, rfl, ⟨vs, SqL.of h1⟩, for_listD (D := { D with nx := tz D }) (M := muA ms ++ Mc) Pv (h0 H s) (fun i σ' H' _ p => ?_) hs hd⟩
  obtain ⟨vs', h3, h4⟩ := hl i σ' H' p
  exact ⟨vs', SqL.of h3, h4⟩
end
end Ly

namespace Ly
open PySem PySem.Spec PyProof.Rows L2 Evl
open PySem.W (Datum DatumOrd Tup T3 T4)
theorem dts_ints {K : PySem.W.Frag} {H : Hp} : ∀ ns : List Int, Dts K H (ns.map V.int) ns
  | [] => Dts.nil
  | n :: r => Dts.cons (Dt.ofInt n) (dts_ints r)
/-- the law's promise is kept where its mirror is true -/
theorem law_sp {K : PySem.W.Frag} {F : List Int → Bool} {pre : List Int → Prop} {H : Hp} {a : Addr} {ns : List Int} {E : XK} (h : SqL K H a (ns.map V.int)) (p : pre ns) (t : F ns = true) :
    PrD K (fun c : List Int => [Datum.toD c]) pre F [.ref a] H (fun v _ => v = .bl true) E := by
  refine ⟨[], ns, (fun _ z => nomatch z), ?_, p, fun w H' e d => ?_⟩
  · rw [msk_nil]
    exact .cons (Dt.ofList h (dts_ints ns)) .nil
  · rw [d.bool, t]
end Ly

namespace Ly
open PySem PySem.Spec PyProof.Rows L2 Evl
open PySem.W (Datum DatumOrd Tup T3 T4)

section
variable {K : PySem.W.Frag} {Mc M : List Addr} {He H H1 H2 : Hp} {is js : Ims} {ms : Mus} {σ : L2.St} {te ta tb tl : TE} {tt : TT} {g : TG} {tlo thi : TO}
variable {α β γ δ : Type} [DecidableEq α] [Datum α] [DecidableEq β] [Datum β] [DecidableEq γ] [Datum γ] [DecidableEq δ] [Datum δ]
/-! ### parts of lists, copies -/
def HO' (M : List Addr) (to : TO) (σ : L2.St) (H : Hp) (o : Option Int) : Prop := ∀ H1, Ex H H1 → MOk M H1 → ∀ Q : Option Int → Hp → Prop, (∀ H2, Ex H1 H2 → Q o H2) → to σ H1 Q
theorem ho_none : HO' M tNoPart σ H none := fun H1 _ _ _ q => q H1 (Ex.refl H1)
theorem ho_some {i : Int} (h : Hv K M te σ H i) : HO' M (tPart te) σ H (some i) := fun H1 e m _ q => h H1 e m _ fun v H2 e2 d => ⟨i, d.int, q H2 e2⟩
def cutL {α : Type} (xs : List α) (lo hi : Option Int) : List α := (xs.drop (HT.sIx xs.length 0 lo)).take (HT.sIx xs.length xs.length hi - HT.sIx xs.length 0 lo)
theorem dpa_drop {H : Hp} : ∀ {vs : List V} {ds : List PyData} (n : Nat), DpAll K H vs ds → DpAll K H (vs.drop n) (ds.drop n)
  | _, _, 0, h => h
  | _, _, n + 1, .nil => .nil
  | _, _, n + 1, .cons a b => dpa_drop n b
theorem dpa_take {H : Hp} : ∀ {vs : List V} {ds : List PyData} (n : Nat), DpAll K H vs ds → DpAll K H (vs.take n) (ds.take n)
  | _, _, 0, h => by simpa using DpAll.nil
  | _, _, n + 1, .nil => .nil
  | _, _, n + 1, .cons a b => .cons a (dpa_take n b)
theorem Dts.cut {H : Hp} {vs : List V} {xs : List α} {lo hi : Option Int} (h : Dts K H vs xs) : Dts K H (cutV vs lo hi) (cutL xs lo hi) := by
  unfold cutV cutL Dts
  rw [h.len, List.map_take, List.map_drop]
  exact dpa_take _ (dpa_drop _ h)
theorem hv_slice {xs : List α} {lo hi : Option Int} (h : HS K M te σ H xs) (h1 : HO' M tlo σ H lo) (h2 : HO' M thi σ H hi) : Hv K M (tSl (rSlL K) te tlo thi) σ H (cutL xs lo hi) := fun H1 e m Q q =>
  h H1 e m _ fun a vs H2 e2 s d => h1 H2 (e.trans e2) (m.ex e2) _ fun H3 e3 => h2 H3 ((e.trans e2).trans e3) ((m.ex e2).ex e3) _ fun H4 e4 =>
    ⟨a, vs, rfl, ex_l (e3.trans e4) s, fun p hp => by
      have m4 := ((m.ex e2).ex e3).ex e4
      have e5 : Ex H4 (upd H4 p (.lst (cutV vs lo hi))) := Ex.new hp
      exact q _ _ (((e2.trans e3).trans e4).trans e5) (Dt.ofList (SqL.of (msk_at m4 hp)) ((d.mono (msk_ex ((e3.trans e4).trans e5))).cut))⟩
theorem hv_listOf {xs : List α} (h : HS K M te σ H xs) : Hv K M (tCB (fun xs H Q => ∃ p ys, xs = [.ref p] ∧ (SqL K H p ys ∨ SqT K H p ys) ∧ ∀ l, H l = none → Q (.ref l) (upd H l (.lst ys))) (tCons te tNil)) σ H xs := fun H1 e m Q q =>
  h H1 e m _ fun a vs H2 e2 s d => ⟨a, vs, rfl, Or.inl s, fun p hp => by
    have e3 : Ex H2 (upd H2 p (.lst vs)) := Ex.new hp
    exact q _ _ (e2.trans e3) (Dt.ofList (SqL.of (msk_at (m.ex e2) hp)) (d.mono (msk_ex e3)))⟩
theorem hv_listOfV {xs : Tup α} (h : Hv K M te σ H xs) : Hv K M (tCB (fun xs H Q => ∃ p ys, xs = [.ref p] ∧ (SqL K H p ys ∨ SqT K H p ys) ∧ ∀ l, H l = none → Q (.ref l) (upd H l (.lst ys))) (tCons te tNil)) σ H xs.items := fun H1 e m Q q =>
  h H1 e m _ fun v H2 e2 d => by
    obtain ⟨a, vs, rfl, s, ds⟩ := d.tupv
    refine ⟨a, vs, rfl, Or.inr (ex_t msk_le s), fun p hp => ?_⟩
    have e3 : Ex H2 (upd H2 p (.lst vs)) := Ex.new hp
    exact q _ _ (e2.trans e3) (Dt.ofList (SqL.of (msk_at (m.ex e2) hp)) (ds.mono (msk_ex e3)))
theorem hv_tupleOf {xs : List α} (h : HS K M te σ H xs) : Hv K M (tCB (fun xs H Q => ∃ p ys, xs = [.ref p] ∧ ((SqL K H p ys ∧ ∀ l, H l = none → Q (.ref l) (upd H l (.tup ys))) ∨ (SqT K H p ys ∧ Q (.ref p) H))) (tCons te tNil)) σ H (Tup.mk xs) := fun H1 e m Q q =>
  h H1 e m _ fun a vs H2 e2 s d => ⟨a, vs, rfl, Or.inl ⟨s, fun p hp => by
    have e3 : Ex H2 (upd H2 p (.tup vs)) := Ex.new hp
    exact q _ _ (e2.trans e3) (Dt.ofTupv (SqT.of (msk_at (m.ex e2) hp)) (d.mono (msk_ex e3)))⟩⟩
theorem hv_cat {xs ys : List α} (ha : HS K M ta σ H xs) (hb : HS K M tb σ H ys) (hz : xs.length + ys.length ≤ 100000) :
    Hv K M (tOp (fun x y H Q => ∃ a b xs ys, x = .ref a ∧ y = .ref b ∧ SqL K H a xs ∧ SqL K H b ys ∧ xs.length + ys.length ≤ sizeLine ∧ ∀ p, H p = none → Q (.ref p) (upd H p (.lst (xs ++ ys)))) ta tb) σ H (xs ++ ys) := fun H1 e m Q q =>
  ha H1 e m _ fun a vs H2 e2 s d => hb H2 (e.trans e2) (m.ex e2) _ fun b ws H3 e3 s' d' =>
    ⟨a, b, vs, ws, rfl, rfl, ex_l e3 s, s', sz_of (by rw [d.len, d'.len]; exact hz), fun p hp => by
      have m3 := (m.ex e2).ex e3
      have e4 : Ex H3 (upd H3 p (.lst (vs ++ ws))) := Ex.new hp
      exact q _ _ ((e2.trans e3).trans e4) (Dt.ofList (SqL.of (msk_at m3 hp)) ((d.mono (msk_ex (e3.trans e4))).app (d'.mono (msk_ex e4))))⟩
/-! ### truth, None -/
theorem ht_truL {xs : List α} (h : HS K M te σ H xs) : HT M (fun σ H Q => te σ H fun x H' => ∃ k, TruV K x H' k ∧ Q k H') σ H (!xs.isEmpty) := fun H1 e m Q q =>
  h H1 e m _ fun a vs H2 e2 s d => ⟨!vs.isEmpty, Or.inl ⟨vs, s, rfl⟩, by
    have : vs.isEmpty = xs.isEmpty := by
      have := d.len
      cases vs <;> cases xs <;> simp_all
    rw [this]
    exact q H2 e2⟩
theorem dt_none [PySem.W.SomeDatum α] {v : V} {x : Option α} (d : Dt K H v x) : decide (v = .non) = x.isNone := by
  cases x with
  | none => cases (show Dp K H v .none from d); rfl
  | some a =>
    have n := PySem.W.SomeDatum.left a
    have d' : Dp K H v (Datum.toD a) := d
    generalize Datum.toD a = z at n d'
    cases d' with
    | non => simp [PyData.eqv] at n
    | _ => rfl
theorem hv_isN [PySem.W.SomeDatum α] {x : Option α} (h : Hv K M ta σ H x) : Hv K M (tOp (fun x y H Q => y = .non ∧ Q (.bl (decide (x = .non))) H) ta (tC .non)) σ H x.isNone := fun H1 e m Q q =>
  h H1 e m _ fun v H2 e2 d => ⟨rfl, q _ H2 e2 (by rw [dt_none d]; exact Dt.ofBool _)⟩
theorem hv_notN [PySem.W.SomeDatum α] {x : Option α} (h : Hv K M ta σ H x) : Hv K M (tOp (fun x y H Q => y = .non ∧ Q (.bl (!decide (x = .non))) H) ta (tC .non)) σ H (!x.isNone) := fun H1 e m Q q =>
  h H1 e m _ fun v H2 e2 d => ⟨rfl, q _ H2 e2 (by rw [dt_none d]; exact Dt.ofBool _)⟩
theorem hv_un [PySem.W.SomeDatum α] {x : α} (h : Hv K M te σ H (some x)) : Hv K M te σ H x := fun H1 e m Q q => h H1 e m Q fun v H2 e2 d => q v H2 e2 d

/-! ### comprehensions -/
theorem take_snoc {xs : List α} {i : Nat} {x : α} (h : xs[i]? = some x) : xs.take (i + 1) = xs.take i ++ [x] := by
  rw [List.take_add_one, h]; rfl
theorem lc_listD {a : Addr} {xs : List α} {vs : List Nat} {D : Addr} {Qd : Hp → Prop} {M' : List Addr} (Pv : Nat → Hp → Prop) (h0 : Pv 0 (upd H1 D (.lst []))) (hl : ∀ i H', i ≤ xs.length → Pv i H' → ∃ us, SqL K H' a us ∧ Dts K (msk M' H') us xs)
    (hs : ∀ i x w H', xs[i]? = some x → Pv i H' → Dt K (msk M' H') w x → g w (wipe σ vs) H' fun σ2 H2 => wipe σ2 vs = wipe σ vs ∧ tt σ2 H2 fun b H3 =>
      if b = true then te σ2 H3 fun y H4 => ∃ acc, H4 D = some (.lst acc) ∧ acc.length < sizeLine ∧ Pv (i + 1) (upd H4 D (.lst (acc ++ [y]))) else Pv (i + 1) H3) (hd : ∀ H', Pv xs.length H' → Qd H') :
    ∃ W : Nat → Nat → Hp → Prop, (∃ m, W 0 m (upd H1 D (.lst []))) ∧ ∀ i m H, W i m H →
      ((Itl K a).stop i H ∧ Qd H) ∨ ((Itl K a).go i H ∧ ∃ Nx : Hp → Prop, (∀ H', Nx H' → ∃ m', m' < m ∧ W (i + 1) m' H') ∧ ∀ x H', (Itl K a).yld i H x H' → g x (wipe σ vs) H' fun σ2 H2 => wipe σ2 vs = wipe σ vs ∧ tt σ2 H2 fun b H3 =>
        if b = true then te σ2 H3 fun y H4 => ∃ acc, H4 D = some (.lst acc) ∧ acc.length < sizeLine ∧ Nx (upd H4 D (.lst (acc ++ [y]))) else Nx H3) := by
  refine ⟨fun i m H => m = xs.length - i ∧ i ≤ xs.length ∧ Pv i H, ⟨xs.length, by simp, Nat.zero_le _, h0⟩, ?_⟩
  rintro i m H ⟨rfl, hi, p⟩
  obtain ⟨us, q, ds⟩ := hl i H hi p
  have el := ds.len
  by_cases hlt : i < xs.length
  · refine .inr ⟨⟨us, us[i]'(by omega), q, by simp [show i < us.length by omega]⟩, Pv (i + 1), fun H' p' => ⟨xs.length - (i + 1), by omega, rfl, hlt, p'⟩, fun x H' y => ?_⟩
    obtain ⟨e, y⟩ := y
    subst e
    obtain ⟨w, h1, h2⟩ := ds.at (i := i) (x := xs[i]) (by simp [hlt])
    have e1 : x = w := Option.some.inj ((y us q).symm.trans h1)
    subst e1
    exact hs i _ x _ (by simp [hlt]) p h2
  · have e : i = xs.length := by omega
    subst e
    exact .inl ⟨⟨us, q, by omega⟩, hd H p⟩
/-- a turn's end: the item goes behind the others, or not -/
theorem lc_turn {D : Addr} {ys zs : List β} {b : Bool} {y : β} {σ2 : L2.St} (s : Sg K Mc He H is ((D, .lst (ys.map Datum.toD)) :: ms)) (hz : ys.length < 50000) (N : Hp → Prop)
    (ht : HT (muA ((D, Mv.lst (ys.map Datum.toD)) :: ms) ++ Mc) tt σ2 H b) (he : b = true → Hv K (muA ((D, Mv.lst (ys.map Datum.toD)) :: ms) ++ Mc) te σ2 H y)
    (hzs : zs = if b = true then ys ++ [y] else ys) (hN : ∀ H', (∃ H4, Ex H H4 ∧ (H' = H4 ∨ ∃ o, H' = upd H4 D o)) → Sg K Mc He H' is ((D, .lst (zs.map Datum.toD)) :: ms) → N H') :
    tt σ2 H fun b' H3 => if b' = true then te σ2 H3 fun v H4 => ∃ acc, H4 D = some (.lst acc) ∧ acc.length < sizeLine ∧ N (upd H4 D (.lst (acc ++ [v]))) else N H3 := by
  refine ht H (Ex.refl H) s.mok _ fun H3 e3 => ?_
  cases b with
  | false =>
    show N H3
    rw [if_neg Bool.false_ne_true] at hzs
    subst hzs
    exact hN H3 ⟨H3, e3, .inl rfl⟩ (s.ex e3)
  | true =>
    show te σ2 H3 fun v H4 => ∃ acc, H4 D = some (.lst acc) ∧ acc.length < sizeLine ∧ N (upd H4 D (.lst (acc ++ [v])))
    rw [if_pos rfl] at hzs
    subst hzs
    refine he rfl H3 e3 ((s.ex e3).mok) _ fun v H4 e4 d => ?_
    have s4 := (s.ex e3).ex e4
    obtain ⟨us, h1, h2⟩ := s4.lst (k := 0) rfl
    refine ⟨us, h1, sz_lt (by rw [h2.len]; omega), hN _ ⟨H4, e3.trans e4, .inr ⟨_, rfl⟩⟩ (s4.set (k := 0) (m' := .lst ((ys ++ [y]).map Datum.toD)) rfl ⟨_, rfl, ?_⟩)⟩
    rw [List.map_append]
    exact dpa_app h2 (.cons d .nil)
theorem filter_snoc {f : α → Bool} {ef : α → β} {xs : List α} {i : Nat} {x : α} (h : xs[i]? = some x) : ((xs.take (i + 1)).filter f).map ef = if f x = true then ((xs.take i).filter f).map ef ++ [ef x] else ((xs.take i).filter f).map ef := by
  rw [take_snoc h, List.filter_append, List.map_append]
  by_cases e : f x = true
  · rw [if_pos e]; simp [List.filter_cons, e]
  · rw [if_neg e]; simp [List.filter_cons, e]
theorem hv_lcL {vs : List Nat} (s : Sg K Mc He H is ms) {xs : List α} (f : α → Bool) (ef : α → β) (h : Hv K (muA ms ++ Mc) tl σ H xs) (hz : xs.length ≤ 40000)
    (hb : ∀ D src x w (ys : List β) H1, Sg K Mc He H1 ((w, Datum.toD x) :: (src, Datum.toD xs) :: is) ((D, .lst (ys.map Datum.toD)) :: ms) → x ∈ xs →
      ∀ Q : L2.St → Hp → Prop, (∀ σ2, wipe σ2 vs = wipe σ vs → HT (muA ((D, Mv.lst (ys.map Datum.toD)) :: ms) ++ Mc) tt σ2 H1 (f x) → (f x = true → Hv K (muA ((D, Mv.lst (ys.map Datum.toD)) :: ms) ++ Mc) te σ2 H1 (ef x)) → Q σ2 H1) → g w (wipe σ vs) H1 Q) :
    Hv K (muA ms ++ Mc) (tLc (iList K tl) g tt te vs) σ H ((xs.filter f).map ef) := fun H1 e m Q q =>
  h H1 e m _ fun v H2 e2 d => by
    obtain ⟨a, us, rfl, s1, ds⟩ := d.list
    refine ⟨a, rfl, ⟨us, ex_l msk_le s1⟩, fun D hD => ?_⟩
    have sA : Sg K Mc He H2 ((.ref a, Datum.toD xs) :: is) ms := ((s.ex e).ex e2).put d
    have sB : Sg K Mc He (upd H2 D (.lst [])) ((.ref a, Datum.toD xs) :: is) ((D, .lst (([] : List β).map Datum.toD)) :: ms) := sA.new hD ⟨[], rfl, .nil⟩
    refine lc_listD (xs := xs) (M' := D :: (muA ms ++ Mc)) (fun i H' => Ex H2 H' ∧ Sg K Mc He H' ((.ref a, Datum.toD xs) :: is) ((D, .lst ((((xs.take i).filter f).map ef).map Datum.toD)) :: ms)) ⟨Ex.new hD, sB⟩
      (fun i H' _ p => ?_) (fun i x w H' hx p dw => ?_) (fun H' p => ?_)
    · obtain ⟨a', us', e', s2, ds'⟩ := Dt.list (α := α) p.2.im.1
      cases e'
      exact ⟨us', ex_l msk_le s2, ds'⟩
    · have hi : i < xs.length := (List.getElem?_eq_some_iff.mp hx).1
      refine hb D (.ref a) x w _ H' (p.2.put dw) (List.mem_of_getElem? hx) _ fun σ2 hw ht he => ⟨hw, ?_⟩
      have hlen : (((xs.take i).filter f).map ef).length < 50000 := by
        rw [List.length_map]
        have := List.length_filter_le f (xs.take i)
        rw [List.length_take] at this
        omega
      have key := lc_turn (ms := ms) (zs := ((xs.take (i + 1)).filter f).map ef) p.2 hlen (fun H3 => Ex H2 H3 ∧ Sg K Mc He H3 ((.ref a, Datum.toD xs) :: is) ((D, .lst ((((xs.take (i + 1)).filter f).map ef).map Datum.toD)) :: ms)) ht he (filter_snoc hx) (fun H3 h4 s3 => ⟨by
        obtain ⟨H4, e4, e5⟩ := h4
        rcases e5 with e5 | ⟨o, e5⟩
        · rw [e5]; exact p.1.trans e4
        · rw [e5]; exact Ex.mut (p.1.trans e4) hD, s3⟩)
      exact key
    · have z := p.2
      rw [List.take_length] at z
      exact q _ H' (e2.trans p.1) (z.frz).im.1

/-- without a test -/
theorem hv_lcL0 {vs : List Nat} (s : Sg K Mc He H is ms) {xs : List α} (ef : α → β) (h : Hv K (muA ms ++ Mc) tl σ H xs) (hz : xs.length ≤ 40000)
    (hb : ∀ D src x w (ys : List β) H1, Sg K Mc He H1 ((w, Datum.toD x) :: (src, Datum.toD xs) :: is) ((D, .lst (ys.map Datum.toD)) :: ms) → x ∈ xs →
      ∀ Q : L2.St → Hp → Prop, (∀ σ2, wipe σ2 vs = wipe σ vs → Hv K (muA ((D, Mv.lst (ys.map Datum.toD)) :: ms) ++ Mc) te σ2 H1 (ef x) → Q σ2 H1) → g w (wipe σ vs) H1 Q) :
    Hv K (muA ms ++ Mc) (tLc (iList K tl) g tYes te vs) σ H (xs.map ef) := by
  have key := hv_lcL (g := g) (tt := tYes) (te := te) (vs := vs) s (fun _ => true) ef h hz (fun D src x w ys H1 s1 hx Q k => hb D src x w ys H1 s1 hx Q fun σ2 hw he => k σ2 hw (fun H2 _ _ _ q => q H2 (Ex.refl H2)) fun _ => he)
  exact key.is (by rw [List.filter_eq_self.mpr (fun _ _ => rfl)])
/-- 0, 1, .. below n -/
def irng (lo : Int) (n : Nat) : List Int := (List.range n).map fun (i : Nat) => lo + (i : Int)
theorem irng_get {lo : Int} {n i : Nat} (h : i < n) : (irng lo n)[i]? = some (lo + (i : Int)) := by
  unfold irng
  rw [List.getElem?_map, List.getElem?_range h]
  rfl
theorem irng_len {lo : Int} {n : Nat} : (irng lo n).length = n := by unfold irng; rw [List.length_map, List.length_range]
theorem hv_lcR {vs : List Nat} (s : Sg K Mc He H is ms) {n : Int} (f : Int → Bool) (ef : Int → β) (h : Hv K (muA ms ++ Mc) ta σ H n) (hz : -100000 ≤ n ∧ n ≤ 40000)
    (hb : ∀ D (x : Int) (ys : List β) H1, Sg K Mc He H1 is ((D, .lst (ys.map Datum.toD)) :: ms) → 0 ≤ x ∧ x < n →
      ∀ Q : L2.St → Hp → Prop, (∀ σ2, wipe σ2 vs = wipe σ vs → HT (muA ((D, Mv.lst (ys.map Datum.toD)) :: ms) ++ Mc) tt σ2 H1 (f x) → (f x = true → Hv K (muA ((D, Mv.lst (ys.map Datum.toD)) :: ms) ++ Mc) te σ2 H1 (ef x)) → Q σ2 H1) → g (.int x) (wipe σ vs) H1 Q) :
    Hv K (muA ms ++ Mc) (tLc (iRng1 (tCons ta tNil)) g tt te vs) σ H (((irng 0 n.toNat).filter f).map ef) := fun H1 e m Q q =>
  h H1 e m _ fun v H2 e2 d => by
    refine ⟨n, by rw [d.int], by omega, by omega, fun D hD => ?_⟩
    have sA : Sg K Mc He H2 is ms := (s.ex e).ex e2
    have sB : Sg K Mc He (upd H2 D (.lst [])) is ((D, .lst (([] : List β).map Datum.toD)) :: ms) := sA.new hD ⟨[], rfl, .nil⟩
    refine lc_range (lo := 0) (n := n.toNat) (fun i H' => Ex H2 H' ∧ Sg K Mc He H' is ((D, .lst (((((irng 0 n.toNat).take i).filter f).map ef).map Datum.toD)) :: ms)) ⟨Ex.new hD, sB⟩
      (fun i H' hi p => ?_) (fun H' p => ?_)
    · have hx : (irng 0 n.toNat)[i]? = some ((0 : Int) + (i : Int)) := irng_get hi
      refine hb D ((0 : Int) + (i : Int)) _ H' p.2 ⟨by omega, by omega⟩ _ fun σ2 hw ht he => ⟨hw, ?_⟩
      have hlen : ((((irng 0 n.toNat).take i).filter f).map ef).length < 50000 := by
        rw [List.length_map]
        have := List.length_filter_le f ((irng 0 n.toNat).take i)
        rw [List.length_take, irng_len] at this
        omega
      exact lc_turn (ms := ms) (zs := (((irng 0 n.toNat).take (i + 1)).filter f).map ef) p.2 hlen (fun H3 => Ex H2 H3 ∧ Sg K Mc He H3 is ((D, .lst (((((irng 0 n.toNat).take (i + 1)).filter f).map ef).map Datum.toD)) :: ms)) ht he (filter_snoc hx) (fun H3 h4 s3 => ⟨by
        obtain ⟨H4, e4, e5⟩ := h4
        rcases e5 with e5 | ⟨o, e5⟩
        · rw [e5]; exact p.1.trans e4
        · rw [e5]; exact Ex.mut (p.1.trans e4) hD, s3⟩)
    · have z := p.2
      have et : (irng 0 n.toNat).take n.toNat = irng 0 n.toNat := List.take_of_length_le (by rw [irng_len]; exact Nat.le_refl _)
      rw [et] at z
      exact q _ H' (e2.trans p.1) (z.frz).im.1
theorem hv_lcR0 {vs : List Nat} (s : Sg K Mc He H is ms) {n : Int} (ef : Int → β) (h : Hv K (muA ms ++ Mc) ta σ H n) (hz : -100000 ≤ n ∧ n ≤ 40000)
    (hb : ∀ D (x : Int) (ys : List β) H1, Sg K Mc He H1 is ((D, .lst (ys.map Datum.toD)) :: ms) → 0 ≤ x ∧ x < n →
      ∀ Q : L2.St → Hp → Prop, (∀ σ2, wipe σ2 vs = wipe σ vs → Hv K (muA ((D, Mv.lst (ys.map Datum.toD)) :: ms) ++ Mc) te σ2 H1 (ef x) → Q σ2 H1) → g (.int x) (wipe σ vs) H1 Q) :
    Hv K (muA ms ++ Mc) (tLc (iRng1 (tCons ta tNil)) g tYes te vs) σ H ((irng 0 n.toNat).map ef) := by
  have key := hv_lcR (g := g) (tt := tYes) (te := te) (vs := vs) s (fun _ => true) ef h hz (fun D x ys H1 s1 hx Q k => hb D x ys H1 s1 hx Q fun σ2 hw he => k σ2 hw (fun H2 _ _ _ q => q H2 (Ex.refl H2)) fun _ => he)
  exact key.is (by rw [List.filter_eq_self.mpr (fun _ _ => rfl)])
end
/-! ### the least of a list -/
section
variable {K : PySem.W.Frag} {M : List Addr} {σ : L2.St} {H : Hp} {te : TE}
variable {α : Type} [DecidableEq α] [DatumOrd α]
theorem toD_inj {a b : α} (h : Datum.toD a = Datum.toD b) : a = b := by
  have e := Datum.eqv a b
  rw [h, Datum.eqv b b] at e
  simpa using e.symm
theorem holds_inj {h : Heap} {v : Value} {a b : α} (x : PySem.W.Holds h v a) (y : PySem.W.Holds h v b) : a = b := by
  obtain ⟨as, r⟩ := x
  obtain ⟨bs, r'⟩ := y
  exact toD_inj (PySem.W.alike_unique _ _ _ _ _ (DatumOrd.alike a b) r r')
def minL (l : List α) (d : α) : α := match l with
  | [] => d
  | x :: r => PySem.W.minOf x r
def rMinT (α : Type) [DecidableEq α] [DatumOrd α] (K : PySem.W.Frag) : List V → Hp → VK → Prop := fun vs H Q => ∃ (a : Addr) (us : List V) (x : α) (xs : List α), vs = [V.ref a] ∧ SqL K H a us ∧ Dts K H us (x :: xs) ∧ ∀ (i : Nat) (v : V), us[i]? = some v → (x :: xs)[i]? = some (PySem.W.minOf x xs) → Q v H
theorem dts_holdAll {X : Cx} {pins : List (Addr × Obj)} {s : Shared} (I : L2.Inv X pins σ H s) {us : List V} {its : List Value} {xs : List α} (d : Dts X.K H us xs) (r : Vals us its) : PySem.W.HoldAll s.heap its xs := Dp.readsAll I _ us its d r
theorem call_minT {X : Cx} (hc : X.calm = true) (hu : X.A.units + 1 + Datum.depth α < cLine) : CallR X (.builtin "min") (rMinT α X.K) := by
  intro pins s σ H vs us Q I r h
  obtain ⟨a, ws, x, xs, rfl, hS, hD, q⟩ := h
  obtain ⟨u, rfl, rx⟩ := vals1 r
  cases rx
  obtain ⟨its, rv, pl, hz⟩ := I.list hS
  refine PySem.W.min_list_datum (I.ok.hd hc) pl.isList (dts_holdAll I hD rv) hu fun i v h' tk hi hold kk => ?_
  have hi' : its[i]? = some v := by simpa using hi
  have hlen := rv.length
  have hil : i < ws.length := by
    have := (List.getElem?_eq_some_iff.mp hi').1
    omega
  obtain ⟨u', e1, e2⟩ := rv.get (i := i) (x := ws[i]) (by simp [hil])
  rw [hi'] at e1
  cases e1
  have hx2 : ∃ z, (x :: xs)[i]? = some z := ⟨(x :: xs)[i]'(by rw [← hD.len]; exact hil), by simp [hD.len ▸ hil]⟩
  obtain ⟨z, hz2⟩ := hx2
  obtain ⟨w, w1, w2⟩ := hD.at hz2
  have ew : w = ws[i] := by
    rw [List.getElem?_eq_getElem hil] at w1
    exact (Option.some.inj w1).symm
  subst ew
  have I' : L2.Inv X pins σ H { s with heap := h', toks := tk } := I.kept kk
  have ez : z = PySem.W.minOf x xs := holds_inj (dt_holds I' w2 e2) hold
  exact ⟨_, H, I', e2, q i _ (by simp [hil]) (by rw [← ez]; exact hz2)⟩
theorem hv_min {xs : List α} (d : α) (h : HS K M te σ H xs) (hne : xs ≠ []) : Hv K M (tCB (rMinT α K) (tCons te tNil)) σ H (minL xs d) := fun H1 e m Q q =>
  h H1 e m _ fun a vs H2 e2 s ds => by
    cases xs with
    | nil => exact absurd rfl hne
    | cons x r =>
      refine ⟨a, vs, x, r, rfl, s, ds.mono msk_le, fun i v hv hx => ?_⟩
      obtain ⟨w, w1, w2⟩ := ds.at hx
      rw [hv] at w1
      cases w1
      exact q v H2 e2 w2
end
theorem hud1 {A : Around} {k d : Nat} (hr : Room k A) (h : 1 + d ≤ 64) : A.units + 1 + d < cLine := by
  have := hud hr h
  omega
/-! ### what a loop keeps -/
theorem loopN_keep {S : Type} {f : S → Int → S} (P : S → Nat → Prop) (h : ∀ s k j, P s j → P (f s k) (j + 1)) : ∀ (n : Nat) (k : Int) (s : S) (j : Nat), P s j → P (loopN f n k s) (j + n)
  | 0, _, _, _, p => p
  | n + 1, k, s, j, p => by
    have := loopN_keep P h n (k + 1) (f s k) (j + 1) (h s k j p)
    show P (loopN f n (k + 1) (f s k)) (j + (n + 1))
    rw [show j + (n + 1) = j + 1 + n by omega]
    exact this
theorem sIx_nn {n d : Nat} {i : Int} (h : 0 ≤ i) : HT.sIx n d (some i) = min i.toNat n := by
  have e : i = ((i.toNat : Nat) : Int) := (Int.toNat_of_nonneg h).symm
  rw [e]
  exact HT.sIx_nat n d i.toNat
theorem cutL_from {α : Type} {xs : List α} {i : Int} (h : 0 ≤ i) : cutL xs (some i) none = xs.drop i.toNat := by
  unfold cutL
  rw [sIx_nn h, HT.sIx_none]
  by_cases e : i.toNat ≤ xs.length
  · rw [Nat.min_eq_left e]
    exact List.take_of_length_le (by rw [List.length_drop]; exact Nat.le_refl _)
  · rw [Nat.min_eq_right (by omega), List.drop_eq_nil_of_le (Nat.le_refl _), List.drop_eq_nil_of_le (by omega)]
    exact List.take_nil
theorem cutL_to {α : Type} {xs : List α} {i : Int} (h : 0 ≤ i) : cutL xs none (some i) = xs.take i.toNat := by
  unfold cutL
  rw [sIx_nn h, HT.sIx_none, List.drop_zero, Nat.sub_zero, List.take_eq_take_iff]
  omega
end Ly

namespace Ly
open PySem PySem.Spec PyProof.Rows L2 Evl
open PySem.W (Datum DatumOrd Tup T3 T4 minOf)
section
variable {α : Type} [DecidableEq α] [DatumOrd α]
theorem lt_irrefl (a : α) : DatumOrd.lt a a = false := by
  rw [← DatumOrd.lt_eq]; exact PySem.W.dataLt_self _
theorem lt_trans {a b c : α} (h : DatumOrd.lt a b = true) (h' : DatumOrd.lt b c = true) : DatumOrd.lt a c = true := by
  rw [← DatumOrd.lt_eq] at h h' ⊢
  exact lex_trans _ _ _ h h'
theorem lt_total {a b : α} (h : DatumOrd.lt a b = false) (h' : DatumOrd.lt b a = false) : Datum.toD a = Datum.toD b ∨ PySem.W.keyToks (Datum.toD a) = PySem.W.keyToks (Datum.toD b) := by
  rw [← DatumOrd.lt_eq] at h h'
  exact .inr (lex_total _ _ h h')
theorem lt_neg {a b c : α} (h : DatumOrd.lt a c = true) : DatumOrd.lt a b = true ∨ DatumOrd.lt b c = true := by
  rw [← DatumOrd.lt_eq] at h
  rw [← DatumOrd.lt_eq, ← DatumOrd.lt_eq]
  exact lex_negTrans _ _ _ h
theorem minOf_spec : ∀ (xs : List α) (x : α), minOf x xs ∈ x :: xs ∧ ∀ y ∈ x :: xs, DatumOrd.lt y (minOf x xs) = false
  | [], x => ⟨List.mem_cons_self, fun y hy => by
    have e : y = x := by simpa using hy
    rw [e]; exact lt_irrefl x⟩
  | z :: r, x => by
    have e : minOf x (z :: r) = minOf (if DatumOrd.lt z x = true then z else x) r := rfl
    rw [e]
    by_cases h : DatumOrd.lt z x = true
    · rw [if_pos h]
      obtain ⟨h1, h2⟩ := minOf_spec r z
      refine ⟨?_, fun y hy => ?_⟩
      · rcases List.mem_cons.mp h1 with q | q
        · rw [q]; simp
        · simp [q]
      · rcases List.mem_cons.mp hy with q | q
        · subst q
          cases hq : DatumOrd.lt y (minOf z r) with
          | false => rfl
          | true => exact absurd (lt_trans h hq) (by rw [h2 z List.mem_cons_self]; decide)
        · exact h2 y q
    · rw [if_neg h]
      obtain ⟨h1, h2⟩ := minOf_spec r x
      refine ⟨?_, fun y hy => ?_⟩
      · rcases List.mem_cons.mp h1 with q | q
        · rw [q]; simp
        · simp [q]
      · rcases List.mem_cons.mp hy with q | q
        · subst q; exact h2 y List.mem_cons_self
        · rcases List.mem_cons.mp q with q | q
          · subst q
            cases hq : DatumOrd.lt y (minOf x r) with
            | false => rfl
            | true =>
              rcases lt_neg (b := x) hq with q2 | q2
              · exact absurd q2 h
              · exact absurd q2 (by rw [h2 x List.mem_cons_self]; decide)
          · exact h2 y (List.mem_cons_of_mem _ q)
end
end Ly

namespace My
open PySem PySem.Spec PyProof.Rows L2 Evl Ly
open PySem.W (Datum DatumOrd Tup T3 T4 minOf)
def topS (i : Nat) : Stmt := PySem.Challenge.pw_folio_k02_chosen_way.main.body.getD i (.Pass ⟨0, 0, 0, 0⟩)
structure Txt (K : PySem.W.Frag) (mg : Str → Option Value) where
  f_chosen : Addr
  d_chosen : FuncData
  u_chosen : Fun K "chosen" "chosen" (topS 1) f_chosen d_chosen
  b_chosen : Binds K d_chosen ["row"] []
  g_chosen : mg "chosen" = some (.ref f_chosen)
  f_law_cell : Addr
  d_law_cell : FuncData
  u_law_cell : Fun K "_law_cell" "_law_cell" (topS 3) f_law_cell d_law_cell
  b_law_cell : Binds K d_law_cell ["script", "k"] []
  g_law_cell : mg "_law_cell" = some (.ref f_law_cell)
  f_law_draws : Addr
  d_law_draws : FuncData
  u_law_draws : Fun K "_law_draws" "_law_draws" (topS 4) f_law_draws d_law_draws
  b_law_draws : Binds K d_law_draws ["cell", "count"] []
  g_law_draws : mg "_law_draws" = some (.ref f_law_draws)
  f_law_is_integer : Addr
  d_law_is_integer : FuncData
  u_law_is_integer : Fun K "_law_is_integer" "_law_is_integer" (topS 5) f_law_is_integer d_law_is_integer
  b_law_is_integer : Binds K d_law_is_integer ["actual"] []
  g_law_is_integer : mg "_law_is_integer" = some (.ref f_law_is_integer)
  f_law_way : Addr
  d_law_way : FuncData
  u_law_way : Fun K "_law_way" "_law_way" (topS 6) f_law_way d_law_way
  b_law_way : Binds K d_law_way ["draws"] []
  g_law_way : mg "_law_way" = some (.ref f_law_way)
  f_law : Addr
  d_law : FuncData
  u_law : Fun K "law" "law" (topS 7) f_law d_law
  b_law : Binds K d_law ["script"] []
  g_law : mg "law" = some (.ref f_law)
  n_bool : mg "bool" = none
  n_int : mg "int" = none
  n_isinstance : mg "isinstance" = none
  n_len : mg "len" = none
  n_list : mg "list" = none
  n_min : mg "min" = none
  n_range : mg "range" = none
  n_tuple : mg "tuple" = none
section
variable {P : Program} {w : World} {K : PySem.W.Frag} {mg : Str → Option Value} {base : Heap}
def m_chosen (row_ : (List (T3 Int (T3 Int Int Int) (Tup (Int × Int))))) : (Option ((T3 Int Int Int) × (Tup (Int × Int)))) :=
  if (!(!(List.isEmpty row_))) = true then
    none
  else
    (some (minL (List.map (fun (c_ : (T3 Int (T3 Int Int Int) (Tup (Int × Int)))) => (c_.b, c_.c)) row_) ((T3.mk 0 0 0), (Tup.mk []))))
abbrev s_chosen : Stmt := topS 1
theorem sc_chosen : FnScope ["row", "_", "cost", "way"] ["row"] (defScope s_chosen) := ⟨rfl, rfl, rfl, by decide +kernel, rfl, by decide +kernel, by decide +kernel⟩
abbrev sp_chosen (K : PySem.W.Frag) : Sp := PrD K (fun c : (List (T3 Int (T3 Int Int Int) (Tup (Int × Int)))) => [Datum.toD c]) (fun c => c.length ≤ 1000) (fun c => (m_chosen c : (Option ((T3 Int Int Int) × (Tup (Int × Int))))))
theorem ok_chosen (T : Txt K mg) : FnOk P w K mg base CX0 1 T.f_chosen T.d_chosen ["row"] (sp_chosen K) := by
  refine T.u_chosen.ok sc_chosen (fun vs H Q E h => ?_) (fun cdv A outer s H vs Q E hr h => ?_)
  · obtain ⟨Mc, c, mok, da, pre, q⟩ := h
    exact (dpa_len da)
  · obtain ⟨Mc, c, mok, da, pre, q⟩ := h
    obtain ⟨row_, rfl⟩ : ∃ z, z = c := ⟨c, rfl⟩
    dsimp only at da pre q
    obtain ⟨v0, w0, rfl, d0, da0⟩ := dpa_inv da
    cases dpa_inv0 da0
    have s0 : Sg K Mc H H [(v0, Datum.toD row_)] [] := Sg.enter mok ⟨d0, True.intro⟩
    refine ⟨_, (pss_cons (ps_if (pt_not (pt_truth (pv 0) (fun _ => rfl))) (pss_cons (ps_ret pe_non) pss_nil) pss_nil) (pss_cons (ps_ret (pe_callB (call_minT (α := ((T3 Int Int Int) × (Tup (Int × Int)))) rfl (hud1 hr (by decide +kernel))) (by rfl) T.n_min (by decide +kernel) (pa_cons (pe_lc (own := [("_", 1), ("cost", 2), ("way", 3)]) (g := gTup K 3 (gCons (gName 1) (gCons (gName 2) (gCons (gName 3) gNil)))) rfl sc_chosen.nd (pi_list (pv 0)) (blkOk_by (own := [("_", 1), ("cost", 2), ("way", 3)]) (N := ["row", "_", "cost", "way"]) (sc := defScope s_chosen) (by decide +kernel)) (fun _ _ _ _ _ => (pg_tup rfl (pgs_cons (pg_name (i := 1) sc_chosen.nd rfl (Or.inl rfl) (.inr (by rfl))) (pgs_cons (pg_name (i := 2) sc_chosen.nd rfl (Or.inl rfl) (.inr (by rfl))) (pgs_cons (pg_name (i := 3) sc_chosen.nd rfl (Or.inl rfl) (.inr (by rfl))) pgs_nil))))) (fun _ _ _ _ _ => pts_nil) (fun _ _ _ _ _ => (pe_tup (pa_cons (pv 2) (pa_cons (pv 3) pa_nil))))) pa_nil))) pss_nil)), ?_⟩
    refine z_ifx (b := (!(!(List.isEmpty row_)))) s0 (ht_not (ht_truL (K := K) (hs_of (hv_var (x := row_) rfl s0.im.1)))) (fun hb1 Hs2 s2 => ?_) (fun hb1 Hs3 s3 => ?_)
    · have hb1P := hb1
      try simp only [decide_eq_true_eq, decide_eq_false_iff_not, Bool.not_eq_true', Bool.not_eq_false', Bool.and_eq_true, Bool.or_eq_true, Bool.or_eq_false_iff] at hb1P
      have hF4 : m_chosen row_ = none := (by  first | (simp only [m_chosen, hb1, if_true, if_false, Bool.false_eq_true, decide_true, decide_false, Option.getD_some, Option.isNone_none, Option.isNone_some, Bool.not_true, Bool.not_false, ↓reduceIte]; done) | (rfl; done) | (exfalso; simp at hb1; done))
      exact zq_ret s2 (hv_none (α := ((T3 Int Int Int) × (Tup (Int × Int))))) fun v H' e d => q v H' e (by rw [hF4]; exact d)
    · have hb1P := hb1
      try simp only [decide_eq_true_eq, decide_eq_false_iff_not, Bool.not_eq_true', Bool.not_eq_false', Bool.and_eq_true, Bool.or_eq_true, Bool.or_eq_false_iff] at hb1P
      have hF5 : m_chosen row_ = (some (minL (List.map (fun (c_ : (T3 Int (T3 Int Int Int) (Tup (Int × Int)))) => (c_.b, c_.c)) row_) ((T3.mk 0 0 0), (Tup.mk [])))) := (by  first | (simp only [m_chosen, hb1, if_true, if_false, Bool.false_eq_true, decide_true, decide_false, Option.getD_some, Option.isNone_none, Option.isNone_some, Bool.not_true, Bool.not_false, ↓reduceIte]; done) | (rfl; done) | (exfalso; simp at hb1; done))
      exact zq_ret s3 (hv_some (hv_min ((T3.mk 0 0 0), (Tup.mk [])) (hs_of (hv_lcL0 s3 (fun (c_ : (T3 Int (T3 Int Int Int) (Tup (Int × Int)))) => (c_.b, c_.c)) (hv_var (x := row_) rfl s3.im.1) (by first | omega | decide +kernel) (fun D7 src11 c8 w9 ys10 Hs6 s6 hx12 Q k => by obtain ⟨l20, u14, u15, u16, w9e, st21, d17, d18, d19⟩ := Dt.t3 (p := c8) s6.im.1; have zd17 := Dt.int d17; subst zd17; have s22 := s6.put d18; have s23 := s22.put d19; subst w9e; exact ⟨_, _, rfl, ex_t msk_le st21, rfl, _, _, rfl, _, _, rfl, _, _, rfl, rfl, k _ rfl (hv_tup2 (hv_var (x := c8.b) rfl s23.im.2.1) (hv_var (x := c8.c) rfl s23.im.1))⟩))) (by intro h0; simp at h0; simp [h0] at *))) fun v H' e d => q v H' e (by rw [hF5]; exact d)

theorem chosen_some (row : List (T3 Int (T3 Int Int Int) (Tup (Int × Int)))) (h : row ≠ []) : ∃ z, m_chosen row = some z := by
  cases row with
  | nil => exact absurd rfl h
  | cons x r => exact ⟨_, rfl⟩

def m_law_cell (script_ : (List Int)) (k_ : Int) : Int :=
  if (decide (k_ < ((script_).length : Int))) = true then
    (script_.getD (Int.toNat k_) 0)
  else
    (0 : Int)
abbrev s_law_cell : Stmt := topS 3
theorem sc_law_cell : FnScope ["script", "k"] ["script", "k"] (defScope s_law_cell) := ⟨rfl, rfl, rfl, by decide +kernel, rfl, by decide +kernel, by decide +kernel⟩
abbrev sp_law_cell (K : PySem.W.Frag) : Sp := PrD K (fun c : (List Int) × Int => [Datum.toD c.1, Datum.toD c.2]) (fun c => 0 ≤ c.2) (fun c => (m_law_cell c.1 c.2 : Int))
theorem ok_law_cell (T : Txt K mg) : FnOk P w K mg base CX0 1 T.f_law_cell T.d_law_cell ["script", "k"] (sp_law_cell K) := by
  refine T.u_law_cell.ok sc_law_cell (fun vs H Q E h => ?_) (fun cdv A outer s H vs Q E hr h => ?_)
  · obtain ⟨Mc, c, mok, da, pre, q⟩ := h
    exact (dpa_len da)
  · obtain ⟨Mc, c, mok, da, pre, q⟩ := h
    obtain ⟨script_, k_⟩ := c
    dsimp only at da pre q
    obtain ⟨v0, w0, rfl, d0, da0⟩ := dpa_inv da
    obtain ⟨v1, w1, rfl, d1, da1⟩ := dpa_inv da0
    cases dpa_inv0 da1
    cases (Dt.int d1)
    have s0 : Sg K Mc H H [(v0, Datum.toD script_)] [] := Sg.enter mok ⟨d0, True.intro⟩
    refine ⟨_, (pss_cons (ps_if (pt_cmpR op_lt (pv 1) (pe_callB call_len (by rfl) T.n_len (by decide +kernel) (pa_cons (pv 0) pa_nil)) (nomark _)) (pss_cons (ps_ret (pe_ix ix_list (pv 0) (pv 1) (fun _ _ => rfl))) pss_nil) pss_nil) (pss_cons (ps_ret pe_int) pss_nil)), ?_⟩
    refine z_ifx (b := (decide (k_ < ((script_).length : Int)))) s0 (ht_val (K := K) (hv_lt (hv_vI rfl) (hv_len (hs_of (hv_var (x := script_) rfl s0.im.1))))) (fun hb1 Hs2 s2 => ?_) (fun hb1 Hs3 s3 => ?_)
    · have hb1P := hb1
      try simp only [decide_eq_true_eq, decide_eq_false_iff_not, Bool.not_eq_true', Bool.not_eq_false', Bool.and_eq_true, Bool.or_eq_true, Bool.or_eq_false_iff] at hb1P
      have hF4 : m_law_cell script_ k_ = (script_.getD (Int.toNat k_) 0) := (by  first | (simp only [m_law_cell, hb1, if_true, if_false, Bool.false_eq_true, decide_true, decide_false, Option.getD_some, Option.isNone_none, Option.isNone_some, Bool.not_true, Bool.not_false, ↓reduceIte]; done) | (rfl; done) | (exfalso; simp at hb1; done))
      exact zq_ret s2 (hv_at 0 (hs_of (hv_var (x := script_) rfl s2.im.1)) (hv_vI rfl) (by first | omega | decide +kernel) (by first | omega | decide +kernel)) fun v H' e d => q v H' e (by rw [hF4]; exact d)
    · have hb1P := hb1
      try simp only [decide_eq_true_eq, decide_eq_false_iff_not, Bool.not_eq_true', Bool.not_eq_false', Bool.and_eq_true, Bool.or_eq_true, Bool.or_eq_false_iff] at hb1P
      have hF5 : m_law_cell script_ k_ = (0 : Int) := (by  first | (simp only [m_law_cell, hb1, if_true, if_false, Bool.false_eq_true, decide_true, decide_false, Option.getD_some, Option.isNone_none, Option.isNone_some, Bool.not_true, Bool.not_false, ↓reduceIte]; done) | (rfl; done) | (exfalso; simp at hb1; done))
      exact zq_ret s3 (hv_int 0) fun v H' e d => q v H' e (by rw [hF5]; exact d)
def m_law_draws_l0 (is_wide_ : Bool) (s_ : (List Int) × Int) (x_ : Int) : (List Int) × Int :=
  let found_ : (List Int) := s_.1
  let cell_ : Int := s_.2
  let k_ : Int := x_
  if is_wide_ = true then
    let found_ : (List Int) := found_ ++ [(cell_ % (1009 : Int))]
    let cell_ : Int := (cell_ / (1009 : Int))
    (found_, cell_)
  else
    let mixed_ : Int := (((cell_ * (48271 : Int)) + (k_ * (69621 : Int))) % (2147483647 : Int))
    let found_ : (List Int) := found_ ++ [((((mixed_ * mixed_) + (cell_ * (31 : Int))) + k_) % (1000003 : Int))]
    (found_, cell_)
def m_law_draws (cell_ : Int) (count_ : Int) : (List Int) :=
  let found_ : (List Int) := []
  let is_wide_ : Bool := (decide ((1000000000000000000 : Int) ≤ cell_))
  let r0_ : (List Int) × Int := loopN (m_law_draws_l0 is_wide_) (Int.toNat count_) (0 : Int) (found_, cell_)
  let found_ : (List Int) := r0_.1
  let cell_ : Int := r0_.2
  found_
abbrev s_law_draws : Stmt := topS 4
theorem sc_law_draws : FnScope ["cell", "count", "found", "is_wide", "k", "mixed"] ["cell", "count"] (defScope s_law_draws) := ⟨rfl, rfl, rfl, by decide +kernel, rfl, by decide +kernel, by decide +kernel⟩
abbrev sp_law_draws (K : PySem.W.Frag) : Sp := PrD K (fun c : Int × Int => [Datum.toD c.1, Datum.toD c.2]) (fun c => 0 ≤ c.2 ∧ c.2 ≤ 1000) (fun c => (m_law_draws c.1 c.2 : (List Int)))
theorem ok_law_draws (T : Txt K mg) : FnOk P w K mg base CX0 1 T.f_law_draws T.d_law_draws ["cell", "count"] (sp_law_draws K) := by
  refine T.u_law_draws.ok sc_law_draws (fun vs H Q E h => ?_) (fun cdv A outer s H vs Q E hr h => ?_)
  · obtain ⟨Mc, c, mok, da, pre, q⟩ := h
    exact (dpa_len da)
  · obtain ⟨Mc, c, mok, da, pre, q⟩ := h
    obtain ⟨cell_, count_⟩ := c
    dsimp only at da pre q
    obtain ⟨v0, w0, rfl, d0, da0⟩ := dpa_inv da
    obtain ⟨v1, w1, rfl, d1, da1⟩ := dpa_inv da0
    cases dpa_inv0 da1
    cases (Dt.int d0)
    cases (Dt.int d1)
    have s0 : Sg K Mc H H [] [] := Sg.enter mok True.intro
    refine ⟨_, (pss_cons (ps_set (i := 2) sc_law_draws.nd rfl (.inl rfl) (pe_lst pa_nil)) (pss_cons (ps_set (i := 3) sc_law_draws.nd rfl (.inl rfl) (pe_cmpR op_ge (pv 0) (pe_op op_pow pe_int pe_int) (nomark _))) (pss_cons (ps_for PassesOwn.never rfl (pi_range1 (by rfl) T.n_range (pa_cons (pv 1) pa_nil)) (pg_name (i := 4) sc_law_draws.nd rfl (.inl rfl)) (pss_cons (ps_if (pt_val (pv 3)) (pss_cons (ps_expr (pe_bm PySem.F.plainAttrs_list PySem.F.slot_list_append PySem.F.type_list_append mt_append (pv 2) (pa_cons (pe_op op_mod (pv 0) pe_int) pa_nil))) (pss_cons (ps_set (i := 0) sc_law_draws.nd rfl (.inl rfl) (pe_op op_fdivW (pv 0) pe_int)) pss_nil)) (pss_cons (ps_set (i := 5) sc_law_draws.nd rfl (.inl rfl) (pe_op op_mod (pe_op op_add (pe_op op_mul (pv 0) pe_int) (pe_op op_mul (pv 4) pe_int)) pe_int)) (pss_cons (ps_expr (pe_bm PySem.F.plainAttrs_list PySem.F.slot_list_append PySem.F.type_list_append mt_append (pv 2) (pa_cons (pe_op op_mod (pe_op op_add (pe_op op_add (pe_op op_mul (pv 5) (pv 5)) (pe_op op_mul (pv 0) pe_int)) (pv 4)) pe_int) pa_nil))) pss_nil))) pss_nil)) (pss_cons (ps_ret (pv 2)) pss_nil)))), ?_⟩
    refine z_nilG Int s0 fun found_2 hfound_2 ps1 Hs1 s1 => ?_
    have lfound_2 : found_2.length = 0 := by rw [hfound_2]; rfl
    refine z_asgBG s1 (hv_ge (hv_vI rfl) ((hv_pow (hv_int 10) (hv_int 18) ⟨by decide +kernel, by decide +kernel, by decide +kernel⟩).is (show _ = (1000000000000000000 : Int) by decide +kernel))) fun is_wide_4 his_wide_4 Hs3 s3 => ?_
    try dsimp only at his_wide_4
    refine zq_forR1G s3 (hv_vI rfl) (by first | omega | decide +kernel) (fun i σ' H' => ∃ (found_5 : (List Int)) (cell_6 : Int) (o7 : Option V) (o8 : Option V), (loopN (m_law_draws_l0 is_wide_4) (Int.toNat count_) (0 : Int) (found_2, cell_) : (List Int) × Int) = (loopN (m_law_draws_l0 is_wide_4) ((Int.toNat count_) - i) ((0 : Int) + (i : Int)) (found_5, cell_6) : (List Int) × Int) ∧ (found_5.length = (i)) ∧ σ' = [some (V.int cell_6), some (V.int count_), some (.ref ps1), some (V.bl is_wide_4), o7, o8] ∧ Sg K Mc H H' [] [(ps1, .lst (List.map Datum.toD found_5))]) (fun Hs9 s9 => ⟨found_2, cell_, _, _, (by simp), (by first | trivial | omega | (simp; done) | simp_all), rfl, s9.keep fun _ h => True.intro⟩) (fun i13 x14 σ' Hs12 hx15 hi16 hP => ?_) (fun σ' Hs12 hP => ?_)
    · obtain ⟨found_5, cell_6, o7, o8, he10, hg11, rfl, s12⟩ := hP
      refine z_if (b := is_wide_4) s12 (ht_B (K := K) (hv_vB rfl)) (fun hb18 Hs19 s19 => ?_) (fun hb18 Hs20 s20 => ?_)
      · have hb18P := hb18
        try simp only [decide_eq_true_eq, decide_eq_false_iff_not, Bool.not_eq_true', Bool.not_eq_false', Bool.and_eq_true, Bool.or_eq_true, Bool.or_eq_false_iff] at hb18P
        refine zq_appG s19 (kk := 0) rfl (ev_var rfl) (hv_mod (hv_vI rfl) (hv_int 1009) (by first | omega | decide +kernel)) (by first | omega | decide +kernel) fun found_22 hfound_22 Hs21 s21 => ?_
        have lfound_22 : found_22.length = found_5.length + 1 := by rw [hfound_22, List.length_append]; rfl
        have s21 : Sg K Mc _ _ _ [(ps1, .lst (List.map Datum.toD found_22))] := s21
        refine z_asgIG s21 (hv_div (hv_vI rfl) (hv_int 1009) (by exact ⟨by decide +kernel, by decide +kernel⟩)) fun cell_24 hcell_24 Hs23 s23 => ?_
        try dsimp only at hcell_24
        have hf25 : (m_law_draws_l0 is_wide_4) (found_5, cell_6) x14 = (found_22, cell_24) := (by subst hcell_24; subst hfound_22; subst his_wide_4; subst hfound_2; first | (simp only [m_law_draws_l0, hb18, if_true, if_false, Bool.false_eq_true, decide_true, decide_false, Option.getD_some, Option.isNone_none, Option.isNone_some, Bool.not_true, Bool.not_false, ↓reduceIte]; done) | (rfl; done) | (exfalso; simp at hb18; done))
        exact ⟨found_22, cell_24, _, _, he10.trans ((loopN_step hi16).trans (by rw [← hx15, hf25])), (by first | trivial | omega | (simp_all; done) | (simp_all; omega)), rfl, s23.keep fun _ h => True.intro⟩
      · have hb18P := hb18
        try simp only [decide_eq_true_eq, decide_eq_false_iff_not, Bool.not_eq_true', Bool.not_eq_false', Bool.and_eq_true, Bool.or_eq_true, Bool.or_eq_false_iff] at hb18P
        refine z_asgIG s20 (hv_mod (hv_add (hv_mul (hv_vI rfl) (hv_int 48271) (by first | exact Or.inr ⟨by omega, by omega⟩ | exact Or.inl ⟨by omega, by omega⟩)) (hv_mul (hv_vI rfl) (hv_int 69621) (by first | exact Or.inr ⟨by omega, by omega⟩ | exact Or.inl ⟨by omega, by omega⟩))) (hv_int 2147483647) (by first | omega | decide +kernel)) fun mixed_27 hmixed_27 Hs26 s26 => ?_
        try dsimp only at hmixed_27
        refine zq_appG s26 (kk := 0) rfl (ev_var rfl) (hv_mod (hv_add (hv_add (hv_mul (hv_vI rfl) (hv_vI rfl) (by first | exact Or.inr ⟨by omega, by omega⟩ | exact Or.inl ⟨by omega, by omega⟩)) (hv_mul (hv_vI rfl) (hv_int 31) (by first | exact Or.inr ⟨by omega, by omega⟩ | exact Or.inl ⟨by omega, by omega⟩))) (hv_vI rfl)) (hv_int 1000003) (by first | omega | decide +kernel)) (by first | omega | decide +kernel) fun found_29 hfound_29 Hs28 s28 => ?_
        have lfound_29 : found_29.length = found_5.length + 1 := by rw [hfound_29, List.length_append]; rfl
        have s28 : Sg K Mc _ _ _ [(ps1, .lst (List.map Datum.toD found_29))] := s28
        have hf30 : (m_law_draws_l0 is_wide_4) (found_5, cell_6) x14 = (found_29, cell_6) := (by subst hfound_29; subst hmixed_27; subst his_wide_4; subst hfound_2; first | (simp only [m_law_draws_l0, hb18, if_true, if_false, Bool.false_eq_true, decide_true, decide_false, Option.getD_some, Option.isNone_none, Option.isNone_some, Bool.not_true, Bool.not_false, ↓reduceIte]; done) | (rfl; done) | (exfalso; simp at hb18; done))
        exact ⟨found_29, cell_6, _, _, he10.trans ((loopN_step hi16).trans (by rw [← hx15, hf30])), (by first | trivial | omega | (simp_all; done) | (simp_all; omega)), rfl, s28.keep fun _ h => True.intro⟩
    · obtain ⟨found_31, cell_32, o33, o34, he36, hg37, rfl, s35⟩ := hP
      rw [loopN_end] at he36
      have s38 := Sg.frz (xs := found_31) s35
      have hF39 : m_law_draws cell_ count_ = found_31 := (by subst his_wide_4; subst hfound_2; first | (simp only [m_law_draws, he36, if_true, if_false, Bool.false_eq_true, decide_true, decide_false, Option.getD_some, Option.isNone_none, Option.isNone_some, Bool.not_true, Bool.not_false, ↓reduceIte]; done) | (rfl; done))
      exact zq_ret s38 (hv_var (x := found_31) rfl s38.im.1) fun v H' e d => q v H' e (by rw [hF39]; exact d)

theorem draws_len (c n : Int) : (m_law_draws c n).length = n.toNat := by
  have key := loopN_keep (f := m_law_draws_l0 (decide ((1000000000000000000 : Int) ≤ c))) (fun s j => s.1.length = j) (fun s k j h => by
    unfold m_law_draws_l0
    dsimp only
    split <;> (rw [List.length_append, h]; rfl)) n.toNat 0 ([], c) 0 rfl
  simpa [m_law_draws] using key

def m_law_is_integer (actual_ : Int) : Bool :=
  true
abbrev s_law_is_integer : Stmt := topS 5
theorem sc_law_is_integer : FnScope ["actual"] ["actual"] (defScope s_law_is_integer) := ⟨rfl, rfl, rfl, by decide +kernel, rfl, by decide +kernel, by decide +kernel⟩
abbrev sp_law_is_integer (K : PySem.W.Frag) : Sp := PrD K (fun c : Int => [Datum.toD c]) (fun c => True) (fun c => (m_law_is_integer c : Bool))
theorem ok_law_is_integer (T : Txt K mg) : FnOk P w K mg base CX0 1 T.f_law_is_integer T.d_law_is_integer ["actual"] (sp_law_is_integer K) := by
  refine T.u_law_is_integer.ok sc_law_is_integer (fun vs H Q E h => ?_) (fun cdv A outer s H vs Q E hr h => ?_)
  · obtain ⟨Mc, c, mok, da, pre, q⟩ := h
    exact (dpa_len da)
  · obtain ⟨Mc, c, mok, da, pre, q⟩ := h
    obtain ⟨actual_, rfl⟩ : ∃ z, z = c := ⟨c, rfl⟩
    dsimp only at da pre q
    obtain ⟨v0, w0, rfl, d0, da0⟩ := dpa_inv da
    cases dpa_inv0 da0
    cases (Dt.int d0)
    have s0 : Sg K Mc H H [] [] := Sg.enter mok True.intro
    refine ⟨_, (pss_cons (ps_ret (pe_and (pe_callB call_isi (by rfl) T.n_isinstance (by decide +kernel) (pa_cons (pv 0) (pa_cons (pe_bltn (v := .ty "int") (by rfl) T.n_int (by decide +kernel) rfl) pa_nil))) (pe_one (pe_not (pe_callB call_isi (by rfl) T.n_isinstance (by decide +kernel) (pa_cons (pv 0) (pa_cons (pe_bltn (v := .ty "bool") (by rfl) T.n_bool (by decide +kernel) rfl) pa_nil))))))) pss_nil), ?_⟩
    have hF1 : m_law_is_integer actual_ = true := (by  first | (simp only [m_law_is_integer, if_true, if_false, Bool.false_eq_true, decide_true, decide_false, Option.getD_some, Option.isNone_none, Option.isNone_some, Bool.not_true, Bool.not_false, ↓reduceIte]; done) | (rfl; done))
    exact zq_ret s0 (Hv.is (hv_and (hv_isi (b := true) (hv_vI rfl) (by decide +kernel)) (fun hb0 => (Hv.is (hv_not (hv_isi (b := false) (hv_vI rfl) (by decide +kernel))) (show _ = true by first | rfl | decide | simp)))) (show _ = true by first | rfl | decide | simp)) fun v H' e d => q v H' e (by rw [hF1]; exact d)
def m_law_way_l0 (draws_ : (List Int)) (s_ : Int × (List (Int × Int))) (x_ : Int) : Int × (List (Int × Int)) :=
  let position_ : Int := s_.1
  let stops_ : (List (Int × Int)) := s_.2
  let k_ : Int := x_
  let position_ : Int := ((position_ + (1 : Int)) + ((draws_.getD (Int.toNat (k_ + (1 : Int))) 0) % (2 : Int)))
  let stops_ : (List (Int × Int)) := stops_ ++ [(position_, (((draws_.getD (Int.toNat (k_ + (1 : Int))) 0) / (2 : Int)) % (3 : Int)))]
  (position_, stops_)
def m_law_way (draws_ : (List Int)) : (Tup (Int × Int)) :=
  let stops_ : (List (Int × Int)) := []
  let position_ : Int := (0 : Int)
  let r0_ : Int × (List (Int × Int)) := loopN (m_law_way_l0 draws_) (Int.toNat ((draws_.getD (Int.toNat (0 : Int)) 0) % (4 : Int))) (0 : Int) (position_, stops_)
  let position_ : Int := r0_.1
  let stops_ : (List (Int × Int)) := r0_.2
  (Tup.mk stops_)
abbrev s_law_way : Stmt := topS 6
theorem sc_law_way : FnScope ["draws", "stops", "position", "k"] ["draws"] (defScope s_law_way) := ⟨rfl, rfl, rfl, by decide +kernel, rfl, by decide +kernel, by decide +kernel⟩
abbrev sp_law_way (K : PySem.W.Frag) : Sp := PrD K (fun c : (List Int) => [Datum.toD c]) (fun c => 4 ≤ c.length) (fun c => (m_law_way c : (Tup (Int × Int))))
theorem ok_law_way (T : Txt K mg) : FnOk P w K mg base CX0 1 T.f_law_way T.d_law_way ["draws"] (sp_law_way K) := by
  refine T.u_law_way.ok sc_law_way (fun vs H Q E h => ?_) (fun cdv A outer s H vs Q E hr h => ?_)
  · obtain ⟨Mc, c, mok, da, pre, q⟩ := h
    exact (dpa_len da)
  · obtain ⟨Mc, c, mok, da, pre, q⟩ := h
    obtain ⟨draws_, rfl⟩ : ∃ z, z = c := ⟨c, rfl⟩
    dsimp only at da pre q
    obtain ⟨v0, w0, rfl, d0, da0⟩ := dpa_inv da
    cases dpa_inv0 da0
    have s0 : Sg K Mc H H [(v0, Datum.toD draws_)] [] := Sg.enter mok ⟨d0, True.intro⟩
    refine ⟨_, (pss_cons (ps_set (i := 1) sc_law_way.nd rfl (.inl rfl) (pe_lst pa_nil)) (pss_cons (ps_set (i := 2) sc_law_way.nd rfl (.inl rfl) pe_int) (pss_cons (ps_for PassesOwn.never rfl (pi_range1 (by rfl) T.n_range (pa_cons (pe_op op_mod (pe_ix ix_list (pv 0) pe_int (fun _ _ => rfl)) pe_int) pa_nil)) (pg_name (i := 3) sc_law_way.nd rfl (.inl rfl)) (pss_cons (ps_set (i := 2) sc_law_way.nd rfl (.inl rfl) (pe_op op_add (pe_op op_add (pv 2) pe_int) (pe_op op_mod (pe_ix ix_list (pv 0) (pe_op op_add (pv 3) pe_int) (fun _ _ => rfl)) pe_int))) (pss_cons (ps_expr (pe_bm PySem.F.plainAttrs_list PySem.F.slot_list_append PySem.F.type_list_append mt_append (pv 1) (pa_cons (pe_tup (pa_cons (pv 2) (pa_cons (pe_op op_mod (pe_op op_fdivW (pe_ix ix_list (pv 0) (pe_op op_add (pv 3) pe_int) (fun _ _ => rfl)) pe_int) pe_int) pa_nil))) pa_nil))) pss_nil))) (pss_cons (ps_ret (pe_callTy call_tuple_of (by rfl) T.n_tuple (by decide +kernel) (pa_cons (pv 1) pa_nil))) pss_nil)))), ?_⟩
    refine z_nilG (Int × Int) s0 fun stops_2 hstops_2 ps1 Hs1 s1 => ?_
    have lstops_2 : stops_2.length = 0 := by rw [hstops_2]; rfl
    refine z_asgIG s1 (hv_int 0) fun position_4 hposition_4 Hs3 s3 => ?_
    try dsimp only at hposition_4
    refine zq_forR1G s3 (hv_mod (hv_at 0 (hs_of (hv_var (x := draws_) rfl s3.im.1)) (hv_int 0) (by first | omega | decide +kernel) (by first | omega | decide +kernel)) (hv_int 4) (by first | omega | decide +kernel)) (by first | omega | decide +kernel) (fun i σ' H' => ∃ (position_5 : Int) (stops_6 : (List (Int × Int))) (o7 : Option V), (loopN (m_law_way_l0 draws_) (Int.toNat ((draws_.getD (Int.toNat (0 : Int)) 0) % (4 : Int))) (0 : Int) (position_4, stops_2) : Int × (List (Int × Int))) = (loopN (m_law_way_l0 draws_) ((Int.toNat ((draws_.getD (Int.toNat (0 : Int)) 0) % (4 : Int))) - i) ((0 : Int) + (i : Int)) (position_5, stops_6) : Int × (List (Int × Int))) ∧ (stops_6.length = (i)) ∧ σ' = [some v0, some (.ref ps1), some (V.int position_5), o7] ∧ Sg K Mc H H' [(v0, Datum.toD draws_)] [(ps1, .lst (List.map Datum.toD stops_6))]) (fun Hs8 s8 => ⟨position_4, stops_2, _, (by simp), (by first | trivial | omega | (simp; done) | simp_all), rfl, s8.keep fun _ h => ⟨h.1, True.intro⟩⟩) (fun i12 x13 σ' Hs11 hx14 hi15 hP => ?_) (fun σ' Hs11 hP => ?_)
    · obtain ⟨position_5, stops_6, o7, he9, hg10, rfl, s11⟩ := hP
      refine z_asgIG s11 (hv_add (hv_add (hv_vI rfl) (hv_int 1)) (hv_mod (hv_at 0 (hs_of (hv_var (x := draws_) rfl s11.im.1)) (hv_add (hv_vI rfl) (hv_int 1)) (by first | omega | decide +kernel) (by first | omega | decide +kernel)) (hv_int 2) (by first | omega | decide +kernel))) fun position_18 hposition_18 Hs17 s17 => ?_
      try dsimp only at hposition_18
      refine zq_appG s17 (kk := 0) rfl (ev_var rfl) (hv_tup2 (hv_vI rfl) (hv_mod (hv_div (hv_at 0 (hs_of (hv_var (x := draws_) rfl s17.im.1)) (hv_add (hv_vI rfl) (hv_int 1)) (by first | omega | decide +kernel) (by first | omega | decide +kernel)) (hv_int 2) (by exact ⟨by decide +kernel, by decide +kernel⟩)) (hv_int 3) (by first | omega | decide +kernel))) (by first | omega | decide +kernel) fun stops_20 hstops_20 Hs19 s19 => ?_
      have lstops_20 : stops_20.length = stops_6.length + 1 := by rw [hstops_20, List.length_append]; rfl
      have s19 : Sg K Mc _ _ _ [(ps1, .lst (List.map Datum.toD stops_20))] := s19
      have hf21 : (m_law_way_l0 draws_) (position_5, stops_6) x13 = (position_18, stops_20) := (by subst hstops_20; subst hposition_18; subst hposition_4; subst hstops_2; first | (simp only [m_law_way_l0, if_true, if_false, Bool.false_eq_true, decide_true, decide_false, Option.getD_some, Option.isNone_none, Option.isNone_some, Bool.not_true, Bool.not_false, ↓reduceIte]; done) | (rfl; done))
      exact ⟨position_18, stops_20, _, he9.trans ((loopN_step hi15).trans (by rw [← hx14, hf21])), (by first | trivial | omega | (simp_all; done) | (simp_all; omega)), rfl, s19.keep fun _ h => ⟨h.1, True.intro⟩⟩
    · obtain ⟨position_22, stops_23, o24, he26, hg27, rfl, s25⟩ := hP
      rw [loopN_end] at he26
      have s28 := Sg.frz (xs := stops_23) s25
      have hF29 : m_law_way draws_ = (Tup.mk stops_23) := (by subst hposition_4; subst hstops_2; first | (simp only [m_law_way, he26, if_true, if_false, Bool.false_eq_true, decide_true, decide_false, Option.getD_some, Option.isNone_none, Option.isNone_some, Bool.not_true, Bool.not_false, ↓reduceIte]; done) | (rfl; done))
      exact zq_ret s28 (hv_tupleOf (hs_of (hv_var (x := stops_23) rfl s28.im.1))) fun v H' e d => q v H' e (by rw [hF29]; exact d)
def m_law_l0 (script_ : (List Int)) (s_ : Int × (List (T3 Int (T3 Int Int Int) (Tup (Int × Int))))) (x_ : Int) : Int × (List (T3 Int (T3 Int Int Int) (Tup (Int × Int)))) :=
  let key_ : Int := s_.1
  let row_ : (List (T3 Int (T3 Int Int Int) (Tup (Int × Int)))) := s_.2
  let k_ : Int := x_
  let draws_ : (List Int) := (m_law_draws (m_law_cell script_ (k_ + (1 : Int))) (9 : Int))
  let key_ : Int := ((key_ + (1 : Int)) + ((draws_.getD (Int.toNat (0 : Int)) 0) % (2 : Int)))
  let row_ : (List (T3 Int (T3 Int Int Int) (Tup (Int × Int)))) := row_ ++ [(T3.mk key_ (T3.mk ((draws_.getD (Int.toNat (1 : Int)) 0) % (2 : Int)) ((draws_.getD (Int.toNat (2 : Int)) 0) % (3 : Int)) ((draws_.getD (Int.toNat (3 : Int)) 0) % (3 : Int))) (m_law_way (cutL draws_ (some (4 : Int)) none)))]
  (key_, row_)
def m_law_l1 (actual_ : ((T3 Int Int Int) × (Tup (Int × Int)))) (s_ : Bool) (x_ : (T3 Int (T3 Int Int Int) (Tup (Int × Int)))) : Lp Bool (Bool) :=
  let found_ : Bool := s_
  let entry_ : (T3 Int (T3 Int Int Int) (Tup (Int × Int))) := x_
  if (DatumOrd.lt (entry_.b, entry_.c) actual_) = true then
    Lp.ret false
  else
    if (decide ((entry_.b, entry_.c) = actual_)) = true then
      let found_ : Bool := true
      Lp.nxt found_
    else
      Lp.nxt found_
def m_law (script_ : (List Int)) : Bool :=
  let row_ : (List (T3 Int (T3 Int Int Int) (Tup (Int × Int)))) := []
  let key_ : Int := (0 : Int)
  let r0_ : Int × (List (T3 Int (T3 Int Int Int) (Tup (Int × Int)))) := loopN (m_law_l0 script_) (Int.toNat ((m_law_cell script_ (0 : Int)) % (9 : Int))) (0 : Int) (key_, row_)
  let key_ : Int := r0_.1
  let row_ : (List (T3 Int (T3 Int Int Int) (Tup (Int × Int)))) := r0_.2
  let passed_ : (List (T3 Int (T3 Int Int Int) (Tup (Int × Int)))) := row_
  let actual_ : (Option ((T3 Int Int Int) × (Tup (Int × Int)))) := (m_chosen passed_)
  if (!decide (passed_ = row_)) = true then
    false
  else
    if (decide (((row_).length : Int) = (0 : Int))) = true then
      (Option.isNone actual_)
    else
      let actual_ : ((T3 Int Int Int) × (Tup (Int × Int))) := Option.getD actual_ ((T3.mk 0 0 0), (Tup.mk []))
      let found_ : Bool := false
      match (loopL (m_law_l1 actual_) row_ found_ : Bool ⊕ (Bool)) with
      | .inl rr_ => rr_
      | .inr r1_ =>
        let found_ : Bool := r1_
        found_
abbrev s_law : Stmt := topS 7
theorem sc_law : FnScope ["script", "row", "key", "k", "draws", "passed", "actual", "found", "entry"] ["script"] (defScope s_law) := ⟨rfl, rfl, rfl, by decide +kernel, rfl, by decide +kernel, by decide +kernel⟩
abbrev sp_law (K : PySem.W.Frag) : Sp := PrD K (fun c : (List Int) => [Datum.toD c]) (fun c => True) (fun c => (m_law c : Bool))
theorem ok_law (T : Txt K mg) : FnOk P w K mg base CX0 2 T.f_law T.d_law ["script"] (sp_law K) := by
  refine T.u_law.ok sc_law (fun vs H Q E h => ?_) (fun cdv A outer s H vs Q E hr h => ?_)
  · obtain ⟨Mc, c, mok, da, pre, q⟩ := h
    exact (dpa_len da)
  · obtain ⟨Mc, c, mok, da, pre, q⟩ := h
    obtain ⟨script_, rfl⟩ : ∃ z, z = c := ⟨c, rfl⟩
    dsimp only at da pre q
    obtain ⟨v0, w0, rfl, d0, da0⟩ := dpa_inv da
    cases dpa_inv0 da0
    have s0 : Sg K Mc H H [(v0, Datum.toD script_)] [] := Sg.enter mok ⟨d0, True.intro⟩
    refine ⟨_, (pss_cons (ps_set (i := 1) sc_law.nd rfl (.inl rfl) (pe_lst pa_nil)) (pss_cons (ps_set (i := 2) sc_law.nd rfl (.inl rfl) pe_int) (pss_cons (ps_for PassesOwn.never rfl (pi_range1 (by rfl) T.n_range (pa_cons (pe_op op_mod (pe_call (ok_law_cell T) hr (by rfl) T.g_law_cell T.u_law_cell.kp T.b_law_cell .nil pass0 (pa_cons (pv 0) (pa_cons pe_int pa_nil))) pe_int) pa_nil)) (pg_name (i := 3) sc_law.nd rfl (.inl rfl)) (pss_cons (ps_set (i := 4) sc_law.nd rfl (.inl rfl) (pe_call (ok_law_draws T) hr (by rfl) T.g_law_draws T.u_law_draws.kp T.b_law_draws .nil pass0 (pa_cons (pe_call (ok_law_cell T) hr (by rfl) T.g_law_cell T.u_law_cell.kp T.b_law_cell .nil pass0 (pa_cons (pv 0) (pa_cons (pe_op op_add (pv 3) pe_int) pa_nil))) (pa_cons pe_int pa_nil)))) (pss_cons (ps_set (i := 2) sc_law.nd rfl (.inl rfl) (pe_op op_add (pe_op op_add (pv 2) pe_int) (pe_op op_mod (pe_ix ix_list (pv 4) pe_int (fun _ _ => rfl)) pe_int))) (pss_cons (ps_expr (pe_bm PySem.F.plainAttrs_list PySem.F.slot_list_append PySem.F.type_list_append mt_append (pv 1) (pa_cons (pe_tup (pa_cons (pv 2) (pa_cons (pe_tup (pa_cons (pe_op op_mod (pe_ix ix_list (pv 4) pe_int (fun _ _ => rfl)) pe_int) (pa_cons (pe_op op_mod (pe_ix ix_list (pv 4) pe_int (fun _ _ => rfl)) pe_int) (pa_cons (pe_op op_mod (pe_ix ix_list (pv 4) pe_int (fun _ _ => rfl)) pe_int) pa_nil)))) (pa_cons (pe_call (ok_law_way T) hr (by rfl) T.g_law_way T.u_law_way.kp T.b_law_way .nil pass0 (pa_cons (pe_slice sl_list (pv 4) (po_some pe_int) po_none) pa_nil)) pa_nil)))) pa_nil))) pss_nil)))) (pss_cons (ps_set (i := 5) sc_law.nd rfl (.inl rfl) (pe_callTy call_list_of (by rfl) T.n_list (by decide +kernel) (pa_cons (pv 1) pa_nil))) (pss_cons (ps_set (i := 6) sc_law.nd rfl (.inl rfl) (pe_call (ok_chosen T) hr (by rfl) T.g_chosen T.u_chosen.kp T.b_chosen .nil pass0 (pa_cons (pv 5) pa_nil))) (pss_cons (ps_if (pt_cmpR (op_neT (α := (List (T3 Int (T3 Int Int Int) (Tup (Int × Int))))) (hud hr (by decide +kernel))) (pv 5) (pv 1) (nomark _)) (pss_cons (ps_ret pe_bl) pss_nil) pss_nil) (pss_cons (ps_if (pt_cmpR op_eq (pe_callB call_len (by rfl) T.n_len (by decide +kernel) (pa_cons (pv 1) pa_nil)) pe_int (nomark _)) (pss_cons (ps_ret (pe_cmpR op_isN (pv 6) pe_non (nomark _))) pss_nil) pss_nil) (pss_cons (ps_if (PW.pt (pw_or (pt_not (pt_val (pe_callB call_isi (by rfl) T.n_isinstance (by decide +kernel) (pa_cons (pv 6) (pa_cons (pe_bltn (v := .ty "tuple") (by rfl) T.n_tuple (by decide +kernel) rfl) pa_nil))))) (pw_or1 (pt_cmpR op_ne (pe_callB call_len (by rfl) T.n_len (by decide +kernel) (pa_cons (pv 6) pa_nil)) pe_int (nomark _))))) (pss_cons (ps_ret pe_bl) pss_nil) pss_nil) (pss_cons (ps_set (i := 7) sc_law.nd rfl (.inl rfl) pe_bl) (pss_cons (ps_for PassesOwn.never rfl (pi_list (pv 1)) (pg_name (i := 8) sc_law.nd rfl (.inl rfl)) (pss_cons (ps_if (pt_cmpR (op_ltT (α := ((T3 Int Int Int) × (Tup (Int × Int)))) (hud hr (by decide +kernel))) (pe_tup (pa_cons (pe_ix ix_tup (pv 8) pe_int (fun _ _ => rfl)) (pa_cons (pe_ix ix_tup (pv 8) pe_int (fun _ _ => rfl)) pa_nil))) (pv 6) (nomark _)) (pss_cons (ps_ret pe_bl) pss_nil) pss_nil) (pss_cons (ps_if (pt_cmpR (op_eqT (α := ((T3 Int Int Int) × (Tup (Int × Int)))) (hud hr (by decide +kernel))) (pe_tup (pa_cons (pe_ix ix_tup (pv 8) pe_int (fun _ _ => rfl)) (pa_cons (pe_ix ix_tup (pv 8) pe_int (fun _ _ => rfl)) pa_nil))) (pv 6) (nomark _)) (pss_cons (ps_set (i := 7) sc_law.nd rfl (.inl rfl) pe_bl) pss_nil) pss_nil) pss_nil))) (pss_cons (ps_ret (pe_and (pv 7) (pe_and (pe_callB call_isi (by rfl) T.n_isinstance (by decide +kernel) (pa_cons (pe_ix ix_tup (pv 6) pe_int (fun _ _ => rfl)) (pa_cons (pe_bltn (v := .ty "tuple") (by rfl) T.n_tuple (by decide +kernel) rfl) pa_nil))) (pe_one (pe_callB call_isi (by rfl) T.n_isinstance (by decide +kernel) (pa_cons (pe_ix ix_tup (pv 6) pe_int (fun _ _ => rfl)) (pa_cons (pe_bltn (v := .ty "tuple") (by rfl) T.n_tuple (by decide +kernel) rfl) pa_nil))))))) pss_nil))))))))))), ?_⟩
    refine z_nilG (T3 Int (T3 Int Int Int) (Tup (Int × Int))) s0 fun row_2 hrow_2 ps1 Hs1 s1 => ?_
    have lrow_2 : row_2.length = 0 := by rw [hrow_2]; rfl
    refine z_asgIG s1 (hv_int 0) fun key_4 hkey_4 Hs3 s3 => ?_
    try dsimp only at hkey_4
    refine zq_forR1G s3 (hv_mod (hv_call (script_, (0 : Int)) (hd_cons (hv_var (x := script_) rfl s3.im.1) (hd_cons (hv_int 0) hd_nil)) (by first | omega | (subst_vars; omega) | decide +kernel)) (hv_int 9) (by first | omega | decide +kernel)) (by first | omega | decide +kernel) (fun i σ' H' => ∃ (key_5 : Int) (row_6 : (List (T3 Int (T3 Int Int Int) (Tup (Int × Int))))) (o7 : Option V) (o8 : Option V) (o9 : Option V) (o10 : Option V) (o11 : Option V) (o12 : Option V), (loopN (m_law_l0 script_) (Int.toNat ((m_law_cell script_ (0 : Int)) % (9 : Int))) (0 : Int) (key_4, row_2) : Int × (List (T3 Int (T3 Int Int Int) (Tup (Int × Int))))) = (loopN (m_law_l0 script_) ((Int.toNat ((m_law_cell script_ (0 : Int)) % (9 : Int))) - i) ((0 : Int) + (i : Int)) (key_5, row_6) : Int × (List (T3 Int (T3 Int Int Int) (Tup (Int × Int))))) ∧ (row_6.length = (i)) ∧ σ' = [some v0, some (.ref ps1), some (V.int key_5), o7, o8, o9, o10, o11, o12] ∧ Sg K Mc H H' [(v0, Datum.toD script_)] [(ps1, .lst (List.map Datum.toD row_6))]) (fun Hs13 s13 => ⟨key_4, row_2, _, _, _, _, _, _, (by simp), (by first | trivial | omega | (simp; done) | simp_all), rfl, s13.keep fun _ h => ⟨h.1, True.intro⟩⟩) (fun i17 x18 σ' Hs16 hx19 hi20 hP => ?_) (fun σ' Hs16 hP => ?_)
    · obtain ⟨key_5, row_6, o7, o8, o9, o10, o11, o12, he14, hg15, rfl, s16⟩ := hP
      refine z_asgG s16 (hv_call ((m_law_cell script_ (x18 + (1 : Int))), (9 : Int)) (hd_cons (hv_call (script_, (x18 + (1 : Int))) (hd_cons (hv_var (x := script_) rfl s16.im.1) (hd_cons (hv_add (hv_vI rfl) (hv_int 1)) hd_nil)) (by first | omega | (subst_vars; omega) | decide +kernel)) (hd_cons (hv_int 9) hd_nil)) (by first | omega | (subst_vars; omega) | decide +kernel)) fun draws_23 hdraws_23 vdraws_23 Hs22 s22 => ?_
      try dsimp only at hdraws_23
      have f24 := draws_len (m_law_cell script_ (x18 + (1 : Int))) (9 : Int)
      rw [← hdraws_23] at f24
      refine z_asgIG s22 (hv_add (hv_add (hv_vI rfl) (hv_int 1)) (hv_mod (hv_at 0 (hs_of (hv_var (x := draws_23) rfl s22.im.1)) (hv_int 0) (by first | omega | decide +kernel) (by first | omega | decide +kernel)) (hv_int 2) (by first | omega | decide +kernel))) fun key_26 hkey_26 Hs25 s25 => ?_
      try dsimp only at hkey_26
      refine zq_appG s25 (kk := 0) rfl (ev_var rfl) (hv_tup3 (hv_vI rfl) (hv_tup3 (hv_mod (hv_at 0 (hs_of (hv_var (x := draws_23) rfl s25.im.1)) (hv_int 1) (by first | omega | decide +kernel) (by first | omega | decide +kernel)) (hv_int 2) (by first | omega | decide +kernel)) (hv_mod (hv_at 0 (hs_of (hv_var (x := draws_23) rfl s25.im.1)) (hv_int 2) (by first | omega | decide +kernel) (by first | omega | decide +kernel)) (hv_int 3) (by first | omega | decide +kernel)) (hv_mod (hv_at 0 (hs_of (hv_var (x := draws_23) rfl s25.im.1)) (hv_int 3) (by first | omega | decide +kernel) (by first | omega | decide +kernel)) (hv_int 3) (by first | omega | decide +kernel))) (hv_call (cutL draws_23 (some (4 : Int)) none) (hd_cons (hv_slice (hs_of (hv_var (x := draws_23) rfl s25.im.1)) (ho_some (K := K) (hv_int 4)) ho_none) hd_nil) (by rw [cutL_from (by decide), List.length_drop]; omega))) (by first | omega | decide +kernel) fun row_28 hrow_28 Hs27 s27 => ?_
      have lrow_28 : row_28.length = row_6.length + 1 := by rw [hrow_28, List.length_append]; rfl
      have s27 : Sg K Mc _ _ _ [(ps1, .lst (List.map Datum.toD row_28))] := s27
      have hf29 : (m_law_l0 script_) (key_5, row_6) x18 = (key_26, row_28) := (by subst hrow_28; subst hkey_26; subst hdraws_23; subst hkey_4; subst hrow_2; first | (simp only [m_law_l0, if_true, if_false, Bool.false_eq_true, decide_true, decide_false, Option.getD_some, Option.isNone_none, Option.isNone_some, Bool.not_true, Bool.not_false, ↓reduceIte]; done) | (rfl; done))
      exact ⟨key_26, row_28, _, _, _, _, _, _, he14.trans ((loopN_step hi20).trans (by rw [← hx19, hf29])), (by first | trivial | omega | (simp_all; done) | (simp_all; omega)), rfl, s27.keep fun _ h => ⟨h.2.1, True.intro⟩⟩
    · obtain ⟨key_30, row_31, o32, o33, o34, o35, o36, o37, he39, hg40, rfl, s38⟩ := hP
      rw [loopN_end] at he39
      have s41 := Sg.frz (xs := row_31) s38
      refine z_asgG s41 (hv_listOf (hs_of (hv_var (x := row_31) rfl s41.im.1))) fun passed_43 hpassed_43 vpassed_43 Hs42 s42 => ?_
      try dsimp only at hpassed_43
      refine z_asgG s42 (hv_call passed_43 (hd_cons (hv_var (x := passed_43) rfl s42.im.1) hd_nil) (by first | omega | (subst_vars; omega) | decide +kernel)) fun actual_45 hactual_45 vactual_45 Hs44 s44 => ?_
      try dsimp only at hactual_45
      refine z_ifx (b := (!decide (passed_43 = row_31))) s44 (ht_val (K := K) (hv_neT (hv_whole s44 (hv_var (x := passed_43) rfl s44.im.2.1)) (hv_whole s44 (hv_var (x := row_31) rfl s44.im.2.2.1)))) (fun hb46 Hs47 s47 => ?_) (fun hb46 Hs48 s48 => ?_)
      · have hb46P := hb46
        try simp only [decide_eq_true_eq, decide_eq_false_iff_not, Bool.not_eq_true', Bool.not_eq_false', Bool.and_eq_true, Bool.or_eq_true, Bool.or_eq_false_iff] at hb46P
        have hF49 : m_law script_ = false := (by subst hactual_45; subst hpassed_43; subst hkey_4; subst hrow_2; first | (simp only [m_law, he39, hb46, if_true, if_false, Bool.false_eq_true, decide_true, decide_false, Option.getD_some, Option.isNone_none, Option.isNone_some, Bool.not_true, Bool.not_false, ↓reduceIte]; done) | (rfl; done) | (exfalso; simp at hb46; done))
        exact zq_ret s47 (hv_bl false) fun v H' e d => q v H' e (by rw [hF49]; exact d)
      · have hb46P := hb46
        try simp only [decide_eq_true_eq, decide_eq_false_iff_not, Bool.not_eq_true', Bool.not_eq_false', Bool.and_eq_true, Bool.or_eq_true, Bool.or_eq_false_iff] at hb46P
        refine z_ifx (b := (decide (((row_31).length : Int) = (0 : Int)))) s48 (ht_val (K := K) (hv_eqI (hv_len (hs_of (hv_var (x := row_31) rfl s48.im.2.2.1))) (hv_int 0))) (fun hb50 Hs51 s51 => ?_) (fun hb50 Hs52 s52 => ?_)
        · have hb50P := hb50
          try simp only [decide_eq_true_eq, decide_eq_false_iff_not, Bool.not_eq_true', Bool.not_eq_false', Bool.and_eq_true, Bool.or_eq_true, Bool.or_eq_false_iff] at hb50P
          have hF53 : m_law script_ = (Option.isNone actual_45) := (by subst hactual_45; subst hpassed_43; subst hkey_4; subst hrow_2; first | (simp only [m_law, he39, hb46, hb50, if_true, if_false, Bool.false_eq_true, decide_true, decide_false, Option.getD_some, Option.isNone_none, Option.isNone_some, Bool.not_true, Bool.not_false, ↓reduceIte]; done) | (rfl; done) | (exfalso; simp at hb50; done) | (exfalso; simp at hb46; done))
          exact zq_ret s51 (hv_isN (hv_var (x := actual_45) rfl s51.im.1)) fun v H' e d => q v H' e (by rw [hF53]; exact d)
        · have hb50P := hb50
          try simp only [decide_eq_true_eq, decide_eq_false_iff_not, Bool.not_eq_true', Bool.not_eq_false', Bool.and_eq_true, Bool.or_eq_true, Bool.or_eq_false_iff] at hb50P
          obtain ⟨actual_54, hz55⟩ : ∃ z, actual_45 = some z := by rw [hactual_45]; exact chosen_some _ (by intro h0; apply hb50P; rw [← hpassed_43, h0]; rfl)
          subst hz55
          refine z_ifx (b := false) s52 (HT.is (ht_or (HT.is (ht_not (ht_B (K := K) (hv_isi (b := true) (hv_var (x := actual_54) rfl s52.im.1) (by decide +kernel)))) (show _ = false by first | rfl | decide | simp)) (fun hb0 => (HT.is (ht_val (K := K) (hv_neI (hv_len2 (hv_var (x := actual_54) rfl s52.im.1)) (hv_int 2))) (show _ = false by first | rfl | decide | simp)))) (show _ = false by first | rfl | decide | simp)) (fun hb => absurd hb Bool.false_ne_true) (fun _ Hs56 s56 => ?_)
          refine z_asgBG s56 (hv_bl false) fun found_58 hfound_58 Hs57 s57 => ?_
          try dsimp only at hfound_58
          refine zq_forG s57 (hv_var (x := row_31) rfl s57.im.2.2.1) (fun vsrc i σ' H' => ∃ (found_59 : Bool) (o60 : Option V) (o61 : Option V) (o62 : Option V), (loopL (m_law_l1 actual_54) row_31 found_58 : Bool ⊕ (Bool)) = (loopL (m_law_l1 actual_54) (List.drop i row_31) found_59 : Bool ⊕ (Bool)) ∧ True ∧ σ' = [some v0, some (V.ref ps1), some (V.int key_30), o60, o61, some vpassed_43, some vactual_45, some (V.bl found_59), o62] ∧ Sg K Mc H H' [(vsrc, Datum.toD row_31), (vactual_45, Datum.toD actual_54), (vpassed_43, Datum.toD passed_43), ((V.ref ps1), Datum.toD row_31), (v0, Datum.toD script_)] []) (fun vsrc Hs63 s63 => ⟨found_58, _, _, _, rfl, (by first | trivial | omega | (simp; done) | simp_all), rfl, s63.keep fun _ h => ⟨h.1, ⟨h.2.1, ⟨h.2.2.1, ⟨h.2.2.2.1, ⟨h.2.2.2.2.1, True.intro⟩⟩⟩⟩⟩⟩) (fun vsrc i σ' H' hP => by obtain ⟨found_59, o60, o61, o62, he, hg, hs, hS⟩ := hP; exact hS.im.1) (fun vsrc i67 x68 wx68 σ' Hs66 hi70 hP hx69 => ?_) (fun vsrc σ' Hs66 hP => ?_)
          · obtain ⟨found_59, o60, o61, o62, he64, hg65, rfl, s66⟩ := hP
            have s72 := s66.put hx69
            refine z_ifx (b := (DatumOrd.lt (x68.b, x68.c) actual_54)) s72 (ht_val (K := K) (hv_ltT (hv_whole s72 (hv_tup2 (hv_t31 (hv_var (x := x68) rfl s72.im.1)) (hv_t32 (hv_var (x := x68) rfl s72.im.1)))) (hv_whole s72 (hv_var (x := actual_54) rfl s72.im.2.2.1)))) (fun hb73 Hs74 s74 => ?_) (fun hb73 Hs75 s75 => ?_)
            · have hb73P := hb73
              try simp only [decide_eq_true_eq, decide_eq_false_iff_not, Bool.not_eq_true', Bool.not_eq_false', Bool.and_eq_true, Bool.or_eq_true, Bool.or_eq_false_iff] at hb73P
              have hf76 : (m_law_l1 actual_54) found_59 x68 = Lp.ret false := (by subst hfound_58; subst hpassed_43; subst hkey_4; subst hrow_2; first | (simp only [m_law_l1, ← hactual_45, he39, hb46, hb50, hb73, if_true, if_false, Bool.false_eq_true, decide_true, decide_false, Option.getD_some, Option.isNone_none, Option.isNone_some, Bool.not_true, Bool.not_false, ↓reduceIte]; done) | (rfl; done) | (exfalso; simp at hb73; done) | (exfalso; simp at hb50; done) | (exfalso; simp at hb46; done))
              have hl77 := he64.trans (loopL_ret hi70 hf76)
              have hF78 : m_law script_ = false := (by subst hfound_58; subst hpassed_43; subst hkey_4; subst hrow_2; first | (simp only [m_law, ← hactual_45, he39, hb46, hb50, hb73, hl77, if_true, if_false, Bool.false_eq_true, decide_true, decide_false, Option.getD_some, Option.isNone_none, Option.isNone_some, Bool.not_true, Bool.not_false, ↓reduceIte]; done) | (rfl; done) | (exfalso; simp at hb73; done) | (exfalso; simp at hb50; done) | (exfalso; simp at hb46; done))
              exact zq_ret s74 (hv_bl false) fun v H' e d => q v H' e (by rw [hF78]; exact d)
            · have hb73P := hb73
              try simp only [decide_eq_true_eq, decide_eq_false_iff_not, Bool.not_eq_true', Bool.not_eq_false', Bool.and_eq_true, Bool.or_eq_true, Bool.or_eq_false_iff] at hb73P
              refine z_ifx (b := (decide ((x68.b, x68.c) = actual_54))) s75 (ht_val (K := K) (hv_eqT (hv_whole s75 (hv_tup2 (hv_t31 (hv_var (x := x68) rfl s75.im.1)) (hv_t32 (hv_var (x := x68) rfl s75.im.1)))) (hv_whole s75 (hv_var (x := actual_54) rfl s75.im.2.2.1)))) (fun hb79 Hs80 s80 => ?_) (fun hb79 Hs81 s81 => ?_)
              · have hb79P := hb79
                try simp only [decide_eq_true_eq, decide_eq_false_iff_not, Bool.not_eq_true', Bool.not_eq_false', Bool.and_eq_true, Bool.or_eq_true, Bool.or_eq_false_iff] at hb79P
                refine z_asgBG s80 (hv_bl true) fun found_83 hfound_83 Hs82 s82 => ?_
                try dsimp only at hfound_83
                have hf84 : (m_law_l1 actual_54) found_59 x68 = Lp.nxt found_83 := (by subst hfound_83; subst hfound_58; subst hpassed_43; subst hkey_4; subst hrow_2; first | (simp only [m_law_l1, ← hactual_45, he39, hb46, hb50, hb73, hb79, if_true, if_false, Bool.false_eq_true, decide_true, decide_false, Option.getD_some, Option.isNone_none, Option.isNone_some, Bool.not_true, Bool.not_false, ↓reduceIte]; done) | (rfl; done) | (exfalso; simp at hb79; done) | (exfalso; simp at hb73; done) | (exfalso; simp at hb50; done) | (exfalso; simp at hb46; done))
                exact ⟨found_83, _, _, _, he64.trans (loopL_nxt hi70 hf84), (by first | trivial | omega | (simp_all; done) | (simp_all; omega)), rfl, s82.keep fun _ h => ⟨h.2.1, ⟨h.2.2.1, ⟨h.2.2.2.1, ⟨h.2.2.2.2.1, ⟨h.2.2.2.2.2.1, True.intro⟩⟩⟩⟩⟩⟩
              · have hb79P := hb79
                try simp only [decide_eq_true_eq, decide_eq_false_iff_not, Bool.not_eq_true', Bool.not_eq_false', Bool.and_eq_true, Bool.or_eq_true, Bool.or_eq_false_iff] at hb79P
                have hf85 : (m_law_l1 actual_54) found_59 x68 = Lp.nxt found_59 := (by subst hfound_58; subst hpassed_43; subst hkey_4; subst hrow_2; first | (simp only [m_law_l1, ← hactual_45, he39, hb46, hb50, hb73, hb79, if_true, if_false, Bool.false_eq_true, decide_true, decide_false, Option.getD_some, Option.isNone_none, Option.isNone_some, Bool.not_true, Bool.not_false, ↓reduceIte]; done) | (rfl; done) | (exfalso; simp at hb79; done) | (exfalso; simp at hb73; done) | (exfalso; simp at hb50; done) | (exfalso; simp at hb46; done))
                exact ⟨found_59, _, _, _, he64.trans (loopL_nxt hi70 hf85), (by first | trivial | omega | (simp_all; done) | (simp_all; omega)), rfl, s81.keep fun _ h => ⟨h.2.1, ⟨h.2.2.1, ⟨h.2.2.2.1, ⟨h.2.2.2.2.1, ⟨h.2.2.2.2.2.1, True.intro⟩⟩⟩⟩⟩⟩
          · obtain ⟨found_86, o87, o88, o89, he91, hg92, rfl, s90⟩ := hP
            rw [loopL_end] at he91
            have hF93 : m_law script_ = found_86 := (by subst hfound_58; subst hpassed_43; subst hkey_4; subst hrow_2; first | (simp only [m_law, ← hactual_45, he39, hb46, hb50, he91, if_true, if_false, Bool.false_eq_true, decide_true, decide_false, Option.getD_some, Option.isNone_none, Option.isNone_some, Bool.not_true, Bool.not_false, ↓reduceIte]; done) | (rfl; done) | (exfalso; simp at hb50; done) | (exfalso; simp at hb46; done))
            exact zq_ret s90 (Hv.is (hv_and (hv_vB rfl) (fun hb0 => (hv_and (hv_isi (b := true) (hv_p0 (hv_var (x := actual_54) rfl s90.im.2.1)) (by decide +kernel)) (fun hb1 => (hv_isi (b := true) (hv_p1 (hv_var (x := actual_54) rfl s90.im.2.1)) (by decide +kernel)))))) (show _ = found_86 by first | rfl | decide | simp)) fun v H' e d => q v H' e (by rw [hF93]; exact d)
end

abbrev Et := T3 Int (T3 Int Int Int) (Tup (Int × Int))
theorem l1_run (z : (T3 Int Int Int) × (Tup (Int × Int))) : ∀ (l : List Et) (b : Bool), (∀ e ∈ l, DatumOrd.lt (e.b, e.c) z = false) → (loopL (m_law_l1 z) l b : Bool ⊕ Bool) = .inr (b || l.any (fun e => decide ((e.b, e.c) = z)))
  | [], b, _ => by simp [loopL]
  | e :: r, b, h => by
    have h1 := h e List.mem_cons_self
    rw [loopL]
    by_cases q : (e.b, e.c) = z
    · have e1 : m_law_l1 z b e = Lp.nxt true := by simp [m_law_l1, h1, q, lt_irrefl]
      rw [e1]
      dsimp only
      rw [l1_run z r true fun y hy => h y (List.mem_cons_of_mem _ hy)]
      simp [q]
    · have e1 : m_law_l1 z b e = Lp.nxt b := by simp [m_law_l1, h1, q]
      rw [e1]
      dsimp only
      rw [l1_run z r b fun y hy => h y (List.mem_cons_of_mem _ hy)]
      simp [q]
theorem law_true (ns : List Int) (_ : ns.length ≤ 63) : m_law ns = true := by
  unfold m_law
  dsimp only
  generalize (loopN (m_law_l0 ns) (Int.toNat ((m_law_cell ns (0 : Int)) % (9 : Int))) (0 : Int) ((0 : Int), ([] : List Et)) : Int × List Et).2 = l
  rw [show (!decide (l = l)) = false by simp]
  rw [if_neg Bool.false_ne_true]
  cases l with
  | nil => rfl
  | cons x r =>
    rw [if_neg (by simp; omega)]
    have e1 : m_chosen (x :: r) = some (minOf (x.b, x.c) (r.map fun (c_ : Et) => (c_.b, c_.c))) := rfl
    rw [e1]
    obtain ⟨h1, h2⟩ := minOf_spec (r.map fun (c_ : Et) => (c_.b, c_.c)) (x.b, x.c)
    dsimp only [Option.getD_some]
    rw [l1_run _ (x :: r) false]
    · dsimp only
      rw [Bool.false_or, List.any_eq_true]
      have h3 : minOf (x.b, x.c) (r.map fun (c_ : Et) => (c_.b, c_.c)) ∈ (x :: r).map fun (c_ : Et) => (c_.b, c_.c) := h1
      obtain ⟨e, he, hz⟩ := List.mem_map.mp h3
      exact ⟨e, he, decide_eq_true hz⟩
    · intro e he
      exact h2 (e.b, e.c) (show (e.b, e.c) ∈ (x :: r).map fun (c_ : Et) => (c_.b, c_.c) from List.mem_map.mpr ⟨e, he, rfl⟩)

theorem all_mk {w : World} {K : PySem.W.Frag} {h : Heap} {mg : Str → Option Value} {fa : Addr} (X : K.In h) (G : h.Ns mainGlobals mg) (hfa : mg "law" = some (.ref fa))
    {f_chosen : Addr} {od_chosen an_chosen : Option Addr} {sl_chosen : Array (Option Value)} {oc_chosen kV_chosen dc_chosen pm_chosen cd_chosen ct_chosen : Value}
    (a_chosen : PySem.W.nsIn K mainGlobals "chosen" = some (some (.ref f_chosen))) (l_chosen : K.lookup f_chosen = some ⟨oc_chosen, od_chosen, .func (PySem.W.fnOf "chosen" "chosen" (defArgs (topS 1)) (defBody (topS 1)) (defScope (topS 1)) .none kV_chosen dc_chosen pm_chosen an_chosen cd_chosen ct_chosen), sl_chosen⟩) (c_chosen : PySem.W.codeIn K cd_chosen "chosen" = true) (k_chosen : PySem.W.keepIn K (.ref f_chosen) = true)
    {f_law_cell : Addr} {od_law_cell an_law_cell : Option Addr} {sl_law_cell : Array (Option Value)} {oc_law_cell kV_law_cell dc_law_cell pm_law_cell cd_law_cell ct_law_cell : Value}
    (a_law_cell : PySem.W.nsIn K mainGlobals "_law_cell" = some (some (.ref f_law_cell))) (l_law_cell : K.lookup f_law_cell = some ⟨oc_law_cell, od_law_cell, .func (PySem.W.fnOf "_law_cell" "_law_cell" (defArgs (topS 3)) (defBody (topS 3)) (defScope (topS 3)) .none kV_law_cell dc_law_cell pm_law_cell an_law_cell cd_law_cell ct_law_cell), sl_law_cell⟩) (c_law_cell : PySem.W.codeIn K cd_law_cell "_law_cell" = true) (k_law_cell : PySem.W.keepIn K (.ref f_law_cell) = true)
    {f_law_draws : Addr} {od_law_draws an_law_draws : Option Addr} {sl_law_draws : Array (Option Value)} {oc_law_draws kV_law_draws dc_law_draws pm_law_draws cd_law_draws ct_law_draws : Value}
    (a_law_draws : PySem.W.nsIn K mainGlobals "_law_draws" = some (some (.ref f_law_draws))) (l_law_draws : K.lookup f_law_draws = some ⟨oc_law_draws, od_law_draws, .func (PySem.W.fnOf "_law_draws" "_law_draws" (defArgs (topS 4)) (defBody (topS 4)) (defScope (topS 4)) .none kV_law_draws dc_law_draws pm_law_draws an_law_draws cd_law_draws ct_law_draws), sl_law_draws⟩) (c_law_draws : PySem.W.codeIn K cd_law_draws "_law_draws" = true) (k_law_draws : PySem.W.keepIn K (.ref f_law_draws) = true)
    {f_law_is_integer : Addr} {od_law_is_integer an_law_is_integer : Option Addr} {sl_law_is_integer : Array (Option Value)} {oc_law_is_integer kV_law_is_integer dc_law_is_integer pm_law_is_integer cd_law_is_integer ct_law_is_integer : Value}
    (a_law_is_integer : PySem.W.nsIn K mainGlobals "_law_is_integer" = some (some (.ref f_law_is_integer))) (l_law_is_integer : K.lookup f_law_is_integer = some ⟨oc_law_is_integer, od_law_is_integer, .func (PySem.W.fnOf "_law_is_integer" "_law_is_integer" (defArgs (topS 5)) (defBody (topS 5)) (defScope (topS 5)) .none kV_law_is_integer dc_law_is_integer pm_law_is_integer an_law_is_integer cd_law_is_integer ct_law_is_integer), sl_law_is_integer⟩) (c_law_is_integer : PySem.W.codeIn K cd_law_is_integer "_law_is_integer" = true) (k_law_is_integer : PySem.W.keepIn K (.ref f_law_is_integer) = true)
    {f_law_way : Addr} {od_law_way an_law_way : Option Addr} {sl_law_way : Array (Option Value)} {oc_law_way kV_law_way dc_law_way pm_law_way cd_law_way ct_law_way : Value}
    (a_law_way : PySem.W.nsIn K mainGlobals "_law_way" = some (some (.ref f_law_way))) (l_law_way : K.lookup f_law_way = some ⟨oc_law_way, od_law_way, .func (PySem.W.fnOf "_law_way" "_law_way" (defArgs (topS 6)) (defBody (topS 6)) (defScope (topS 6)) .none kV_law_way dc_law_way pm_law_way an_law_way cd_law_way ct_law_way), sl_law_way⟩) (c_law_way : PySem.W.codeIn K cd_law_way "_law_way" = true) (k_law_way : PySem.W.keepIn K (.ref f_law_way) = true)
    {f_law : Addr} {od_law an_law : Option Addr} {sl_law : Array (Option Value)} {oc_law kV_law dc_law pm_law cd_law ct_law : Value}
    (a_law : PySem.W.nsIn K mainGlobals "law" = some (some (.ref f_law))) (l_law : K.lookup f_law = some ⟨oc_law, od_law, .func (PySem.W.fnOf "law" "law" (defArgs (topS 7)) (defBody (topS 7)) (defScope (topS 7)) .none kV_law dc_law pm_law an_law cd_law ct_law), sl_law⟩) (c_law : PySem.W.codeIn K cd_law "law" = true) (k_law : PySem.W.keepIn K (.ref f_law) = true)
    (z_bool : PySem.W.nsIn K mainGlobals "bool" = some none)
    (z_int : PySem.W.nsIn K mainGlobals "int" = some none)
    (z_isinstance : PySem.W.nsIn K mainGlobals "isinstance" = some none)
    (z_len : PySem.W.nsIn K mainGlobals "len" = some none)
    (z_list : PySem.W.nsIn K mainGlobals "list" = some none)
    (z_min : PySem.W.nsIn K mainGlobals "min" = some none)
    (z_range : PySem.W.nsIn K mainGlobals "range" = some none)
    (z_tuple : PySem.W.nsIn K mainGlobals "tuple" = some none) :
    ∃ fd : FuncData, (∀ (s : Shared) (v : Value), BindsTo s fd ⟨[v], []⟩ [("script", v)]) ∧ ∀ base : Heap, K.In base → base.Ns mainGlobals mg → FnOk PySem.Challenge.rw_folio_k02_chosen_way.prog w K mg base CX0 2 fa fd ["script"] (sp_law K) := by
  have e := hfa.symm.trans (PySem.W.mg_of X G a_law)
  cases e
  have F_chosen := fun_mk (st := topS 1) l_chosen c_chosen k_chosen
  have B_chosen := F_chosen.binds (ps := ["row"]) fun _ _ _ _ _ _ us hl => match us, hl with | [_], _ => rfl
  have F_law_cell := fun_mk (st := topS 3) l_law_cell c_law_cell k_law_cell
  have B_law_cell := F_law_cell.binds (ps := ["script", "k"]) fun _ _ _ _ _ _ us hl => match us, hl with | [_, _], _ => rfl
  have F_law_draws := fun_mk (st := topS 4) l_law_draws c_law_draws k_law_draws
  have B_law_draws := F_law_draws.binds (ps := ["cell", "count"]) fun _ _ _ _ _ _ us hl => match us, hl with | [_, _], _ => rfl
  have F_law_is_integer := fun_mk (st := topS 5) l_law_is_integer c_law_is_integer k_law_is_integer
  have B_law_is_integer := F_law_is_integer.binds (ps := ["actual"]) fun _ _ _ _ _ _ us hl => match us, hl with | [_], _ => rfl
  have F_law_way := fun_mk (st := topS 6) l_law_way c_law_way k_law_way
  have B_law_way := F_law_way.binds (ps := ["draws"]) fun _ _ _ _ _ _ us hl => match us, hl with | [_], _ => rfl
  have F_law := fun_mk (st := topS 7) l_law c_law k_law
  have B_law := F_law.binds (ps := ["script"]) fun _ _ _ _ _ _ us hl => match us, hl with | [_], _ => rfl
  refine ⟨PySem.W.fnOf "law" "law" (defArgs (topS 7)) (defBody (topS 7)) (defScope (topS 7)) .none kV_law dc_law pm_law an_law cd_law ct_law, fun s v => .of_eq rfl, fun base _ _ => ?_⟩
  exact ok_law ⟨_, _, F_chosen, B_chosen, PySem.W.mg_of X G a_chosen, _, _, F_law_cell, B_law_cell, PySem.W.mg_of X G a_law_cell, _, _, F_law_draws, B_law_draws, PySem.W.mg_of X G a_law_draws, _, _, F_law_is_integer, B_law_is_integer, PySem.W.mg_of X G a_law_is_integer, _, _, F_law_way, B_law_way, PySem.W.mg_of X G a_law_way, _, _, F_law, B_law, PySem.W.mg_of X G a_law, PySem.W.mg_none_of X G z_bool, PySem.W.mg_none_of X G z_int, PySem.W.mg_none_of X G z_isinstance, PySem.W.mg_none_of X G z_len, PySem.W.mg_none_of X G z_list, PySem.W.mg_none_of X G z_min, PySem.W.mg_none_of X G z_range, PySem.W.mg_none_of X G z_tuple⟩
end My
open PySem PySem.W PyProof.Rows
set_option maxHeartbeats 0 in
theorem PySem.Challenge.cw_folio_k02_chosen_way_holds : PySem.Challenge.rw_folio_k02_chosen_way.Holds := by
  w_on; o_law; k_head; (case hw => w_witness2)
  k_fill
  refine L2.walk_of (l := PySem.Challenge.rw_folio_k02_chosen_way) (n := 63) (k := 2) (x := "script") (CX := fun _ => L2.CX0) (sp := fun w => My.sp_law _) rfl (by decide) rfl ⟨rfl, by decide, by decide⟩ (fun w h Y => PySem.W.kIn_of Y) ?F (fun _ _ a ns hl _ hS => Ly.law_sp hS True.intro (My.law_true ns hl)) (fun _ _ _ _ _ h => h)
  case F =>
    intro w mg fa h KX G hmg
    refine' My.all_mk KX G hmg ?a_chosen ?l_chosen ?c_chosen ?k_chosen ?a_law_cell ?l_law_cell ?c_law_cell ?k_law_cell ?a_law_draws ?l_law_draws ?c_law_draws ?k_law_draws ?a_law_is_integer ?l_law_is_integer ?c_law_is_integer ?k_law_is_integer ?a_law_way ?l_law_way ?c_law_way ?k_law_way ?a_law ?l_law ?c_law ?k_law ?z_bool ?z_int ?z_isinstance ?z_len ?z_list ?z_min ?z_range ?z_tuple
    (case a_chosen => k_is); (case l_chosen => k_is); (case c_chosen => k_is); (case k_chosen => k_is); (case a_law_cell => k_is); (case l_law_cell => k_is); (case c_law_cell => k_is); (case k_law_cell => k_is); (case a_law_draws => k_is); (case l_law_draws => k_is); (case c_law_draws => k_is); (case k_law_draws => k_is); (case a_law_is_integer => k_is); (case l_law_is_integer => k_is); (case c_law_is_integer => k_is); (case k_law_is_integer => k_is); (case a_law_way => k_is); (case l_law_way => k_is); (case c_law_way => k_is); (case k_law_way => k_is); (case a_law => k_is); (case l_law => k_is); (case c_law => k_is); (case k_law => k_is); (case z_bool => k_is); (case z_int => k_is); (case z_isinstance => k_is); (case z_len => k_is); (case z_list => k_is); (case z_min => k_is); (case z_range => k_is); (case z_tuple => k_is)
