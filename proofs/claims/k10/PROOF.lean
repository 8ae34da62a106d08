import PyProof.Rows.All
import Wide.All
import OpenK.AllK
import Wide.FinOn
import HandS.ForMost
import HandS.Evl
import HandS.IsInst
import HandS.EndBits
import HandS.Wide
import KE.DatumMoreOrd
import HandS.Walk
import HandS.StrMore
import PyProof.StrLawsFrom
import KE.IntTextLaws
import PyProof.Rows.RegStrFacts
import PyProof.Rows.StrCase
import PySem.Challenge.RW_folio_k10_levels
set_option Elab.async false
set_option linter.all false
set_option maxRecDepth 100000
set_option maxHeartbeats 4000000
set_option Elab.async false
namespace Ly
open PySem PySem.Spec PyProof.Rows L2 Evl
open PySem.W (Datum DatumOrd Tup T3 T4)

/-! ### data that is held, masks -/
mutual
theorem dp_mono {K : PySem.W.Frag} {H H' : Hp} (e : Ex H H') : ∀ {v : V} {d : PyData}, Dp K H v d → Dp K H' v d
  | _, _, .non => .non
  | _, _, .bl b => .bl b
  | _, _, .int i => .int i
  | _, _, .str x => .str x
  | _, _, .lst h a => .lst (ex_l e h) (dpa_mono e a)
  | _, _, .tup h a => .tup (ex_t e h) (dpa_mono e a)
theorem dpa_mono {K : PySem.W.Frag} {H H' : Hp} (e : Ex H H') : ∀ {vs : List V} {ds : List PyData}, DpAll K H vs ds → DpAll K H' vs ds
  | _, _, .nil => .nil
  | _, _, .cons a b => .cons (dp_mono e a) (dpa_mono e b)
end
theorem dpa_len {K : PySem.W.Frag} {H : Hp} : ∀ {vs : List V} {ds : List PyData}, DpAll K H vs ds → vs.length = ds.length
  | _, _, .nil => rfl
  | _, _, .cons _ b => by rw [List.length_cons, List.length_cons, dpa_len b]
theorem dpa_at {K : PySem.W.Frag} {H : Hp} : ∀ {vs : List V} {ds : List PyData} {i : Nat} {d : PyData}, DpAll K H vs ds → ds[i]? = some d → ∃ v, vs[i]? = some v ∧ Dp K H v d
  | _, _, i, d, .nil, e => by simp at e
  | _, _, 0, d, .cons a b, e => by simp at e; subst e; exact ⟨_, rfl, a⟩
  | _, _, i + 1, d, .cons a b, e => by
    obtain ⟨v, h1, h2⟩ := dpa_at (i := i) (d := d) b (by simpa using e)
    exact ⟨v, by simpa using h1, h2⟩
theorem dpa_app {K : PySem.W.Frag} {H : Hp} : ∀ {vs ws : List V} {ds es : List PyData}, DpAll K H vs ds → DpAll K H ws es → DpAll K H (vs ++ ws) (ds ++ es)
  | _, _, _, _, .nil, h => h
  | _, _, _, _, .cons a b, h => .cons a (dpa_app b h)

variable {K : PySem.W.Frag}
/-- v holds x -/
def Dt {α : Type} [DecidableEq α] [Datum α] (K : PySem.W.Frag) (H : Hp) (v : V) (x : α) : Prop := Dp K H v (Datum.toD x)
def Dts {α : Type} [DecidableEq α] [Datum α] (K : PySem.W.Frag) (H : Hp) (vs : List V) (xs : List α) : Prop := DpAll K H vs (xs.map Datum.toD)
/-- the heap without the objects of M -/
def msk (M : List Addr) (H : Hp) : Hp := fun a => if a ∈ M then none else H a
def MOk (M : List Addr) (H : Hp) : Prop := ∀ l ∈ M, H l ≠ none
section
variable {α : Type} [DecidableEq α] [Datum α] {H H1 H2 : Hp} {M N : List Addr} {v : V} {x : α}
theorem msk_in {a : Addr} (h : a ∈ M) : msk M H a = none := by unfold msk; rw [if_pos h]
theorem msk_out {a : Addr} (h : a ∉ M) : msk M H a = H a := by unfold msk; rw [if_neg h]
theorem msk_nil : msk [] H = H := by funext a; unfold msk; simp
theorem msk_ex (e : Ex H H1) : Ex (msk M H) (msk M H1) := fun a o h => by
  by_cases q : a ∈ M
  · rw [msk_in q] at h; cases h
  · rw [msk_out q] at h ⊢; exact e a o h
theorem msk_le : Ex (msk M H) H := fun a o h => by
  by_cases q : a ∈ M
  · rw [msk_in q] at h; cases h
  · rw [msk_out q] at h; exact h
theorem msk_sub (s : ∀ a ∈ N, a ∈ M) : Ex (msk M H) (msk N H) := fun a o h => by
  by_cases q : a ∈ M
  · rw [msk_in q] at h; cases h
  · rw [msk_out q] at h
    rw [msk_out fun z => q (s a z)]
    exact h
theorem msk_upd {l : Addr} {o : HO} (h : l ∈ M) : msk M (upd H l o) = msk M H := by
  funext a
  by_cases q : a ∈ M
  · rw [msk_in q, msk_in q]
  · rw [msk_out q, msk_out q, upd_ne (fun z => q (by rw [z]; exact h))]
theorem msk_new {p : Addr} {o : HO} (h : H p = none) : Ex (msk M H) (msk (p :: M) (upd H p o)) := fun a u e => by
  by_cases q : a ∈ M
  · rw [msk_in q] at e; cases e
  · rw [msk_out q] at e
    have n : a ≠ p := ne_of_none e h
    rw [msk_out (by simp [n, q]), upd_ne n]
    exact e
theorem MOk.ex (e : Ex H H1) (m : MOk M H) : MOk M H1 := fun l hl z => by
  have := m l hl
  cases q : H l with
  | none => exact this q
  | some o => rw [e l o q] at z; cases z
theorem MOk.nin {p : Addr} (m : MOk M H) (h : H p = none) : p ∉ M := fun z => m p z h
theorem msk_at {p : Addr} {o : HO} (m : MOk M H) (h : H p = none) : msk M (upd H p o) p = some o := by
  rw [msk_out (m.nin h), upd_same]
theorem Dt.mono (e : Ex H H1) (h : Dt K H v x) : Dt K H1 v x := dp_mono e h
theorem Dts.mono {vs : List V} {xs : List α} (e : Ex H H1) (h : Dts K H vs xs) : Dts K H1 vs xs := dpa_mono e h
theorem Dts.len {vs : List V} {xs : List α} (h : Dts K H vs xs) : vs.length = xs.length := by
  have := dpa_len h
  rwa [List.length_map] at this
theorem Dts.nil : Dts K H [] ([] : List α) := DpAll.nil
theorem Dts.cons {vs : List V} {xs : List α} (a : Dt K H v x) (b : Dts K H vs xs) : Dts K H (v :: vs) (x :: xs) := DpAll.cons a b
theorem Dts.app {vs ws : List V} {xs ys : List α} (a : Dts K H vs xs) (b : Dts K H ws ys) : Dts K H (vs ++ ws) (xs ++ ys) := by
  unfold Dts
  rw [List.map_append]
  exact dpa_app a b
theorem Dts.snoc {vs : List V} {xs : List α} (b : Dts K H vs xs) (a : Dt K H v x) : Dts K H (vs ++ [v]) (xs ++ [x]) := b.app (DpAll.cons a DpAll.nil)
theorem Dts.at {vs : List V} {xs : List α} {i : Nat} {x : α} (h : Dts K H vs xs) (e : xs[i]? = some x) : ∃ v, vs[i]? = some v ∧ Dt K H v x :=
  dpa_at h (by rw [List.getElem?_map, e]; rfl)
theorem Dt.int {i : Int} (h : Dt K H v i) : v = .int i := by
  cases (show Dp K H v (.int i) from h); rfl
theorem Dt.ofInt (i : Int) : Dt K H (.int i) i := Dp.int i
theorem Dt.bool {i : Bool} (h : Dt K H v i) : v = .bl i := by
  cases (show Dp K H v (.bool i) from h); rfl
theorem Dt.ofBool (i : Bool) : Dt K H (.bl i) i := Dp.bl i
theorem Dt.str {i : Str} (h : Dt K H v i) : v = .str i := by
  cases (show Dp K H v (.str i) from h); rfl
theorem Dt.ofStr (i : Str) : Dt K H (.str i) i := Dp.str i
theorem Dt.unit {i : Unit} (h : Dt K H v i) : v = .non := by
  cases (show Dp K H v .none from h); rfl
theorem Dt.list {xs : List α} (h : Dt K H v xs) : ∃ a vs, v = .ref a ∧ SqL K H a vs ∧ Dts K H vs xs := by
  cases (show Dp K H v (.list _) from h) with
  | lst a b => exact ⟨_, _, rfl, a, b⟩
theorem Dt.ofList {a : Addr} {vs : List V} {xs : List α} (h : SqL K H a vs) (d : Dts K H vs xs) : Dt K H (.ref a) xs := Dp.lst h d
theorem Dt.tupv {xs : Tup α} (h : Dt K H v xs) : ∃ a vs, v = .ref a ∧ SqT K H a vs ∧ Dts K H vs xs.items := by
  cases (show Dp K H v (.tuple _) from h) with
  | tup a b => exact ⟨_, _, rfl, a, b⟩
theorem Dt.ofTupv {a : Addr} {vs : List V} {xs : Tup α} (h : SqT K H a vs) (d : Dts K H vs xs.items) : Dt K H (.ref a) xs := Dp.tup h d
end
section
variable {α β γ δ : Type} [DecidableEq α] [Datum α] [DecidableEq β] [Datum β] [DecidableEq γ] [Datum γ] [DecidableEq δ] [Datum δ] {H H1 H2 : Hp} {v : V}
theorem Dt.pair {p : α × β} (h : Dt K H v p) : ∃ l a b, v = .ref l ∧ SqT K H l [a, b] ∧ Dt K H a p.1 ∧ Dt K H b p.2 := by
  cases (show Dp K H v (.tuple [_, _]) from h) with
  | tup s b =>
    cases b with
    | cons b1 b =>
      cases b with
      | cons b2 b =>
        cases b
        exact ⟨_, _, _, rfl, s, b1, b2⟩
theorem Dt.ofPair {l : Addr} {a b : V} {x : α} {y : β} (s : SqT K H l [a, b]) (ha : Dt K H a x) (hb : Dt K H b y) : Dt K H (.ref l) (x, y) := Dp.tup s (.cons ha (.cons hb .nil))
theorem Dt.t3 {p : T3 α β γ} (h : Dt K H v p) : ∃ l a b c, v = .ref l ∧ SqT K H l [a, b, c] ∧ Dt K H a p.a ∧ Dt K H b p.b ∧ Dt K H c p.c := by
  cases (show Dp K H v (.tuple [_, _, _]) from h) with
  | tup s b =>
    cases b with
    | cons b1 b =>
      cases b with
      | cons b2 b =>
        cases b with
        | cons b3 b =>
          cases b
          exact ⟨_, _, _, _, rfl, s, b1, b2, b3⟩
theorem Dt.ofT3 {l : Addr} {a b c : V} {x : α} {y : β} {z : γ} (s : SqT K H l [a, b, c]) (ha : Dt K H a x) (hb : Dt K H b y) (hc : Dt K H c z) : Dt K H (.ref l) (T3.mk x y z) := Dp.tup s (.cons ha (.cons hb (.cons hc .nil)))
theorem Dt.t4 {p : T4 α β γ δ} (h : Dt K H v p) : ∃ l a b c d, v = .ref l ∧ SqT K H l [a, b, c, d] ∧ Dt K H a p.a ∧ Dt K H b p.b ∧ Dt K H c p.c ∧ Dt K H d p.d := by
  cases (show Dp K H v (.tuple [_, _, _, _]) from h) with
  | tup s b =>
    cases b with
    | cons b1 b =>
      cases b with
      | cons b2 b =>
        cases b with
        | cons b3 b =>
          cases b with
          | cons b4 b =>
            cases b
            exact ⟨_, _, _, _, _, rfl, s, b1, b2, b3, b4⟩
theorem Dt.ofT4 {l : Addr} {a b c d : V} {x : α} {y : β} {z : γ} {u : δ} (s : SqT K H l [a, b, c, d]) (ha : Dt K H a x) (hb : Dt K H b y) (hc : Dt K H c z) (hd : Dt K H d u) : Dt K H (.ref l) (T4.mk x y z u) := Dp.tup s (.cons ha (.cons hb (.cons hc (.cons hd .nil))))
end
end Ly

namespace Ly
open PySem PySem.Spec PyProof.Rows L2 Evl
open PySem.W (Datum DatumOrd Tup T3 T4)

/-! ### what an expression gives -/
section
variable {K : PySem.W.Frag} {M : List Addr} {σ : L2.St} {H H' : Hp} {te ta tb tc td : TE} {tt tu : TT}
variable {α β γ δ ε : Type} [DecidableEq α] [Datum α] [DecidableEq β] [Datum β] [DecidableEq γ] [Datum γ] [DecidableEq δ] [Datum δ] [DecidableEq ε] [Datum ε]

def Hv (K : PySem.W.Frag) (M : List Addr) (te : TE) (σ : L2.St) (H : Hp) (x : α) : Prop :=
  ∀ H1, Ex H H1 → MOk M H1 → ∀ Q : VK, (∀ v H2, Ex H1 H2 → Dt K (msk M H2) v x → Q v H2) → te σ H1 Q
def HT (M : List Addr) (tt : TT) (σ : L2.St) (H : Hp) (b : Bool) : Prop :=
  ∀ H1, Ex H H1 → MOk M H1 → ∀ Q : Bool → Hp → Prop, (∀ H2, Ex H1 H2 → Q b H2) → tt σ H1 Q
/-- arguments: P of their values -/
def HA (M : List Addr) (ta : TA) (σ : L2.St) (H : Hp) (P : List V → Hp → Prop) : Prop :=
  ∀ H1, Ex H H1 → MOk M H1 → ∀ Q : List V → Hp → Prop, (∀ vs H2, Ex H1 H2 → P vs H2 → Q vs H2) → ta σ H1 Q
theorem Hv.mono {x : α} (e : Ex H H') (h : Hv K M te σ H x) : Hv K M te σ H' x := fun H1 a m Q q => h H1 (e.trans a) m Q q
theorem HT.mono {b : Bool} (e : Ex H H') (h : HT M tt σ H b) : HT M tt σ H' b := fun H1 a m Q q => h H1 (e.trans a) m Q q
theorem Hv.is {x y : α} (h : Hv K M te σ H x) (e : x = y) : Hv K M te σ H y := by rw [← e]; exact h
theorem HT.is {x y : Bool} (h : HT M tt σ H x) (e : x = y) : HT M tt σ H y := by rw [← e]; exact h
/-- a value that is told -/
theorem hv_ev {v : V} {x : α} (h : Ev te σ H v) (d : Dt K (msk M H) v x) : Hv K M te σ H x := fun H1 e m Q q =>
  h H1 e Q fun H2 e2 => q v H2 e2 (d.mono (msk_ex (e.trans e2)))
theorem hv_evI {x : Int} (h : Ev te σ H (.int x)) : Hv K M te σ H x := hv_ev h (Dt.ofInt x)
theorem hv_evB {x : Bool} (h : Ev te σ H (.bl x)) : Hv K M te σ H x := hv_ev h (Dt.ofBool x)
theorem hv_evS {x : Str} (h : Ev te σ H (.str x)) : Hv K M te σ H x := hv_ev h (Dt.ofStr x)
theorem ev_hvI {x : Int} (h : Hv K M te σ H x) (m : MOk M H) : Ev te σ H (.int x) := fun H1 e Q q =>
  h H1 e (m.ex e) Q fun v H2 e2 d => by rw [d.int]; exact q H2 e2
theorem ev_hvB {x : Bool} (h : Hv K M te σ H x) (m : MOk M H) : Ev te σ H (.bl x) := fun H1 e Q q =>
  h H1 e (m.ex e) Q fun v H2 e2 d => by rw [d.bool]; exact q H2 e2
theorem ev_hvS {x : Str} (h : Hv K M te σ H x) (m : MOk M H) : Ev te σ H (.str x) := fun H1 e Q q =>
  h H1 e (m.ex e) Q fun v H2 e2 d => by rw [d.str]; exact q H2 e2
theorem hv_var {i : Nat} {v : V} {x : α} (h : σ[i]? = some (some v)) (d : Dt K (msk M H) v x) : Hv K M (tVar i) σ H x := hv_ev (ev_var h) d
theorem hv_vI {i : Nat} {x : Int} (h : σ[i]? = some (some (.int x))) : Hv K M (tVar i) σ H x := hv_evI (ev_var h)
theorem hv_vB {i : Nat} {x : Bool} (h : σ[i]? = some (some (.bl x))) : Hv K M (tVar i) σ H x := hv_evB (ev_var h)
theorem hv_vS {i : Nat} {x : Str} (h : σ[i]? = some (some (.str x))) : Hv K M (tVar i) σ H x := hv_evS (ev_var h)
theorem hv_int (n : Int) : Hv K M (tC (.int n)) σ H n := hv_evI ev_c
theorem hv_bl (n : Bool) : Hv K M (tC (.bl n)) σ H n := hv_evB ev_c
theorem hv_str (n : Str) : Hv K M (tC (.str n)) σ H n := hv_evS ev_c
theorem hv_none [PySem.W.SomeDatum α] : Hv K M (tC .non) σ H (none : Option α) := hv_ev ev_c Dp.non
theorem hv_some [PySem.W.SomeDatum α] {x : α} (h : Hv K M te σ H x) : Hv K M te σ H (some x) := fun H1 e m Q q => h H1 e m Q fun v H2 e2 d => q v H2 e2 d

/-! ### whole numbers -/
theorem hv_op0 {g : Int → Int → Int} {i j : Int} (ha : Hv K M ta σ H i) (hb : Hv K M tb σ H j) : Hv K M (tOp (rI0 fun i j => .int (g i j)) ta tb) σ H (g i j) := fun H1 e m Q q =>
  ha H1 e m _ fun v H2 e2 d => hb H2 (e.trans e2) (m.ex e2) _ fun u H3 e3 d' => ⟨i, j, d.int, d'.int, q _ H3 (e2.trans e3) (Dt.ofInt _)⟩
theorem hv_opC {C : Int → Int → Prop} {g : Int → Int → Int} {i j : Int} (ha : Hv K M ta σ H i) (hb : Hv K M tb σ H j) (c : C i j) : Hv K M (tOp (rI C fun i j => .int (g i j)) ta tb) σ H (g i j) := fun H1 e m Q q =>
  ha H1 e m _ fun v H2 e2 d => hb H2 (e.trans e2) (m.ex e2) _ fun u H3 e3 d' => ⟨i, j, d.int, d'.int, c, q _ H3 (e2.trans e3) (Dt.ofInt _)⟩
theorem hv_cmp0 {g : Int → Int → Bool} {i j : Int} (ha : Hv K M ta σ H i) (hb : Hv K M tb σ H j) : Hv K M (tOp (rI0 fun i j => .bl (g i j)) ta tb) σ H (g i j) := fun H1 e m Q q =>
  ha H1 e m _ fun v H2 e2 d => hb H2 (e.trans e2) (m.ex e2) _ fun u H3 e3 d' => ⟨i, j, d.int, d'.int, q _ H3 (e2.trans e3) (Dt.ofBool _)⟩
theorem hv_neg {i : Int} (ha : Hv K M ta σ H i) : Hv K M (tUn (rU fun i => .int (-i)) ta) σ H (-i) := fun H1 e m Q q =>
  ha H1 e m _ fun v H2 e2 d => ⟨i, d.int, q _ H2 e2 (Dt.ofInt _)⟩
theorem hv_lt {i j : Int} (ha : Hv K M ta σ H i) (hb : Hv K M tb σ H j) : Hv K M (tOp (rI0 fun i j => .bl (decide (i < j))) ta tb) σ H (decide (i < j)) := hv_cmp0 (g := fun i j => decide (i < j)) ha hb
theorem hv_le {i j : Int} (ha : Hv K M ta σ H i) (hb : Hv K M tb σ H j) : Hv K M (tOp (rI0 fun i j => .bl (decide (i ≤ j))) ta tb) σ H (decide (i ≤ j)) := hv_cmp0 (g := fun i j => decide (i ≤ j)) ha hb
theorem hv_gt {i j : Int} (ha : Hv K M ta σ H i) (hb : Hv K M tb σ H j) : Hv K M (tOp (rI0 fun i j => .bl (decide (j < i))) ta tb) σ H (decide (j < i)) := hv_cmp0 (g := fun i j => decide (j < i)) ha hb
theorem hv_ge {i j : Int} (ha : Hv K M ta σ H i) (hb : Hv K M tb σ H j) : Hv K M (tOp (rI0 fun i j => .bl (decide (j ≤ i))) ta tb) σ H (decide (j ≤ i)) := hv_cmp0 (g := fun i j => decide (j ≤ i)) ha hb
theorem hv_add {i j : Int} (ha : Hv K M ta σ H i) (hb : Hv K M tb σ H j) : Hv K M (tOp (rI0 fun i j => .int (i + j)) ta tb) σ H (i + j) := hv_op0 (g := fun i j => i + j) ha hb
theorem hv_sub {i j : Int} (ha : Hv K M ta σ H i) (hb : Hv K M tb σ H j) : Hv K M (tOp (rI0 fun i j => .int (i - j)) ta tb) σ H (i - j) := hv_op0 (g := fun i j => i - j) ha hb
theorem hv_mul {i j : Int} (ha : Hv K M ta σ H i) (hb : Hv K M tb σ H j) (c : CMul i j) : Hv K M (tOp (rI CMul fun i j => .int (i * j)) ta tb) σ H (i * j) := hv_opC (g := fun i j => i * j) ha hb c
theorem hv_mod {i j : Int} (ha : Hv K M ta σ H i) (hb : Hv K M tb σ H j) (c : 0 < j) : Hv K M (tOp (rI (fun _ j => 0 < j) fun i j => .int (i % j)) ta tb) σ H (i % j) := hv_opC (C := fun _ j => 0 < j) (g := fun i j => i % j) ha hb c
theorem hv_div {i j : Int} (ha : Hv K M ta σ H i) (hb : Hv K M tb σ H j) (c : CDivW i j) : Hv K M (tOp (rI CDivW fun i j => .int (i / j)) ta tb) σ H (i / j) := hv_opC (g := fun i j => i / j) ha hb c
theorem hv_pow {i j : Int} (ha : Hv K M ta σ H i) (hb : Hv K M tb σ H j) (c : CPow i j) : Hv K M (tOp (rI CPow fun i j => .int (i ^ j.toNat)) ta tb) σ H (i ^ j.toNat) := hv_opC (g := fun i j => i ^ j.toNat) ha hb c
theorem hv_eqI {i j : Int} (ha : Hv K M ta σ H i) (hb : Hv K M tb σ H j) : Hv K M (tOp rEq ta tb) σ H (decide (i = j)) := fun H1 e m Q q =>
  ha H1 e m _ fun v H2 e2 d => hb H2 (e.trans e2) (m.ex e2) _ fun u H3 e3 d' => by
    rw [d.int, d'.int]
    exact ⟨rfl, q _ H3 (e2.trans e3) (by rw [show decide (V.int i = V.int j) = decide (i = j) from decide_eq_decide.mpr ⟨V.int.inj, fun z => by rw [z]⟩]; exact Dt.ofBool _)⟩
theorem hv_neI {i j : Int} (ha : Hv K M ta σ H i) (hb : Hv K M tb σ H j) : Hv K M (tOp rNe ta tb) σ H (!decide (i = j)) := fun H1 e m Q q =>
  ha H1 e m _ fun v H2 e2 d => hb H2 (e.trans e2) (m.ex e2) _ fun u H3 e3 d' => by
    rw [d.int, d'.int]
    exact ⟨rfl, q _ H3 (e2.trans e3) (by rw [show decide (V.int i = V.int j) = decide (i = j) from decide_eq_decide.mpr ⟨V.int.inj, fun z => by rw [z]⟩]; exact Dt.ofBool _)⟩
theorem hv_eqS {i j : Str} (ha : Hv K M ta σ H i) (hb : Hv K M tb σ H j) : Hv K M (tOp rEq ta tb) σ H (decide (i = j)) := fun H1 e m Q q =>
  ha H1 e m _ fun v H2 e2 d => hb H2 (e.trans e2) (m.ex e2) _ fun u H3 e3 d' => by
    rw [d.str, d'.str]
    exact ⟨rfl, q _ H3 (e2.trans e3) (by rw [show decide (V.str i = V.str j) = decide (i = j) from decide_eq_decide.mpr ⟨V.str.inj, fun z => by rw [z]⟩]; exact Dt.ofBool _)⟩
theorem hv_neS {i j : Str} (ha : Hv K M ta σ H i) (hb : Hv K M tb σ H j) : Hv K M (tOp rNe ta tb) σ H (!decide (i = j)) := fun H1 e m Q q =>
  ha H1 e m _ fun v H2 e2 d => hb H2 (e.trans e2) (m.ex e2) _ fun u H3 e3 d' => by
    rw [d.str, d'.str]
    exact ⟨rfl, q _ H3 (e2.trans e3) (by rw [show decide (V.str i = V.str j) = decide (i = j) from decide_eq_decide.mpr ⟨V.str.inj, fun z => by rw [z]⟩]; exact Dt.ofBool _)⟩
theorem hv_eqB {i j : Bool} (ha : Hv K M ta σ H i) (hb : Hv K M tb σ H j) : Hv K M (tOp rEq ta tb) σ H (decide (i = j)) := fun H1 e m Q q =>
  ha H1 e m _ fun v H2 e2 d => hb H2 (e.trans e2) (m.ex e2) _ fun u H3 e3 d' => by
    rw [d.bool, d'.bool]
    exact ⟨rfl, q _ H3 (e2.trans e3) (by rw [show decide (V.bl i = V.bl j) = decide (i = j) from decide_eq_decide.mpr ⟨V.bl.inj, fun z => by rw [z]⟩]; exact Dt.ofBool _)⟩

/-! ### tests -/
theorem ht_val {b : Bool} (h : Hv K M te σ H b) : HT M (tTest te) σ H b := fun H1 e m Q q => h H1 e m _ fun v H2 e2 d => ⟨b, d.bool, q H2 e2⟩
theorem ht_B {b : Bool} (h : Hv K M te σ H b) : HT M (tB te) σ H b := fun H1 e m Q q => h H1 e m _ fun v H2 e2 d => ⟨b, d.bool, q H2 e2⟩
theorem ht_and {a b : Bool} (h1 : HT M tt σ H a) (h2 : a = true → HT M tu σ H b) : HT M (tAnd tt tu) σ H (a && b) := fun H1 e m Q q => h1 H1 e m _ fun H2 e2 => by
  cases a with
  | true =>
    show tu σ H2 Q
    exact h2 rfl H2 (e.trans e2) (m.ex e2) Q fun H3 e3 => q H3 (e2.trans e3)
  | false =>
    show Q false H2
    exact q H2 e2
theorem ht_or {a b : Bool} (h1 : HT M tt σ H a) (h2 : a = false → HT M tu σ H b) : HT M (tOr tt tu) σ H (a || b) := fun H1 e m Q q => h1 H1 e m _ fun H2 e2 => by
  cases a with
  | true =>
    show Q true H2
    exact q H2 e2
  | false =>
    show tu σ H2 Q
    exact h2 rfl H2 (e.trans e2) (m.ex e2) Q fun H3 e3 => q H3 (e2.trans e3)
theorem ht_not {a : Bool} (h1 : HT M tt σ H a) : HT M (tNot tt) σ H (!a) := fun H1 e m _ q => h1 H1 e m _ fun H2 e2 => q H2 e2
theorem hv_and {a b : Bool} (h1 : Hv K M ta σ H a) (h2 : a = true → Hv K M tb σ H b) : Hv K M (tAndV ta tb) σ H (a && b) := fun H1 e m Q q => h1 H1 e m _ fun v H2 e2 d => ⟨a, d.bool, by
  cases a with
  | true =>
    show tb σ H2 Q
    exact h2 rfl H2 (e.trans e2) (m.ex e2) Q fun v H3 e3 => q v H3 (e2.trans e3)
  | false =>
    show Q (.bl false) H2
    exact q _ H2 e2 (Dt.ofBool _)⟩
theorem hv_or {a b : Bool} (h1 : Hv K M ta σ H a) (h2 : a = false → Hv K M tb σ H b) : Hv K M (tOrV ta tb) σ H (a || b) := fun H1 e m Q q => h1 H1 e m _ fun v H2 e2 d => ⟨a, d.bool, by
  cases a with
  | true =>
    show Q (.bl true) H2
    exact q _ H2 e2 (Dt.ofBool _)
  | false =>
    show tb σ H2 Q
    exact h2 rfl H2 (e.trans e2) (m.ex e2) Q fun v H3 e3 => q v H3 (e2.trans e3)⟩
theorem hv_not {a : Bool} (h1 : Hv K M ta σ H a) : Hv K M (tNotV ta) σ H (!a) := fun H1 e m _ q => h1 H1 e m _ fun v H2 e2 d => ⟨a, d.bool, q _ H2 e2 (Dt.ofBool _)⟩
theorem hv_ite {b : Bool} {x y : α} (h : HT M tt σ H b) (h1 : b = true → Hv K M ta σ H x) (h2 : b = false → Hv K M tb σ H y) : Hv K M (tIf tt ta tb) σ H (if b = true then x else y) := fun H1 e m Q q => h H1 e m _ fun H2 e2 => by
  cases b with
  | true =>
    show ta σ H2 Q
    exact h1 rfl H2 (e.trans e2) (m.ex e2) Q fun v H3 e3 => q v H3 (e2.trans e3)
  | false =>
    show tb σ H2 Q
    exact h2 rfl H2 (e.trans e2) (m.ex e2) Q fun v H3 e3 => q v H3 (e2.trans e3)

/-! ### tuples and lists that are written -/
theorem ha_nil : HA M tNil σ H (fun vs _ => vs = []) := fun H1 e m Q q => q [] H1 (Ex.refl H1) rfl
theorem ha_cons {tr : TA} {x : α} {P : List V → Hp → Prop} (h : Hv K M te σ H x) (hr : HA M tr σ H P) : HA M (tCons te tr) σ H (fun vs H => ∃ v r, vs = v :: r ∧ Dt K (msk M H) v x ∧ P r H) := fun H1 e m Q q =>
  h H1 e m _ fun v H2 e2 d => hr H2 (e.trans e2) (m.ex e2) _ fun vs H3 e3 p => q _ H3 (e2.trans e3) ⟨v, vs, rfl, d.mono (msk_ex e3), p⟩
/-- an argument whose value is told -/
theorem ha_consV {tr : TA} {v : V} {P : List V → Hp → Prop} (h : Ev te σ H v) (hr : HA M tr σ H P) : HA M (tCons te tr) σ H (fun vs H => ∃ r, vs = v :: r ∧ P r H) := fun H1 e m Q q =>
  h H1 e _ fun H2 e2 => hr H2 (e.trans e2) (m.ex e2) _ fun vs H3 e3 p => q _ H3 (e2.trans e3) ⟨vs, rfl, p⟩
theorem hv_tup2 {x : α} {y : β} (ha : Hv K M ta σ H x) (hb : Hv K M tb σ H y) : Hv K M (tTup (tCons ta (tCons tb tNil))) σ H (x, y) := fun H1 e m Q q =>
  ha H1 e m _ fun v H2 e2 d => hb H2 (e.trans e2) (m.ex e2) _ fun u H3 e3 d' => ⟨sz_of (by show 2 ≤ 100000; decide), fun p hp => by
    have m3 : MOk M H3 := m.ex (e2.trans e3)
    have e4 : Ex H3 (upd H3 p (.tup [v, u])) := Ex.new hp
    exact q _ _ ((e2.trans e3).trans e4) (Dt.ofPair (SqT.of (msk_at m3 hp)) (d.mono (msk_ex (e3.trans e4))) (d'.mono (msk_ex e4)))⟩
theorem hv_tup3 {x : α} {y : β} {z : γ} (ha : Hv K M ta σ H x) (hb : Hv K M tb σ H y) (hc : Hv K M tc σ H z) : Hv K M (tTup (tCons ta (tCons tb (tCons tc tNil)))) σ H (T3.mk x y z) := fun H1 e m Q q =>
  ha H1 e m _ fun v H2 e2 d => hb H2 (e.trans e2) (m.ex e2) _ fun u H3 e3 d' => hc H3 ((e.trans e2).trans e3) ((m.ex e2).ex e3) _ fun w H4 e4 d'' => ⟨sz_of (by show 3 ≤ 100000; decide), fun p hp => by
    have m4 : MOk M H4 := m.ex ((e2.trans e3).trans e4)
    have e5 : Ex H4 (upd H4 p (.tup [v, u, w])) := Ex.new hp
    exact q _ _ (((e2.trans e3).trans e4).trans e5) (Dt.ofT3 (SqT.of (msk_at m4 hp)) (d.mono (msk_ex ((e3.trans e4).trans e5))) (d'.mono (msk_ex (e4.trans e5))) (d''.mono (msk_ex e5)))⟩
theorem hv_tup4 {x : α} {y : β} {z : γ} {w : δ} (ha : Hv K M ta σ H x) (hb : Hv K M tb σ H y) (hc : Hv K M tc σ H z) (hd : Hv K M td σ H w) : Hv K M (tTup (tCons ta (tCons tb (tCons tc (tCons td tNil))))) σ H (T4.mk x y z w) := fun H1 e m Q q =>
  ha H1 e m _ fun v H2 e2 d => hb H2 (e.trans e2) (m.ex e2) _ fun u H3 e3 d' => hc H3 ((e.trans e2).trans e3) ((m.ex e2).ex e3) _ fun w H4 e4 d'' => hd H4 (((e.trans e2).trans e3).trans e4) (((m.ex e2).ex e3).ex e4) _ fun r H5 e5 d3 => ⟨sz_of (by show 4 ≤ 100000; decide), fun p hp => by
    have m4 : MOk M H5 := m.ex (((e2.trans e3).trans e4).trans e5)
    have e6 : Ex H5 (upd H5 p (.tup [v, u, w, r])) := Ex.new hp
    exact q _ _ ((((e2.trans e3).trans e4).trans e5).trans e6) (Dt.ofT4 (SqT.of (msk_at m4 hp)) (d.mono (msk_ex (((e3.trans e4).trans e5).trans e6))) (d'.mono (msk_ex ((e4.trans e5).trans e6))) (d''.mono (msk_ex (e5.trans e6))) (d3.mono (msk_ex e6)))⟩
/-- items of one type -/
def HAs (K : PySem.W.Frag) (M : List Addr) (ta : TA) (σ : L2.St) (H : Hp) (xs : List α) : Prop := HA M ta σ H (fun vs H => Dts K (msk M H) vs xs)
theorem has_nil : HAs K M tNil σ H ([] : List α) := fun H1 e m Q q => q [] H1 (Ex.refl H1) Dts.nil
theorem has_cons {tr : TA} {x : α} {xs : List α} (h : Hv K M te σ H x) (hr : HAs K M tr σ H xs) : HAs K M (tCons te tr) σ H (x :: xs) := fun H1 e m Q q =>
  h H1 e m _ fun v H2 e2 d => hr H2 (e.trans e2) (m.ex e2) _ fun vs H3 e3 p => q _ H3 (e2.trans e3) (Dts.cons (d.mono (msk_ex e3)) p)
theorem hv_lst {tr : TA} {xs : List α} (h : HAs K M tr σ H xs) (hl : xs.length ≤ 100000) : Hv K M (tLst tr) σ H xs := fun H1 e m Q q =>
  h H1 e m _ fun vs H2 e2 d => ⟨sz_of (by rw [d.len]; exact hl), fun p hp => by
    have e3 : Ex H2 (upd H2 p (.lst vs)) := Ex.new hp
    exact q _ _ (e2.trans e3) (Dt.ofList (SqL.of (msk_at (m.ex e2) hp)) (d.mono (msk_ex e3)))⟩
theorem hv_tupv {tr : TA} {xs : List α} (h : HAs K M tr σ H xs) (hl : xs.length ≤ 100000) : Hv K M (tTup tr) σ H (Tup.mk xs) := fun H1 e m Q q =>
  h H1 e m _ fun vs H2 e2 d => ⟨sz_of (by rw [d.len]; exact hl), fun p hp => by
    have e3 : Ex H2 (upd H2 p (.tup vs)) := Ex.new hp
    exact q _ _ (e2.trans e3) (Dt.ofTupv (SqT.of (msk_at (m.ex e2) hp)) (d.mono (msk_ex e3)))⟩

/-! ### items -/
theorem hv_ixL {xs : List α} {i : Int} {x : α} (ha : Hv K M ta σ H xs) (hb : Hv K M tb σ H i) (h0 : 0 ≤ i) (hx : xs[i.toNat]? = some x) : Hv K M (tOp (rIxL K) ta tb) σ H x := fun H1 e m Q q =>
  ha H1 e m _ fun v H2 e2 d => hb H2 (e.trans e2) (m.ex e2) _ fun u H3 e3 d' => by
    obtain ⟨a, vs, rfl, s, ds⟩ := d.list
    obtain ⟨w, h1, h2⟩ := ds.at hx
    exact ⟨a, vs, i, w, rfl, d'.int, ex_l (msk_le.trans e3) s, at_of (Int.toNat_of_nonneg h0).symm h1, q w H3 (e2.trans e3) (h2.mono (msk_ex e3))⟩
theorem hv_ixV {xs : Tup α} {i : Int} {x : α} (ha : Hv K M ta σ H xs) (hb : Hv K M tb σ H i) (h0 : 0 ≤ i) (hx : xs.items[i.toNat]? = some x) : Hv K M (tOp (rIxT K) ta tb) σ H x := fun H1 e m Q q =>
  ha H1 e m _ fun v H2 e2 d => hb H2 (e.trans e2) (m.ex e2) _ fun u H3 e3 d' => by
    obtain ⟨a, vs, rfl, s, ds⟩ := d.tupv
    obtain ⟨w, h1, h2⟩ := ds.at hx
    exact ⟨a, vs, i, w, rfl, d'.int, ex_t (msk_le.trans e3) s, at_of (Int.toNat_of_nonneg h0).symm h1, q w H3 (e2.trans e3) (h2.mono (msk_ex e3))⟩
theorem hv_p0 {p : α × β} (ha : Hv K M ta σ H p) : Hv K M (tOp (rIxT K) ta (tC (.int 0))) σ H p.1 := fun H1 e m Q q =>
  ha H1 e m _ fun v H2 e2 d => by
    obtain ⟨l, a, b, rfl, s, d1, d2⟩ := d.pair
    exact ⟨l, [a, b], 0, a, rfl, rfl, ex_t msk_le s, at_of (j := 0) rfl rfl, q a H2 e2 d1⟩
theorem hv_p1 {p : α × β} (ha : Hv K M ta σ H p) : Hv K M (tOp (rIxT K) ta (tC (.int 1))) σ H p.2 := fun H1 e m Q q =>
  ha H1 e m _ fun v H2 e2 d => by
    obtain ⟨l, a, b, rfl, s, d1, d2⟩ := d.pair
    exact ⟨l, [a, b], 1, b, rfl, rfl, ex_t msk_le s, at_of (j := 1) rfl rfl, q b H2 e2 d2⟩
theorem hv_t30 {p : T3 α β γ} (ha : Hv K M ta σ H p) : Hv K M (tOp (rIxT K) ta (tC (.int 0))) σ H p.a := fun H1 e m Q q =>
  ha H1 e m _ fun v H2 e2 d => by
    obtain ⟨l, a, b, c, rfl, s, d1, d2, d3⟩ := d.t3
    exact ⟨l, [a, b, c], 0, a, rfl, rfl, ex_t msk_le s, at_of (j := 0) rfl rfl, q a H2 e2 d1⟩
theorem hv_t31 {p : T3 α β γ} (ha : Hv K M ta σ H p) : Hv K M (tOp (rIxT K) ta (tC (.int 1))) σ H p.b := fun H1 e m Q q =>
  ha H1 e m _ fun v H2 e2 d => by
    obtain ⟨l, a, b, c, rfl, s, d1, d2, d3⟩ := d.t3
    exact ⟨l, [a, b, c], 1, b, rfl, rfl, ex_t msk_le s, at_of (j := 1) rfl rfl, q b H2 e2 d2⟩
theorem hv_t32 {p : T3 α β γ} (ha : Hv K M ta σ H p) : Hv K M (tOp (rIxT K) ta (tC (.int 2))) σ H p.c := fun H1 e m Q q =>
  ha H1 e m _ fun v H2 e2 d => by
    obtain ⟨l, a, b, c, rfl, s, d1, d2, d3⟩ := d.t3
    exact ⟨l, [a, b, c], 2, c, rfl, rfl, ex_t msk_le s, at_of (j := 2) rfl rfl, q c H2 e2 d3⟩
def T3.at {α : Type} (p : T3 α α α) (i : Int) : α := if i = 0 then p.a else if i = 1 then p.b else p.c
theorem hv_t3i {p : T3 α α α} {i : Int} (ha : Hv K M ta σ H p) (hb : Hv K M tb σ H i) (h0 : 0 ≤ i) (h3 : i < 3) : Hv K M (tOp (rIxT K) ta tb) σ H (Ly.T3.at p i) := fun H1 e m Q q =>
  ha H1 e m _ fun v H2 e2 d => hb H2 (e.trans e2) (m.ex e2) _ fun u H3 e3 d' => by
    obtain ⟨l, a, b, c, rfl, s, d1, d2, d3⟩ := d.t3
    have hh : i = 0 ∨ i = 1 ∨ i = 2 := by omega
    rcases hh with rfl | rfl | rfl
    · exact ⟨l, [a, b, c], 0, a, rfl, d'.int, ex_t (msk_le.trans e3) s, at_of (j := 0) rfl rfl, q a H3 (e2.trans e3) (d1.mono (msk_ex e3))⟩
    · exact ⟨l, [a, b, c], 1, b, rfl, d'.int, ex_t (msk_le.trans e3) s, at_of (j := 1) rfl rfl, q b H3 (e2.trans e3) (d2.mono (msk_ex e3))⟩
    · exact ⟨l, [a, b, c], 2, c, rfl, d'.int, ex_t (msk_le.trans e3) s, at_of (j := 2) rfl rfl, q c H3 (e2.trans e3) (d3.mono (msk_ex e3))⟩
end
end Ly

namespace Ly
open PySem PySem.Spec PyProof.Rows L2 Evl
open PySem.W (Datum DatumOrd Tup T3 T4)

/-! ### the state of a def: what its names hold -/
/-- what a thing that may still change holds -/
inductive Mv where
  | lst (ds : List PyData)
  | dic (kds : List (Key × PyData))
def MvOk (K : PySem.W.Frag) (H : Hp) (o : HO) : Mv → Prop
  | .lst ds => ∃ vs, o = .lst vs ∧ DpAll K H vs ds
  | .dic kds => ∃ kvs, o = .dK kvs ∧ kvs.map (·.1) = kds.map (·.1) ∧ DpAll K H (kvs.map (·.2)) (kds.map (·.2))
theorem MvOk.mono {K : PySem.W.Frag} {H H' : Hp} {o : HO} {m : Mv} (e : Ex H H') (h : MvOk K H o m) : MvOk K H' o m := by
  cases m with
  | lst ds => obtain ⟨vs, e1, e2⟩ := h; exact ⟨vs, e1, dpa_mono e e2⟩
  | dic kds => obtain ⟨vs, e1, e2, e3⟩ := h; exact ⟨vs, e1, e2, dpa_mono e e3⟩
abbrev Mus := List (Addr × Mv)
abbrev Ims := List (V × PyData)
def muA (mus : Mus) : List Addr := mus.map (·.1)
def Im (K : PySem.W.Frag) (H : Hp) : Ims → Prop
  | [] => True
  | (v, d) :: r => Dp K H v d ∧ Im K H r
def Mu (K : PySem.W.Frag) (Hm H : Hp) : Mus → Prop
  | [] => True
  | (l, m) :: r => (∃ o, H l = some o ∧ MvOk K Hm o m) ∧ Mu K Hm H r
theorem Im.mono {K : PySem.W.Frag} {H H' : Hp} (e : Ex H H') : ∀ {is : Ims}, Im K H is → Im K H' is
  | [], h => h
  | (_, _) :: _, h => ⟨dp_mono e h.1, Im.mono e h.2⟩
theorem Mu.mono {K : PySem.W.Frag} {Hm Hm' H H' : Hp} (e : Ex Hm Hm') (e' : Ex H H') : ∀ {ms : Mus}, Mu K Hm H ms → Mu K Hm' H' ms
  | [], h => h
  | (l, m) :: _, h => by
    obtain ⟨⟨o, h1, h2⟩, h3⟩ := h
    exact ⟨⟨o, e' l o h1, h2.mono e⟩, Mu.mono e e' h3⟩
theorem Mu.upd {K : PySem.W.Frag} {Hm H : Hp} {p : Addr} {o : HO} : ∀ {ms : Mus}, p ∉ muA ms → Mu K Hm H ms → Mu K Hm (upd H p o) ms
  | [], _, h => h
  | (l, m) :: r, n, h => by
    have n' : l ≠ p ∧ p ∉ muA r := by
      unfold muA at n
      simp only [List.map_cons, List.mem_cons, not_or] at n
      exact ⟨fun z => n.1 z.symm, n.2⟩
    obtain ⟨⟨o', h1, h2⟩, h3⟩ := h
    exact ⟨⟨o', by rw [upd_ne n'.1]; exact h1, h2⟩, Mu.upd n'.2 h3⟩
theorem Mu.get {K : PySem.W.Frag} {Hm H : Hp} : ∀ {ms : Mus} {k : Nat} {l : Addr} {m : Mv}, Mu K Hm H ms → ms[k]? = some (l, m) → ∃ o, H l = some o ∧ MvOk K Hm o m
  | [], k, _, _, _, e => by simp at e
  | (l, m) :: r, 0, _, _, h, e => by
    have e' : (l, m) = _ := Option.some.inj (show some (l, m) = some _ from e)
    cases e'
    exact h.1
  | (l, m) :: r, k + 1, _, _, h, e => Mu.get (ms := r) h.2 (by simpa using e)
theorem mem_muA {ms : Mus} {k : Nat} {l : Addr} {m : Mv} (e : ms[k]? = some (l, m)) : l ∈ muA ms := by
  have h : (l, m) ∈ ms := List.mem_of_getElem? e
  exact List.mem_map.mpr ⟨_, h, rfl⟩
theorem muA_set : ∀ {ms : Mus} {k : Nat} {l : Addr} {m m' : Mv}, ms[k]? = some (l, m) → muA (ms.set k (l, m')) = muA ms
  | [], k, _, _, _, e => by simp at e
  | (l, m) :: r, 0, _, _, _, e => by
    have e' : (l, m) = _ := Option.some.inj (show some (l, m) = some _ from e)
    cases e'
    rfl
  | (l, m) :: r, k + 1, l', m0, m', e => by
    have := muA_set (ms := r) (k := k) (m' := m') (show r[k]? = some (l', m0) by simpa using e)
    show l :: muA (r.set k (l', m')) = l :: muA r
    rw [this]
theorem Mu.set {K : PySem.W.Frag} {Hm H : Hp} {o : HO} {m' : Mv} : ∀ {ms : Mus} {k : Nat} {l : Addr} {m : Mv}, (muA ms).Nodup → ms[k]? = some (l, m) → MvOk K Hm o m' → Mu K Hm H ms → Mu K Hm (L2.upd H l o) (ms.set k (l, m'))
  | [], k, _, _, _, e, _, _ => by simp at e
  | (l, m) :: r, 0, _, _, nd, e, ok, h => by
    have e' : (l, m) = _ := Option.some.inj (show some (l, m) = some _ from e)
    cases e'
    have nd' : l ∉ muA r ∧ (muA r).Nodup := List.nodup_cons.mp nd
    exact ⟨⟨o, upd_same, ok⟩, Mu.upd nd'.1 h.2⟩
  | (l, m) :: r, k + 1, l', m0, nd, e, ok, h => by
    have nd' : l ∉ muA r ∧ (muA r).Nodup := List.nodup_cons.mp nd
    have e' : r[k]? = some (l', m0) := by simpa using e
    have ne : l ≠ l' := fun z => nd'.1 (z ▸ mem_muA e')
    obtain ⟨⟨o', h1, h2⟩, h3⟩ := h
    exact ⟨⟨o', by rw [upd_ne ne]; exact h1, h2⟩, Mu.set (ms := r) nd'.2 e' ok h3⟩

/-- Mc: what the caller may still change; He: the heap at the entry -/
structure Sg (K : PySem.W.Frag) (Mc : List Addr) (He H : Hp) (is : Ims) (ms : Mus) : Prop where
  ext : Ex He (msk (muA ms) H)
  okc : MOk Mc He
  nd : (muA ms).Nodup
  im : Im K (msk (muA ms ++ Mc) H) is
  mu : Mu K (msk (muA ms ++ Mc) H) H ms
section
variable {K : PySem.W.Frag} {Mc : List Addr} {He H H1 H2 : Hp} {is js : Ims} {ms : Mus} {σ : L2.St} {te ta tb tl : TE}
variable {α β : Type} [DecidableEq α] [Datum α] [DecidableEq β] [Datum β]
theorem Sg.enter (m : MOk Mc He) (im : Im K (msk Mc He) is) : Sg K Mc He He is [] := by
  refine ⟨?_, m, List.nodup_nil, im, True.intro⟩
  show Ex He (msk [] He)
  rw [msk_nil]
  exact Ex.refl He
theorem Sg.all (s : Sg K Mc He H is ms) : Ex He H := s.ext.trans msk_le
theorem Sg.mok (s : Sg K Mc He H is ms) : MOk (muA ms ++ Mc) H := fun l hl => by
  rcases List.mem_append.mp hl with h | h
  · obtain ⟨p, hp, e⟩ := List.mem_map.mp h
    obtain ⟨k, hk⟩ := List.getElem?_of_mem hp
    obtain ⟨o, ho, _⟩ := s.mu.get (k := k) (l := p.1) (m := p.2) hk
    rw [← e, ho]
    exact fun z => nomatch z
  · exact (s.okc.ex s.all) l h
theorem Sg.new_of (s : Sg K Mc He H is ms) {l : Addr} (h : l ∈ muA ms) : He l = none := by
  cases q : He l with
  | none => rfl
  | some o =>
    have := s.ext l o q
    rw [msk_in h] at this
    cases this
theorem Sg.notc (s : Sg K Mc He H is ms) {l : Addr} (h : l ∈ muA ms) : l ∉ Mc := fun z => s.okc l z (s.new_of h)
theorem Sg.ex (s : Sg K Mc He H is ms) (e : Ex H H1) : Sg K Mc He H1 is ms :=
  ⟨s.ext.trans (msk_ex e), s.okc, s.nd, s.im.mono (msk_ex e), s.mu.mono (msk_ex e) e⟩
theorem Sg.put (s : Sg K Mc He H is ms) {v : V} {x : α} (d : Dt K (msk (muA ms ++ Mc) H) v x) : Sg K Mc He H ((v, Datum.toD x) :: is) ms :=
  ⟨s.ext, s.okc, s.nd, ⟨d, s.im⟩, s.mu⟩
/-- a new thing that may change -/
theorem Sg.new (s : Sg K Mc He H is ms) {p : Addr} {o : HO} {m : Mv} (hp : H p = none) (ok : MvOk K (msk (p :: (muA ms ++ Mc)) (upd H p o)) o m) : Sg K Mc He (upd H p o) is ((p, m) :: ms) := by
  have np : p ∉ muA ms := fun z => by
    have := s.mok p (List.mem_append_left _ z)
    exact this hp
  refine ⟨s.ext.trans (msk_new hp), s.okc, List.nodup_cons.mpr ⟨np, s.nd⟩, ?_, ⟨⟨o, upd_same, ok⟩, ?_⟩⟩
  · exact s.im.mono (msk_new hp)
  · have h := s.mu.mono (msk_new (M := muA ms ++ Mc) (o := o) hp) (Ex.refl H)
    exact Mu.upd np h
/-- the k-th of what may change, changed -/
theorem Sg.set (s : Sg K Mc He H is ms) {k : Nat} {l : Addr} {m m' : Mv} {o : HO} (e : ms[k]? = some (l, m)) (ok : MvOk K (msk (muA ms ++ Mc) H) o m') : Sg K Mc He (upd H l o) is (ms.set k (l, m')) := by
  have hl : l ∈ muA ms := mem_muA e
  have ea := muA_set (m' := m') e
  have hl2 : l ∈ muA ms ++ Mc := List.mem_append_left _ hl
  refine ⟨?_, s.okc, by rw [ea]; exact s.nd, ?_, ?_⟩
  · rw [ea, msk_upd hl]; exact s.ext
  · rw [ea, msk_upd hl2]; exact s.im
  · rw [ea, msk_upd hl2]; exact Mu.set s.nd e ok s.mu
/-- no longer changed: the head of what may change, a list -/
theorem Sg.frz {l : Addr} {xs : List α} (s : Sg K Mc He H is ((l, .lst (xs.map Datum.toD)) :: ms)) : Sg K Mc He H ((.ref l, Datum.toD xs) :: is) ms := by
  have sub : Ex (msk (muA ((l, Mv.lst (xs.map Datum.toD)) :: ms) ++ Mc) H) (msk (muA ms ++ Mc) H) := msk_sub fun a ha => List.mem_cons_of_mem _ ha
  have nd := List.nodup_cons.mp s.nd
  obtain ⟨⟨o, h1, vs, e, h2⟩, h3⟩ := s.mu
  subst e
  have nl : l ∉ muA ms ++ Mc := fun z => (List.mem_append.mp z).elim nd.1 (s.notc List.mem_cons_self)
  refine ⟨s.ext.trans (msk_sub fun a ha => List.mem_cons_of_mem _ ha), s.okc, nd.2, ⟨?_, s.im.mono sub⟩, h3.mono sub (Ex.refl H)⟩
  exact Dt.ofList (SqL.of (by rw [msk_out nl]; exact h1)) (dpa_mono sub h2)
/-- what stands first moves behind -/
theorem Sg.rot {l l' : Addr} {m m' : Mv} (s : Sg K Mc He H is ((l, m) :: (l', m') :: ms)) : Sg K Mc He H is ((l', m') :: (l, m) :: ms) := by
  have ea : ∀ N : List Addr, msk (l :: l' :: N) H = msk (l' :: l :: N) H := fun N => by
    funext a
    unfold msk
    by_cases h : a ∈ l :: l' :: N
    · rw [if_pos h, if_pos (by simp only [List.mem_cons] at h ⊢; rcases h with h | h | h <;> simp [h])]
    · rw [if_neg h, if_neg (by simp only [List.mem_cons, not_or] at h ⊢; exact ⟨h.2.1, h.1, h.2.2⟩)]
  refine ⟨?_, s.okc, ?_, ?_, ?_⟩
  · have := s.ext
    show Ex He (msk (l' :: l :: muA ms) H)
    rw [← ea]; exact this
  · have nd : (l :: l' :: muA ms).Nodup := s.nd
    show (l' :: l :: muA ms).Nodup
    simp only [List.nodup_cons, List.mem_cons, not_or] at nd ⊢
    exact ⟨⟨fun z => nd.1.1 z.symm, nd.2.1⟩, nd.1.2, nd.2.2⟩
  · show Im K (msk (l' :: l :: (muA ms ++ Mc)) H) is
    rw [← ea]; exact s.im
  · have mu : (∃ o, H l = some o ∧ MvOk K (msk (l :: l' :: (muA ms ++ Mc)) H) o m) ∧ (∃ o, H l' = some o ∧ MvOk K (msk (l :: l' :: (muA ms ++ Mc)) H) o m') ∧ Mu K (msk (l :: l' :: (muA ms ++ Mc)) H) H ms := s.mu
    show (∃ o, H l' = some o ∧ MvOk K (msk (l' :: l :: (muA ms ++ Mc)) H) o m') ∧ (∃ o, H l = some o ∧ MvOk K (msk (l' :: l :: (muA ms ++ Mc)) H) o m) ∧ Mu K (msk (l' :: l :: (muA ms ++ Mc)) H) H ms
    rw [← ea]
    exact ⟨mu.2.1, mu.1, mu.2.2⟩
/-- forgetting what is known of names -/
theorem Sg.keep (s : Sg K Mc He H is ms) (h : ∀ Hm, Im K Hm is → Im K Hm js) : Sg K Mc He H js ms := ⟨s.ext, s.okc, s.nd, h _ s.im, s.mu⟩
theorem Sg.lst (s : Sg K Mc He H is ms) {k : Nat} {l : Addr} {xs : List α} (e : ms[k]? = some (l, .lst (xs.map Datum.toD))) : ∃ vs, H l = some (.lst vs) ∧ Dts K (msk (muA ms ++ Mc) H) vs xs := by
  obtain ⟨o, h1, vs, e1, h2⟩ := s.mu.get e
  subst e1
  exact ⟨vs, h1, h2⟩

/-! ### a list that may still change, read -/
def HS (K : PySem.W.Frag) (M : List Addr) (te : TE) (σ : L2.St) (H : Hp) (xs : List α) : Prop :=
  ∀ H1, Ex H H1 → MOk M H1 → ∀ Q : VK, (∀ a vs H2, Ex H1 H2 → SqL K H2 a vs → Dts K (msk M H2) vs xs → Q (.ref a) H2) → te σ H1 Q
theorem hs_of {M : List Addr} {xs : List α} (h : Hv K M te σ H xs) : HS K M te σ H xs := fun H1 e m Q q =>
  h H1 e m Q fun v H2 e2 d => by
    obtain ⟨a, vs, rfl, s, ds⟩ := d.list
    exact q a vs H2 e2 (ex_l msk_le s) ds
theorem hs_mut (s : Sg K Mc He H is ms) {k i : Nat} {l : Addr} {xs : List α} (e : ms[k]? = some (l, .lst (xs.map Datum.toD))) (h : σ[i]? = some (some (.ref l))) : HS K (muA ms ++ Mc) (tVar i) σ H xs := fun H1 e1 m Q q => by
  obtain ⟨vs, h1, h2⟩ := (s.ex e1).lst e
  exact ⟨_, h, q l vs H1 (Ex.refl H1) (SqL.of h1) h2⟩
/-- all of it, for a use that leaves nothing behind -/
theorem hv_mut (s : Sg K Mc He H is ms) {k i : Nat} {l : Addr} {xs : List α} (e : ms[k]? = some (l, .lst (xs.map Datum.toD))) (h : σ[i]? = some (some (.ref l))) : Hv K [] (tVar i) σ H xs := fun H1 e1 m Q q => by
  obtain ⟨vs, h1, h2⟩ := (s.ex e1).lst e
  refine ⟨_, h, q _ H1 (Ex.refl H1) ?_⟩
  rw [msk_nil]
  exact Dt.ofList (SqL.of h1) (h2.mono msk_le)
theorem hv_whole (s : Sg K Mc He H is ms) {x : α} (h : Hv K (muA ms ++ Mc) te σ H x) : Hv K [] te σ H x := fun H1 e m Q q =>
  h H1 e (s.mok.ex e) Q fun v H2 e2 d => q v H2 e2 (by rw [msk_nil]; exact d.mono msk_le)
theorem hv_wholeS (s : Sg K Mc He H is ms) {xs : List α} (h : HS K (muA ms ++ Mc) te σ H xs) : Hv K [] te σ H xs := fun H1 e m Q q =>
  h H1 e (s.mok.ex e) Q fun a vs H2 e2 s2 d => q _ H2 e2 (by rw [msk_nil]; exact Dt.ofList s2 (d.mono msk_le))
theorem hv_backI {M : List Addr} {x : Int} (h : Hv K [] te σ H x) : Hv K M te σ H x := fun H1 e m Q q =>
  h H1 e (fun _ z => nomatch z) Q fun v H2 e2 d => by rw [d.int]; exact q _ H2 e2 (Dt.ofInt x)
theorem hv_backB {M : List Addr} {x : Bool} (h : Hv K [] te σ H x) : Hv K M te σ H x := fun H1 e m Q q =>
  h H1 e (fun _ z => nomatch z) Q fun v H2 e2 d => by rw [d.bool]; exact q _ H2 e2 (Dt.ofBool x)
theorem hv_backS {M : List Addr} {x : Str} (h : Hv K [] te σ H x) : Hv K M te σ H x := fun H1 e m Q q =>
  h H1 e (fun _ z => nomatch z) Q fun v H2 e2 d => by rw [d.str]; exact q _ H2 e2 (Dt.ofStr x)
theorem hv_ixS {M : List Addr} {xs : List α} {i : Int} {x : α} (ha : HS K M ta σ H xs) (hb : Hv K M tb σ H i) (h0 : 0 ≤ i) (hx : xs[i.toNat]? = some x) : Hv K M (tOp (rIxL K) ta tb) σ H x := fun H1 e m Q q =>
  ha H1 e m _ fun a vs H2 e2 s ds => hb H2 (e.trans e2) (m.ex e2) _ fun u H3 e3 d' => by
    obtain ⟨w, h1, h2⟩ := ds.at hx
    exact ⟨a, vs, i, w, rfl, d'.int, ex_l e3 s, at_of (Int.toNat_of_nonneg h0).symm h1, q w H3 (e2.trans e3) (h2.mono (msk_ex e3))⟩

/-! ### statements -/
variable {D : Ends} {tz tu tw : TS} {tt : TT} {g : TG}
theorem z_asg {i : Nat} {x : α} (s : Sg K Mc He H is ms) (h : Hv K (muA ms ++ Mc) te σ H x) (k : ∀ v H1, Sg K Mc He H1 ((v, Datum.toD x) :: is) ms → tz D (σ.set i (some v)) H1) : tSeq (tAsg te (gName i)) tz D σ H :=
  h H (Ex.refl H) s.mok _ fun v H1 e d => k v H1 ((s.ex e).put d)
theorem z_asgI {i : Nat} {x : Int} (s : Sg K Mc He H is ms) (h : Hv K (muA ms ++ Mc) te σ H x) (k : ∀ H1, Sg K Mc He H1 is ms → tz D (σ.set i (some (.int x))) H1) : tSeq (tAsg te (gName i)) tz D σ H :=
  h H (Ex.refl H) s.mok _ fun v H1 e d => by rw [d.int]; exact k H1 (s.ex e)
theorem z_asgB {i : Nat} {x : Bool} (s : Sg K Mc He H is ms) (h : Hv K (muA ms ++ Mc) te σ H x) (k : ∀ H1, Sg K Mc He H1 is ms → tz D (σ.set i (some (.bl x))) H1) : tSeq (tAsg te (gName i)) tz D σ H :=
  h H (Ex.refl H) s.mok _ fun v H1 e d => by rw [d.bool]; exact k H1 (s.ex e)
theorem z_asgS {i : Nat} {x : Str} (s : Sg K Mc He H is ms) (h : Hv K (muA ms ++ Mc) te σ H x) (k : ∀ H1, Sg K Mc He H1 is ms → tz D (σ.set i (some (.str x))) H1) : tSeq (tAsg te (gName i)) tz D σ H :=
  h H (Ex.refl H) s.mok _ fun v H1 e d => by rw [d.str]; exact k H1 (s.ex e)
/-- x = [], to be filled -/
theorem z_nil {i : Nat} (s : Sg K Mc He H is ms) (k : ∀ p H1, Sg K Mc He H1 is ((p, .lst []) :: ms) → tz D (σ.set i (some (.ref p))) H1) : tSeq (tAsg (tLst tNil) (gName i)) tz D σ H :=
  ⟨Nat.zero_le _, fun p hp => k p _ (s.new hp ⟨[], rfl, .nil⟩)⟩
theorem z_if {b : Bool} (s : Sg K Mc He H is ms) (h : HT (muA ms ++ Mc) tt σ H b) (h1 : b = true → ∀ H1, Sg K Mc He H1 is ms → tu { D with nx := tz D } σ H1) (h2 : b = false → ∀ H1, Sg K Mc He H1 is ms → tw { D with nx := tz D } σ H1) :
    tSeq (tIfS tt tu tw) tz D σ H := h H (Ex.refl H) s.mok _ fun H1 e => by
  cases b with
  | true => exact h1 rfl H1 (s.ex e)
  | false => exact h2 rfl H1 (s.ex e)
theorem z_ifE {b : Bool} (s : Sg K Mc He H is ms) (h : HT (muA ms ++ Mc) tt σ H b) (h1 : b = true → ∀ H1, Sg K Mc He H1 is ms → tu D σ H1) (h2 : b = false → ∀ H1, Sg K Mc He H1 is ms → tw D σ H1) :
    tIfS tt tu tw D σ H := h H (Ex.refl H) s.mok _ fun H1 e => by
  cases b with
  | true => exact h1 rfl H1 (s.ex e)
  | false => exact h2 rfl H1 (s.ex e)
theorem z_ret {x : α} (s : Sg K Mc He H is ms) (h : Hv K (muA ms ++ Mc) te σ H x) (k : ∀ v H1, Ex He H1 → Dt K (msk Mc H1) v x → D.rt v H1) : tRet te D σ H :=
  h H (Ex.refl H) s.mok _ fun v H1 e d => k v H1 (s.ex e).all (d.mono (msk_sub fun a ha => List.mem_append_right _ ha))
/-- xs.append(e) -/
theorem z_app {kk : Nat} {l : Addr} {xs : List α} {x : α} (s : Sg K Mc He H is ms) (e : ms[kk]? = some (l, .lst (xs.map Datum.toD))) (hi : Ev ta σ H (.ref l)) (h : Hv K (muA ms ++ Mc) te σ H x) (hz : xs.length < 100000)
    (k : ∀ H1, Sg K Mc He H1 is (ms.set kk (l, .lst ((xs ++ [x]).map Datum.toD))) → D.nx σ H1) : tDrop (tBM K "list" rAppend ta (tCons te tNil)) D σ H := hi H (Ex.refl H) _ fun H1 e1 => by
  obtain ⟨vs, h1, h2⟩ := (s.ex e1).lst e
  refine ⟨Or.inl ⟨rfl, vs, sq_of h1⟩, h H1 e1 (s.mok.ex e1) _ fun v H2 e2 d => ?_⟩
  obtain ⟨vs', h3, h4⟩ := ((s.ex e1).ex e2).lst e
  refine ⟨l, vs', v, rfl, rfl, h3, sz_lt (by rw [h4.len]; exact hz), k _ (((s.ex e1).ex e2).set e ⟨_, rfl, ?_⟩)⟩
  rw [List.map_append]
  exact dpa_app h4 (.cons d .nil)
theorem zq_app {kk : Nat} {l : Addr} {xs : List α} {x : α} (s : Sg K Mc He H is ms) (e : ms[kk]? = some (l, .lst (xs.map Datum.toD))) (hi : Ev ta σ H (.ref l)) (h : Hv K (muA ms ++ Mc) te σ H x) (hz : xs.length < 100000)
    (k : ∀ H1, Sg K Mc He H1 is (ms.set kk (l, .lst ((xs ++ [x]).map Datum.toD))) → tz D σ H1) : tSeq (tDrop (tBM K "list" rAppend ta (tCons te tNil))) tz D σ H := z_app (D := { D with nx := tz D }) s e hi h hz k
/-- the same as last statements -/
theorem z_asgE {i : Nat} {x : α} (s : Sg K Mc He H is ms) (h : Hv K (muA ms ++ Mc) te σ H x) (k : ∀ v H1, Sg K Mc He H1 ((v, Datum.toD x) :: is) ms → D.nx (σ.set i (some v)) H1) : tAsg te (gName i) D σ H :=
  h H (Ex.refl H) s.mok _ fun v H1 e d => k v H1 ((s.ex e).put d)
theorem z_asgIE {i : Nat} {x : Int} (s : Sg K Mc He H is ms) (h : Hv K (muA ms ++ Mc) te σ H x) (k : ∀ H1, Sg K Mc He H1 is ms → D.nx (σ.set i (some (.int x))) H1) : tAsg te (gName i) D σ H :=
  h H (Ex.refl H) s.mok _ fun v H1 e d => by rw [d.int]; exact k H1 (s.ex e)
theorem z_asgBE {i : Nat} {x : Bool} (s : Sg K Mc He H is ms) (h : Hv K (muA ms ++ Mc) te σ H x) (k : ∀ H1, Sg K Mc He H1 is ms → D.nx (σ.set i (some (.bl x))) H1) : tAsg te (gName i) D σ H :=
  h H (Ex.refl H) s.mok _ fun v H1 e d => by rw [d.bool]; exact k H1 (s.ex e)
theorem z_asgSE {i : Nat} {x : Str} (s : Sg K Mc He H is ms) (h : Hv K (muA ms ++ Mc) te σ H x) (k : ∀ H1, Sg K Mc He H1 is ms → D.nx (σ.set i (some (.str x))) H1) : tAsg te (gName i) D σ H :=
  h H (Ex.refl H) s.mok _ fun v H1 e d => by rw [d.str]; exact k H1 (s.ex e)
theorem z_cut {N : L2.St → Hp → Prop} (h : tu { D with nx := N } σ H) (k : ∀ σ' H', N σ' H' → tz D σ' H') : tCut tu tz D σ H := ⟨N, h, k⟩

/-! ### loops -/
theorem for_listD {M : List Addr} {a : Addr} {xs : List α} (Pv : Nat → L2.St → Hp → Prop) (h0 : Pv 0 σ H) (hl : ∀ i σ' H', i ≤ xs.length → Pv i σ' H' → ∃ vs, SqL K H' a vs ∧ Dts K (msk M H') vs xs)
    (hs : ∀ i x w σ' H', xs[i]? = some x → Pv i σ' H' → Dt K (msk M H') w x → g w σ' H' fun σ2 H2 => tu { D with nx := Pv (i + 1), ct := Pv (i + 1), bk := D.nx } σ2 H2) (hd : ∀ σ' H', Pv xs.length σ' H' → D.nx σ' H') :
    ∃ W : Nat → Nat → L2.St → Hp → Prop, (∃ m, W 0 m σ H) ∧ ∀ i m σ H, W i m σ H →
      ((Itl K a).stop i H ∧ D.nx σ H) ∨ ((Itl K a).go i H ∧ ∃ N : L2.St → Hp → Prop, (∀ σ' H', N σ' H' → ∃ m', m' < m ∧ W (i + 1) m' σ' H') ∧ ∀ x H', (Itl K a).yld i H x H' → g x σ H' fun σ2 H2 => tu { D with nx := N, ct := N, bk := D.nx } σ2 H2) := by
  refine ⟨fun i m σ H => m = xs.length - i ∧ i ≤ xs.length ∧ Pv i σ H, ⟨xs.length, by simp, Nat.zero_le _, h0⟩, ?_⟩
  rintro i m σ H ⟨rfl, hi, p⟩
  obtain ⟨vs, q, ds⟩ := hl i σ H hi p
  have el := ds.len
  by_cases hlt : i < xs.length
  · refine .inr ⟨⟨vs, vs[i]'(by omega), q, by simp [show i < vs.length by omega]⟩, Pv (i + 1), fun σ' H' p' => ⟨xs.length - (i + 1), by omega, rfl, hlt, p'⟩, fun x H' y => ?_⟩
    obtain ⟨e, y⟩ := y
    subst e
    obtain ⟨w, h1, h2⟩ := ds.at (i := i) (x := xs[i]) (by simp [hlt])
    have e1 : x = w := Option.some.inj ((y vs q).symm.trans h1)
    subst e1
    exact hs i _ x σ _ (by simp [hlt]) p h2
  · have e : i = xs.length := by omega
    subst e
    exact .inl ⟨⟨vs, q, by omega⟩, hd σ H p⟩
/-- over a value -/
theorem z_for {xs : List α} (s : Sg K Mc He H is ms) (h : Hv K (muA ms ++ Mc) tl σ H xs) (Pv : V → Nat → L2.St → Hp → Prop) (h0 : ∀ v H1, Sg K Mc He H1 ((v, Datum.toD xs) :: is) ms → Pv v 0 σ H1)
    (hl : ∀ v i σ' H', Pv v i σ' H' → Dt K (msk (muA ms ++ Mc) H') v xs)
    (hs : ∀ v i x w σ' H', xs[i]? = some x → Pv v i σ' H' → Dt K (msk (muA ms ++ Mc) H') w x → g w σ' H' fun σ2 H2 => tu { D with nx := Pv v (i + 1), ct := Pv v (i + 1), bk := D.nx } σ2 H2)
    (hd : ∀ v σ' H', Pv v xs.length σ' H' → D.nx σ' H') : tFor (iList K tl) g tu D σ H :=
  h H (Ex.refl H) s.mok _ fun v H1 e d => by
    obtain ⟨a, vs, rfl, s1, ds⟩ := d.list
    refine ⟨a, rfl, ⟨vs, ex_l msk_le s1⟩, for_listD (Pv (.ref a)) (h0 _ H1 ((s.ex e).put d)) (fun i σ' H' _ p => ?_) (hs _) (hd _)⟩
    obtain ⟨a', vs', e', s2, ds'⟩ := (hl _ i σ' H' p).list
    cases e'
    exact ⟨vs', ex_l msk_le s2, ds'⟩
theorem zq_for {xs : List α} (s : Sg K Mc He H is ms) (h : Hv K (muA ms ++ Mc) tl σ H xs) (Pv : V → Nat → L2.St → Hp → Prop) (h0 : ∀ v H1, Sg K Mc He H1 ((v, Datum.toD xs) :: is) ms → Pv v 0 σ H1)
    (hl : ∀ v i σ' H', Pv v i σ' H' → Dt K (msk (muA ms ++ Mc) H') v xs)
    (hs : ∀ v i x w σ' H', xs[i]? = some x → Pv v i σ' H' → Dt K (msk (muA ms ++ Mc) H') w x → g w σ' H' fun σ2 H2 => tu { D with nx := Pv v (i + 1), ct := Pv v (i + 1), bk := tz D } σ2 H2)
    (hd : ∀ v σ' H', Pv v xs.length σ' H' → tz D σ' H') : tSeq (tFor (iList K tl) g tu) tz D σ H := z_for (D := { D with nx := tz D }) s h Pv h0 hl hs hd
/-- over the numbers 0 .. n - 1 -/
theorem z_forR {j : Nat} {n : Int} (s : Sg K Mc He H is ms) (h : Hv K (muA ms ++ Mc) te σ H n) (hn : -100000 ≤ n ∧ n ≤ 100000) (Pv : Nat → L2.St → Hp → Prop) (h0 : ∀ H1, Sg K Mc He H1 is ms → Pv 0 σ H1)
    (hs : ∀ (i : Nat) σ' H', (i : Int) < n → Pv i σ' H' → tu { D with nx := Pv (i + 1), ct := Pv (i + 1), bk := D.nx } (σ'.set j (some (.int (i : Int)))) H') (hd : ∀ σ' H', Pv n.toNat σ' H' → D.nx σ' H') : tFor (iRng1 (tCons te tNil)) (gName j) tu D σ H :=
  h H (Ex.refl H) s.mok _ fun v H1 e d => by
    refine ⟨n, by rw [d.int], by omega, by omega, for_range (lo := 0) (n := n.toNat) Pv (h0 H1 (s.ex e)) (fun i σ' H' hi p => ?_) hd⟩
    have e0 : (0 : Int) + (i : Int) = (i : Int) := Int.zero_add _
    show tu { D with nx := Pv (i + 1), ct := Pv (i + 1), bk := D.nx } (σ'.set j (some (.int ((0 : Int) + (i : Int))))) H'
    rw [e0]
    exact hs i σ' H' (by omega) p
theorem zq_forR {j : Nat} {n : Int} (s : Sg K Mc He H is ms) (h : Hv K (muA ms ++ Mc) te σ H n) (hn : -100000 ≤ n ∧ n ≤ 100000) (Pv : Nat → L2.St → Hp → Prop) (h0 : ∀ H1, Sg K Mc He H1 is ms → Pv 0 σ H1)
    (hs : ∀ (i : Nat) σ' H', (i : Int) < n → Pv i σ' H' → tu { D with nx := Pv (i + 1), ct := Pv (i + 1), bk := tz D } (σ'.set j (some (.int (i : Int)))) H') (hd : ∀ σ' H', Pv n.toNat σ' H' → tz D σ' H') : tSeq (tFor (iRng1 (tCons te tNil)) (gName j) tu) tz D σ H :=
  z_forR (D := { D with nx := tz D }) s h hn Pv h0 hs hd
theorem z_forR2 {j : Nat} {lo n : Int} (s : Sg K Mc He H is ms) (h1 : Hv K (muA ms ++ Mc) ta σ H lo) (h : Hv K (muA ms ++ Mc) te σ H n) (hn : -100000 ≤ lo ∧ lo ≤ 100000 ∧ -100000 ≤ n ∧ n ≤ 100000) (Pv : Nat → L2.St → Hp → Prop) (h0 : ∀ H1, Sg K Mc He H1 is ms → Pv 0 σ H1)
    (hs : ∀ (i : Nat) σ' H', lo + (i : Int) < n → Pv i σ' H' → tu { D with nx := Pv (i + 1), ct := Pv (i + 1), bk := D.nx } (σ'.set j (some (.int (lo + (i : Int))))) H') (hd : ∀ σ' H', Pv (n - lo).toNat σ' H' → D.nx σ' H') : tFor (iRng2 (tCons ta (tCons te tNil))) (gName j) tu D σ H :=
  h1 H (Ex.refl H) s.mok _ fun v H1 e d => h H1 e (s.mok.ex e) _ fun v' H2 e2 d' => by
    refine ⟨lo, n, by rw [d.int, d'.int], ⟨by omega, by omega, by omega, by omega⟩, for_range (lo := lo) (n := (n - lo).toNat) Pv (h0 H2 ((s.ex e).ex e2)) (fun i σ' H' hi p => hs i σ' H' (by omega) p) hd⟩
theorem zq_forR2 {j : Nat} {lo n : Int} (s : Sg K Mc He H is ms) (h1 : Hv K (muA ms ++ Mc) ta σ H lo) (h : Hv K (muA ms ++ Mc) te σ H n) (hn : -100000 ≤ lo ∧ lo ≤ 100000 ∧ -100000 ≤ n ∧ n ≤ 100000) (Pv : Nat → L2.St → Hp → Prop) (h0 : ∀ H1, Sg K Mc He H1 is ms → Pv 0 σ H1)
    (hs : ∀ (i : Nat) σ' H', lo + (i : Int) < n → Pv i σ' H' → tu { D with nx := Pv (i + 1), ct := Pv (i + 1), bk := tz D } (σ'.set j (some (.int (lo + (i : Int))))) H') (hd : ∀ σ' H', Pv (n - lo).toNat σ' H' → tz D σ' H') : tSeq (tFor (iRng2 (tCons ta (tCons te tNil))) (gName j) tu) tz D σ H :=
  z_forR2 (D := { D with nx := tz D }) s h1 h hn Pv h0 hs hd
end
end Ly

namespace Ly
open PySem PySem.Spec PyProof.Rows L2 Evl
open PySem.W (Datum DatumOrd Tup T3 T4)

/-! ### calls -/
section
variable {K : PySem.W.Frag} {Mc M : List Addr} {He H H1 H2 : Hp} {is js : Ims} {ms : Mus} {σ : L2.St} {te ta tb tl : TE}
variable {α β γ : Type} [DecidableEq α] [Datum α] [DecidableEq β] [Datum β]
/-- the promise of a def that changes nothing: its arguments hold what args tells of c, it gives F c -/
def PrD (K : PySem.W.Frag) (args : γ → List PyData) (pre : γ → Prop) (F : γ → β) : Sp := fun vs H Q _ =>
  ∃ (Mc : List Addr) (c : γ), MOk Mc H ∧ DpAll K (msk Mc H) vs (args c) ∧ pre c ∧ ∀ w H', Ex H H' → Dt K (msk Mc H') w (F c) → Q w H'
def HD (K : PySem.W.Frag) (M : List Addr) (ta : TA) (σ : L2.St) (H : Hp) (ds : List PyData) : Prop := HA M ta σ H (fun vs H => DpAll K (msk M H) vs ds)
theorem hd_nil : HD K M tNil σ H [] := fun H1 e m Q q => q [] H1 (Ex.refl H1) .nil
theorem hd_cons {tr : TA} {x : α} {ds : List PyData} (h : Hv K M te σ H x) (hr : HD K M tr σ H ds) : HD K M (tCons te tr) σ H (Datum.toD x :: ds) := fun H1 e m Q q =>
  h H1 e m _ fun v H2 e2 d => hr H2 (e.trans e2) (m.ex e2) _ fun vs H3 e3 p => q _ H3 (e2.trans e3) (.cons (dp_mono (msk_ex e3) d) p)
theorem hv_call {args : γ → List PyData} {pre : γ → Prop} {F : γ → β} {tr : TA} {E : XK} (c : γ) (h : HD K M tr σ H (args c)) (p : pre c) : Hv K M (tCall (PrD K args pre F) [] E tr) σ H (F c) := fun H1 e m Q q =>
  h H1 e m _ fun vs H2 e2 d => by
    show PrD K args pre F (vs ++ []) H2 Q E
    rw [List.append_nil]
    exact ⟨M, c, m.ex e2, d, p, fun w H3 e3 d3 => q w H3 (e2.trans e3) d3⟩
end

/-! ### loops, as functions -/
def loopN {S : Type} (f : S → Int → S) : Nat → Int → S → S
  | 0, _, s => s
  | n + 1, k, s => loopN f n (k + 1) (f s k)
theorem loopN_step {S : Type} {f : S → Int → S} {n i : Nat} {lo : Int} {s : S} (h : i < n) : loopN f (n - i) (lo + (i : Int)) s = loopN f (n - (i + 1)) (lo + ((i + 1 : Nat) : Int)) (f s (lo + (i : Int))) := by
  have e : n - i = (n - (i + 1)) + 1 := by omega
  rw [e]
  show loopN f (n - (i + 1)) (lo + (i : Int) + 1) _ = _
  rw [show lo + (i : Int) + 1 = lo + ((i + 1 : Nat) : Int) by omega]
theorem loopN_end {S : Type} {f : S → Int → S} {n : Nat} {lo : Int} {s : S} : loopN f (n - n) lo s = s := by rw [Nat.sub_self]; rfl
/-- a turn that may leave: a result, a break, or on -/
inductive Lp (ρ S : Type) where
  | ret (r : ρ)
  | brk (s : S)
  | nxt (s : S)
def loopNR {ρ S : Type} (f : S → Int → Lp ρ S) : Nat → Int → S → ρ ⊕ S
  | 0, _, s => .inr s
  | n + 1, k, s => match f s k with
    | .ret r => .inl r
    | .brk s' => .inr s'
    | .nxt s' => loopNR f n (k + 1) s'
theorem loopNR_nxt {ρ S : Type} {f : S → Int → Lp ρ S} {n i : Nat} {lo : Int} {s s' : S} (h : i < n) (e : f s (lo + (i : Int)) = .nxt s') : loopNR f (n - i) (lo + (i : Int)) s = loopNR f (n - (i + 1)) (lo + ((i + 1 : Nat) : Int)) s' := by
  have e1 : n - i = (n - (i + 1)) + 1 := by omega
  rw [e1]
  show (match f s (lo + (i : Int)) with | .ret r => Sum.inl r | .brk s' => Sum.inr s' | .nxt s' => loopNR f (n - (i + 1)) (lo + (i : Int) + 1) s') = _
  rw [e, show lo + (i : Int) + 1 = lo + ((i + 1 : Nat) : Int) by omega]
theorem loopNR_ret {ρ S : Type} {f : S → Int → Lp ρ S} {n i : Nat} {lo : Int} {s : S} {r : ρ} (h : i < n) (e : f s (lo + (i : Int)) = .ret r) : loopNR f (n - i) (lo + (i : Int)) s = .inl r := by
  have e1 : n - i = (n - (i + 1)) + 1 := by omega
  rw [e1]
  show (match f s (lo + (i : Int)) with | .ret r => Sum.inl r | .brk s' => Sum.inr s' | .nxt s' => loopNR f (n - (i + 1)) (lo + (i : Int) + 1) s') = _
  rw [e]
theorem loopNR_brk {ρ S : Type} {f : S → Int → Lp ρ S} {n i : Nat} {lo : Int} {s s' : S} (h : i < n) (e : f s (lo + (i : Int)) = .brk s') : loopNR f (n - i) (lo + (i : Int)) s = .inr s' := by
  have e1 : n - i = (n - (i + 1)) + 1 := by omega
  rw [e1]
  show (match f s (lo + (i : Int)) with | .ret r => Sum.inl r | .brk s' => Sum.inr s' | .nxt s' => loopNR f (n - (i + 1)) (lo + (i : Int) + 1) s') = _
  rw [e]
theorem loopNR_end {ρ S : Type} {f : S → Int → Lp ρ S} {n : Nat} {lo : Int} {s : S} : loopNR f (n - n) lo s = .inr s := by rw [Nat.sub_self]; rfl
theorem drop_at {α : Type} {xs : List α} {i : Nat} {x : α} (h : xs[i]? = some x) : xs.drop i = x :: xs.drop (i + 1) := by
  obtain ⟨h1, h2⟩ := List.getElem?_eq_some_iff.mp h
  rw [List.drop_eq_getElem_cons h1, h2]
theorem foldl_step {α S : Type} {f : S → α → S} {xs : List α} {i : Nat} {x : α} {s : S} (h : xs[i]? = some x) : (xs.drop i).foldl f s = (xs.drop (i + 1)).foldl f (f s x) := by
  rw [drop_at h]; rfl
theorem foldl_end {α S : Type} {f : S → α → S} {xs : List α} {s : S} : (xs.drop xs.length).foldl f s = s := by rw [List.drop_length]; rfl
def loopL {α ρ S : Type} (f : S → α → Lp ρ S) : List α → S → ρ ⊕ S
  | [], s => .inr s
  | x :: r, s => match f s x with
    | .ret r => .inl r
    | .brk s' => .inr s'
    | .nxt s' => loopL f r s'
theorem loopL_nxt {α ρ S : Type} {f : S → α → Lp ρ S} {xs : List α} {i : Nat} {x : α} {s s' : S} (h : xs[i]? = some x) (e : f s x = .nxt s') : loopL f (xs.drop i) s = loopL f (xs.drop (i + 1)) s' := by
  rw [drop_at h, loopL, e]
theorem loopL_ret {α ρ S : Type} {f : S → α → Lp ρ S} {xs : List α} {i : Nat} {x : α} {s : S} {r : ρ} (h : xs[i]? = some x) (e : f s x = .ret r) : loopL f (xs.drop i) s = .inl r := by
  rw [drop_at h, loopL, e]
theorem loopL_brk {α ρ S : Type} {f : S → α → Lp ρ S} {xs : List α} {i : Nat} {x : α} {s s' : S} (h : xs[i]? = some x) (e : f s x = .brk s') : loopL f (xs.drop i) s = .inr s' := by
  rw [drop_at h, loopL, e]
theorem loopL_end {α ρ S : Type} {f : S → α → Lp ρ S} {xs : List α} {s : S} : loopL f (xs.drop xs.length) s = .inr s := by rw [List.drop_length]; rfl

/-! ### items, lengths -/
section
variable {K : PySem.W.Frag} {Mc M : List Addr} {He H H1 H2 : Hp} {is js : Ims} {ms : Mus} {σ : L2.St} {te ta tb tl : TE}
variable {α β γ : Type} [DecidableEq α] [Datum α] [DecidableEq β] [Datum β] [DecidableEq γ] [Datum γ]
theorem getD_at {xs : List α} {i : Int} {d : α} (h0 : 0 ≤ i) (h : i < (xs.length : Int)) : xs[i.toNat]? = some (xs.getD i.toNat d) := by
  have h1 : i.toNat < xs.length := by omega
  rw [List.getD_eq_getElem?_getD, List.getElem?_eq_getElem h1]
  rfl
theorem hv_at {xs : List α} {i : Int} (d : α) (ha : HS K M ta σ H xs) (hb : Hv K M tb σ H i) (h0 : 0 ≤ i) (h : i < (xs.length : Int)) : Hv K M (tOp (rIxL K) ta tb) σ H (xs.getD i.toNat d) :=
  hv_ixS ha hb h0 (getD_at h0 h)
theorem hv_atV {xs : Tup α} {i : Int} (d : α) (ha : Hv K M ta σ H xs) (hb : Hv K M tb σ H i) (h0 : 0 ≤ i) (h : i < (xs.items.length : Int)) : Hv K M (tOp (rIxT K) ta tb) σ H (xs.items.getD i.toNat d) :=
  hv_ixV ha hb h0 (getD_at h0 h)
/-- len -/
theorem hv_len {xs : List α} (ha : HS K M ta σ H xs) : Hv K M (tCB (fun xs H Q => ∃ x n, xs = [x] ∧ LenV K x H n ∧ Q (.int n) H) (tCons ta tNil)) σ H (xs.length : Int) := fun H1 e m Q q =>
  ha H1 e m _ fun a vs H2 e2 s d => ⟨.ref a, vs.length, rfl, Or.inl ⟨vs, s, rfl⟩, q _ H2 e2 (by rw [d.len]; exact Dt.ofInt _)⟩
theorem hv_lenV {xs : Tup α} (ha : Hv K M ta σ H xs) : Hv K M (tCB (fun xs H Q => ∃ x n, xs = [x] ∧ LenV K x H n ∧ Q (.int n) H) (tCons ta tNil)) σ H (xs.items.length : Int) := fun H1 e m Q q =>
  ha H1 e m _ fun v H2 e2 d => by
    obtain ⟨a, vs, rfl, s, ds⟩ := d.tupv
    exact ⟨.ref a, vs.length, rfl, Or.inr ⟨vs, ex_t msk_le s, rfl⟩, q _ H2 e2 (by rw [ds.len]; exact Dt.ofInt _)⟩
theorem hv_len2 {x : α × β} (ha : Hv K M ta σ H x) : Hv K M (tCB (fun xs H Q => ∃ x n, xs = [x] ∧ LenV K x H n ∧ Q (.int n) H) (tCons ta tNil)) σ H (2 : Int) := fun H1 e m Q q =>
  ha H1 e m _ fun v H2 e2 d => by
    obtain ⟨a, u, w, rfl, s, _⟩ := d.pair
    exact ⟨.ref a, 2, rfl, Or.inr ⟨_, ex_t msk_le s, rfl⟩, q _ H2 e2 (Dt.ofInt _)⟩
theorem hv_len3 {x : T3 α β γ} (ha : Hv K M ta σ H x) : Hv K M (tCB (fun xs H Q => ∃ x n, xs = [x] ∧ LenV K x H n ∧ Q (.int n) H) (tCons ta tNil)) σ H (3 : Int) := fun H1 e m Q q =>
  ha H1 e m _ fun v H2 e2 d => by
    obtain ⟨a, u, w, z, rfl, s, _⟩ := d.t3
    exact ⟨.ref a, 3, rfl, Or.inr ⟨_, ex_t msk_le s, rfl⟩, q _ H2 e2 (Dt.ofInt _)⟩

/-! ### isinstance -/
/-- the built-in type of every value of α -/
class TyNm (α : Type) [DecidableEq α] [Datum α] where
  nm : String
  ty : ∀ {K : PySem.W.Frag} {H : Hp} {v : V} {x : α}, Dt K H v x → TyX K H v (.type nm)
theorem tyx_ex {K : PySem.W.Frag} {H H' : Hp} {v : V} {n : String} (e : Ex H H') (h : TyX K H v (.type n)) : TyX K H' v (.type n) := by
  cases h with
  | base h =>
    cases h with
    | non => exact .base .non
    | bl b => exact .base (.bl b)
    | int b => exact .base (.int b)
    | str b => exact .base (.str b)
    | flt b => exact .base (.flt b)
    | lst h => exact .base (.lst (e _ _ h))
    | frz h => exact .base (.frz (e _ _ h))
    | tup h => exact .base (.tup (e _ _ h))
    | dK h => exact .base (.dK (e _ _ h))
    | dT h => exact .base (.dT (e _ _ h))
  | byt y => exact .byt y
  | set h => exact .set (e _ _ h)
  | kList h c => exact .kList h c
  | kTuple h c => exact .kTuple h c
  | kDict h c => exact .kDict h c
  | fTuple h => exact .fTuple (e _ _ h)
  | fDict h => exact .fDict (e _ _ h)

instance : TyNm Int := ⟨"int", fun d => by cases d.int; exact .base (.int _)⟩
instance : TyNm Bool := ⟨"bool", fun d => by cases d.bool; exact .base (.bl _)⟩
instance : TyNm Str := ⟨"str", fun d => by cases d.str; exact .base (.str _)⟩
theorem tyx_L {K : PySem.W.Frag} {H : Hp} {a : Addr} {vs : List V} (h : SqL K H a vs) : TyX K H (.ref a) (.type "list") := by
  rcases h with (h | ⟨o, h⟩) | ⟨o, its, n, h, c, _⟩
  · exact .base (.lst h)
  · exact .base (.frz h)
  · exact .kList h c
theorem tyx_T {K : PySem.W.Frag} {H : Hp} {a : Addr} {vs : List V} (h : SqT K H a vs) : TyX K H (.ref a) (.type "tuple") := by
  rcases h with (h | ⟨o, h⟩) | ⟨o, its, n, h, c, _⟩
  · exact .base (.tup h)
  · exact .fTuple h
  · exact .kTuple h c
instance : TyNm (List α) := ⟨"list", fun d => by obtain ⟨a, vs, rfl, s, _⟩ := d.list; exact tyx_L s⟩
instance : TyNm (Tup α) := ⟨"tuple", fun d => by obtain ⟨a, vs, rfl, s, _⟩ := d.tupv; exact tyx_T s⟩
instance : TyNm (α × β) := ⟨"tuple", fun d => by obtain ⟨a, u, w, rfl, s, _⟩ := d.pair; exact tyx_T s⟩
instance : TyNm (T3 α β γ) := ⟨"tuple", fun d => by obtain ⟨a, u, w, z, rfl, s, _⟩ := d.t3; exact tyx_T s⟩
theorem hv_isi {x : α} [T : TyNm α] {n : String} {b : Bool} (ha : Hv K M ta σ H x) (h : kitB T.nm n = some b) : Hv K M (tCB (rIsi K) (tCons ta (tCons (tC (.ty n)) tNil))) σ H b := fun H1 e m Q q =>
  ha H1 e m _ fun v H2 e2 d => ⟨v, .ty n, .type T.nm, .type n, b, rfl, .ty n, tyx_ex msk_le (T.ty d), kit_ty h, q _ H2 e2 (Dt.ofBool b)⟩

/-! ### == and < of data -/
theorem dt_holds {X : Cx} {pins : List (Addr × Obj)} {s : Shared} {x : α} {v : V} {u : Value} (I : Inv X pins σ H s) (d : Dt X.K H v x) (r : RelV v u) : PySem.W.Holds s.heap u x := Dp.reads I _ v u d r
def rEqT (α : Type) [DecidableEq α] [Datum α] (K : PySem.W.Frag) : R2 := fun x y H Q => ∃ a b : α, Dt K H x a ∧ Dt K H y b ∧ Q (.bl (decide (a = b))) H
def rNeT (α : Type) [DecidableEq α] [Datum α] (K : PySem.W.Frag) : R2 := fun x y H Q => ∃ a b : α, Dt K H x a ∧ Dt K H y b ∧ Q (.bl (!decide (a = b))) H
theorem op_eqT {X : Cx} (hu : X.A.units + Datum.depth α < cLine) : OpR X (compareOp .Eq) (rEqT α X.K) := by
  intro pins s σ H x y v u Q I rx ry h
  obtain ⟨a, b, da, db, q⟩ := h
  exact PySem.W.eq_datum (dt_holds I da rx) (dt_holds I db ry) hu ⟨.bl _, H, I, rfl, q⟩
theorem op_neT {X : Cx} (hu : X.A.units + Datum.depth α < cLine) : OpR X (compareOp .NotEq) (rNeT α X.K) := by
  intro pins s σ H x y v u Q I rx ry h
  obtain ⟨a, b, da, db, q⟩ := h
  exact PySem.W.ne_datum (dt_holds I da rx) (dt_holds I db ry) hu ⟨.bl _, H, I, rfl, by rw [show decide (a ≠ b) = !decide (a = b) from decide_not]; exact q⟩
theorem hv_eqT {x y : α} (ha : Hv K [] ta σ H x) (hb : Hv K [] tb σ H y) : Hv K M (tOp (rEqT α K) ta tb) σ H (decide (x = y)) := fun H1 e m Q q =>
  ha H1 e (fun _ z => nomatch z) _ fun v H2 e2 d => hb H2 (e.trans e2) (fun _ z => nomatch z) _ fun u H3 e3 d' => by
    rw [msk_nil] at d d'
    exact ⟨x, y, d.mono e3, d', q _ H3 (e2.trans e3) (Dt.ofBool _)⟩
theorem hv_neT {x y : α} (ha : Hv K [] ta σ H x) (hb : Hv K [] tb σ H y) : Hv K M (tOp (rNeT α K) ta tb) σ H (!decide (x = y)) := fun H1 e m Q q =>
  ha H1 e (fun _ z => nomatch z) _ fun v H2 e2 d => hb H2 (e.trans e2) (fun _ z => nomatch z) _ fun u H3 e3 d' => by
    rw [msk_nil] at d d'
    exact ⟨x, y, d.mono e3, d', q _ H3 (e2.trans e3) (Dt.ofBool _)⟩
end
section
variable {K : PySem.W.Frag} {M : List Addr} {H H1 H2 : Hp} {σ : L2.St} {te ta tb tl : TE}
variable {α : Type} [DecidableEq α] [DatumOrd α]
def rLtT (α : Type) [DecidableEq α] [DatumOrd α] (K : PySem.W.Frag) : R2 := fun x y H Q => ∃ a b : α, Dt K H x a ∧ Dt K H y b ∧ Q (.bl (DatumOrd.lt a b)) H
theorem op_ltT {X : Cx} (hu : X.A.units + Datum.depth α < cLine) : OpR X (compareOp .Lt) (rLtT α X.K) := by
  intro pins s σ H x y v u Q I rx ry h
  obtain ⟨a, b, da, db, q⟩ := h
  exact PySem.W.lt_datum (dt_holds I da rx) (dt_holds I db ry) hu ⟨.bl _, H, I, rfl, q⟩
theorem hv_ltT {x y : α} (ha : Hv K [] ta σ H x) (hb : Hv K [] tb σ H y) : Hv K M (tOp (rLtT α K) ta tb) σ H (DatumOrd.lt x y) := fun H1 e m Q q =>
  ha H1 e (fun _ z => nomatch z) _ fun v H2 e2 d => hb H2 (e.trans e2) (fun _ z => nomatch z) _ fun u H3 e3 d' => by
    rw [msk_nil] at d d'
    exact ⟨x, y, d.mono e3, d', q _ H3 (e2.trans e3) (Dt.ofBool _)⟩
end
theorem hud {A : Around} {k d : Nat} (hr : Room k A) (h : d ≤ 64) : A.units + d < cLine := Nat.lt_of_le_of_lt (Nat.add_le_add_left h _) hr.units
end Ly

namespace Ly
open PySem PySem.Spec PyProof.Rows L2 Evl
open PySem.W (Datum DatumOrd Tup T3 T4)

theorem dpa_inv {K : PySem.W.Frag} {H : Hp} {vs : List V} {d : PyData} {ds : List PyData} (h : DpAll K H vs (d :: ds)) : ∃ v r, vs = v :: r ∧ Dp K H v d ∧ DpAll K H r ds := by
  cases h with
  | cons a b => exact ⟨_, _, rfl, a, b⟩
theorem dpa_inv0 {K : PySem.W.Frag} {H : Hp} {vs : List V} (h : DpAll K H vs []) : vs = [] := by cases h; rfl

section
variable {K : PySem.W.Frag} {Mc : List Addr} {He H H1 H2 : Hp} {is js : Ims} {ms : Mus} {σ : L2.St} {te ta tb tl : TE}
variable {α β : Type} [DecidableEq α] [Datum α] [DecidableEq β] [Datum β]
variable {D : Ends} {tz tu tw : TS} {tt : TT} {g : TG}
/-! ### statements that name what they store -/
theorem z_asgG {i : Nat} {x : α} (s : Sg K Mc He H is ms) (h : Hv K (muA ms ++ Mc) te σ H x) (k : ∀ y, y = x → ∀ v H1, Sg K Mc He H1 ((v, Datum.toD y) :: is) ms → tz D (σ.set i (some v)) H1) : tSeq (tAsg te (gName i)) tz D σ H :=
  z_asg s h (k x rfl)
theorem z_asgIG {i : Nat} {x : Int} (s : Sg K Mc He H is ms) (h : Hv K (muA ms ++ Mc) te σ H x) (k : ∀ y, y = x → ∀ H1, Sg K Mc He H1 is ms → tz D (σ.set i (some (.int y))) H1) : tSeq (tAsg te (gName i)) tz D σ H :=
  z_asgI s h (k x rfl)
theorem z_asgBG {i : Nat} {x : Bool} (s : Sg K Mc He H is ms) (h : Hv K (muA ms ++ Mc) te σ H x) (k : ∀ y, y = x → ∀ H1, Sg K Mc He H1 is ms → tz D (σ.set i (some (.bl y))) H1) : tSeq (tAsg te (gName i)) tz D σ H :=
  z_asgB s h (k x rfl)
theorem z_asgSG {i : Nat} {x : Str} (s : Sg K Mc He H is ms) (h : Hv K (muA ms ++ Mc) te σ H x) (k : ∀ y, y = x → ∀ H1, Sg K Mc He H1 is ms → tz D (σ.set i (some (.str y))) H1) : tSeq (tAsg te (gName i)) tz D σ H :=
  z_asgS s h (k x rfl)
theorem z_augG {i : Nat} {f : Int → Int → Int} {a b : Int} (s : Sg K Mc He H is ms) (hx : σ[i]? = some (some (.int a))) (h : Hv K (muA ms ++ Mc) te σ H b) (k : ∀ y, y = f a b → ∀ H1, Sg K Mc He H1 is ms → tz D (σ.set i (some (.int y))) H1) : tSeq (tAug i te (ipI f)) tz D σ H :=
  ⟨.int a, hx, h H (Ex.refl H) s.mok _ fun v H1 e d => ⟨a, b, rfl, d.int, k _ rfl H1 (s.ex e)⟩⟩
theorem z_nilG {i : Nat} (α : Type) [DecidableEq α] [Datum α] (s : Sg K Mc He H is ms) (k : ∀ y : List α, y = [] → ∀ p H1, Sg K Mc He H1 is ((p, .lst (y.map Datum.toD)) :: ms) → tz D (σ.set i (some (.ref p))) H1) : tSeq (tAsg (tLst tNil) (gName i)) tz D σ H :=
  z_nil s (k [] rfl)
theorem zq_appG {kk : Nat} {l : Addr} {xs : List α} {x : α} (s : Sg K Mc He H is ms) (e : ms[kk]? = some (l, .lst (xs.map Datum.toD))) (hi : Ev ta σ H (.ref l)) (h : Hv K (muA ms ++ Mc) te σ H x) (hz : xs.length < 100000)
    (k : ∀ y, y = xs ++ [x] → ∀ H1, Sg K Mc He H1 is (ms.set kk (l, .lst (y.map Datum.toD))) → tz D σ H1) : tSeq (tDrop (tBM K "list" rAppend ta (tCons te tNil))) tz D σ H := zq_app s e hi h hz (k _ rfl)
theorem zq_ret {x : α} (s : Sg K Mc He H is ms) (h : Hv K (muA ms ++ Mc) te σ H x) (k : ∀ v H1, Ex He H1 → Dt K (msk Mc H1) v x → D.rt v H1) : tSeq (tRet te) tz D σ H := z_ret (D := { D with nx := tz D }) s h k
/-- an if without else -/
theorem z_ifx {b : Bool} (s : Sg K Mc He H is ms) (h : HT (muA ms ++ Mc) tt σ H b) (h1 : b = true → ∀ H1, Sg K Mc He H1 is ms → tu { D with nx := tz D } σ H1) (h2 : b = false → ∀ H1, Sg K Mc He H1 is ms → tz D σ H1) :
    tSeq (tIfS tt tu tNext) tz D σ H := z_if s h h1 h2
/-- an if behind which both ways go on, N what they reach -/
theorem z_ifj {b : Bool} (N : L2.St → Hp → Prop) (s : Sg K Mc He H is ms) (h : HT (muA ms ++ Mc) tt σ H b) (h1 : b = true → ∀ H1, Sg K Mc He H1 is ms → tu { D with nx := N } σ H1) (h2 : b = false → ∀ H1, Sg K Mc He H1 is ms → tw { D with nx := N } σ H1)
    (k : ∀ σ' H', N σ' H' → tz D σ' H') : tCut (tIfS tt tu tw) tz D σ H := ⟨N, z_ifE (D := { D with nx := N }) s h h1 h2, k⟩

/-! ### loops that name their item -/
theorem zq_forR1G {j : Nat} {n : Int} (s : Sg K Mc He H is ms) (h : Hv K (muA ms ++ Mc) te σ H n) (hn : -100000 ≤ n ∧ n ≤ 100000) (Pv : Nat → L2.St → Hp → Prop) (h0 : ∀ H1, Sg K Mc He H1 is ms → Pv 0 σ H1)
    (hs : ∀ (i : Nat) (x : Int) σ' H', x = (0 : Int) + (i : Int) → i < n.toNat → Pv i σ' H' → tu { D with nx := Pv (i + 1), ct := Pv (i + 1), bk := tz D } (σ'.set j (some (.int x))) H') (hd : ∀ σ' H', Pv n.toNat σ' H' → tz D σ' H') : tSeq (tFor (iRng1 (tCons te tNil)) (gName j) tu) tz D σ H :=
  zq_forR s h hn Pv h0 (fun i σ' H' hi p => hs i _ σ' H' (Int.zero_add _).symm (by omega) p) hd
theorem zq_forR2G {j : Nat} {lo n : Int} (s : Sg K Mc He H is ms) (h1 : Hv K (muA ms ++ Mc) ta σ H lo) (h : Hv K (muA ms ++ Mc) te σ H n) (hn : -100000 ≤ lo ∧ lo ≤ 100000 ∧ -100000 ≤ n ∧ n ≤ 100000) (Pv : Nat → L2.St → Hp → Prop) (h0 : ∀ H1, Sg K Mc He H1 is ms → Pv 0 σ H1)
    (hs : ∀ (i : Nat) (x : Int) σ' H', x = lo + (i : Int) → i < (n - lo).toNat → Pv i σ' H' → tu { D with nx := Pv (i + 1), ct := Pv (i + 1), bk := tz D } (σ'.set j (some (.int x))) H') (hd : ∀ σ' H', Pv (n - lo).toNat σ' H' → tz D σ' H') : tSeq (tFor (iRng2 (tCons ta (tCons te tNil))) (gName j) tu) tz D σ H :=
  zq_forR2 s h1 h hn Pv h0 (fun i σ' H' hi p => hs i _ σ' H' rfl (by omega) p) hd
/-- over a list, the target a name; the item put among what is known -/
theorem zq_forG {xs : List α} {j : Nat} (s : Sg K Mc He H is ms) (h : Hv K (muA ms ++ Mc) tl σ H xs) (Pv : V → Nat → L2.St → Hp → Prop) (h0 : ∀ v H1, Sg K Mc He H1 ((v, Datum.toD xs) :: is) ms → Pv v 0 σ H1)
    (hl : ∀ v i σ' H', Pv v i σ' H' → Dt K (msk (muA ms ++ Mc) H') v xs)
    (hs : ∀ v i x w σ' H', xs[i]? = some x → Pv v i σ' H' → Dt K (msk (muA ms ++ Mc) H') w x → tu { D with nx := Pv v (i + 1), ct := Pv v (i + 1), bk := tz D } (σ'.set j (some w)) H')
    (hd : ∀ v σ' H', Pv v xs.length σ' H' → tz D σ' H') : tSeq (tFor (iList K tl) (gName j) tu) tz D σ H := zq_for s h Pv h0 hl hs hd
/-- over a list that may still change (not in the loop) -/
theorem zq_forM {xs : List α} {kk : Nat} {l : Addr} {ii : Nat} (s : Sg K Mc He H is ms) (e : ms[kk]? = some (l, .lst (xs.map Datum.toD))) (hi : σ[ii]? = some (some (.ref l))) (Pv : Nat → L2.St → Hp → Prop) (h0 : ∀ H1, Sg K Mc He H1 is ms → Pv 0 σ H1)
    (hl : ∀ i σ' H', Pv i σ' H' → ∃ vs, H' l = some (.lst vs) ∧ Dts K (msk (muA ms ++ Mc) H') vs xs)
    (hs : ∀ i x w σ' H', xs[i]? = some x → Pv i σ' H' → Dt K (msk (muA ms ++ Mc) H') w x → g w σ' H' fun σ2 H2 => tu { D with nx := Pv (i + 1), ct := Pv (i + 1), bk := tz D } σ2 H2)
    (hd : ∀ σ' H', Pv xs.length σ' H' → tz D σ' H') : tSeq (tFor (iList K (tVar ii)) g tu) tz D σ H := by
  obtain ⟨vs, h1, h2⟩ := s.lst e
  refine ⟨_, hi, l, rfl, ⟨vs, SqL.of h1⟩, for_listD (D := { D with nx := tz D }) (M := muA ms ++ Mc) Pv (h0 H s) (fun i σ' H' _ p => ?_) hs hd⟩
  obtain ⟨vs', h3, h4⟩ := hl i σ' H' p
  exact ⟨vs', SqL.of h3, h4⟩
end
end Ly

namespace Ly
open PySem PySem.Spec PyProof.Rows L2 Evl
open PySem.W (Datum DatumOrd Tup T3 T4)
theorem dts_ints {K : PySem.W.Frag} {H : Hp} : ∀ ns : List Int, Dts K H (ns.map V.int) ns
  | [] => Dts.nil
  | n :: r => Dts.cons (Dt.ofInt n) (dts_ints r)
/-- the law's promise is kept where its mirror is true -/
theorem law_sp {K : PySem.W.Frag} {F : List Int → Bool} {pre : List Int → Prop} {H : Hp} {a : Addr} {ns : List Int} {E : XK} (h : SqL K H a (ns.map V.int)) (p : pre ns) (t : F ns = true) :
    PrD K (fun c : List Int => [Datum.toD c]) pre F [.ref a] H (fun v _ => v = .bl true) E := by
  refine ⟨[], ns, (fun _ z => nomatch z), ?_, p, fun w H' e d => ?_⟩
  · rw [msk_nil]
    exact .cons (Dt.ofList h (dts_ints ns)) .nil
  · rw [d.bool, t]
end Ly

namespace Ly
open PySem PySem.Spec PyProof.Rows L2 Evl
open PySem.W (Datum DatumOrd Tup T3 T4)

section
variable {K : PySem.W.Frag} {Mc M : List Addr} {He H H1 H2 : Hp} {is js : Ims} {ms : Mus} {σ : L2.St} {te ta tb tl : TE} {tt : TT} {g : TG} {tlo thi : TO}
variable {α β γ δ : Type} [DecidableEq α] [Datum α] [DecidableEq β] [Datum β] [DecidableEq γ] [Datum γ] [DecidableEq δ] [Datum δ]
/-! ### parts of lists, copies -/
def HO' (M : List Addr) (to : TO) (σ : L2.St) (H : Hp) (o : Option Int) : Prop := ∀ H1, Ex H H1 → MOk M H1 → ∀ Q : Option Int → Hp → Prop, (∀ H2, Ex H1 H2 → Q o H2) → to σ H1 Q
theorem ho_none : HO' M tNoPart σ H none := fun H1 _ _ _ q => q H1 (Ex.refl H1)
theorem ho_some {i : Int} (h : Hv K M te σ H i) : HO' M (tPart te) σ H (some i) := fun H1 e m _ q => h H1 e m _ fun v H2 e2 d => ⟨i, d.int, q H2 e2⟩
def cutL {α : Type} (xs : List α) (lo hi : Option Int) : List α := (xs.drop (HT.sIx xs.length 0 lo)).take (HT.sIx xs.length xs.length hi - HT.sIx xs.length 0 lo)
theorem dpa_drop {H : Hp} : ∀ {vs : List V} {ds : List PyData} (n : Nat), DpAll K H vs ds → DpAll K H (vs.drop n) (ds.drop n)
  | _, _, 0, h => h
  | _, _, n + 1, .nil => .nil
  | _, _, n + 1, .cons a b => dpa_drop n b
theorem dpa_take {H : Hp} : ∀ {vs : List V} {ds : List PyData} (n : Nat), DpAll K H vs ds → DpAll K H (vs.take n) (ds.take n)
  | _, _, 0, h => by simpa using DpAll.nil
  | _, _, n + 1, .nil => .nil
  | _, _, n + 1, .cons a b => .cons a (dpa_take n b)
theorem Dts.cut {H : Hp} {vs : List V} {xs : List α} {lo hi : Option Int} (h : Dts K H vs xs) : Dts K H (cutV vs lo hi) (cutL xs lo hi) := by
  unfold cutV cutL Dts
  rw [h.len, List.map_take, List.map_drop]
  exact dpa_take _ (dpa_drop _ h)
theorem hv_slice {xs : List α} {lo hi : Option Int} (h : HS K M te σ H xs) (h1 : HO' M tlo σ H lo) (h2 : HO' M thi σ H hi) : Hv K M (tSl (rSlL K) te tlo thi) σ H (cutL xs lo hi) := fun H1 e m Q q =>
  h H1 e m _ fun a vs H2 e2 s d => h1 H2 (e.trans e2) (m.ex e2) _ fun H3 e3 => h2 H3 ((e.trans e2).trans e3) ((m.ex e2).ex e3) _ fun H4 e4 =>
    ⟨a, vs, rfl, ex_l (e3.trans e4) s, fun p hp => by
      have m4 := ((m.ex e2).ex e3).ex e4
      have e5 : Ex H4 (upd H4 p (.lst (cutV vs lo hi))) := Ex.new hp
      exact q _ _ (((e2.trans e3).trans e4).trans e5) (Dt.ofList (SqL.of (msk_at m4 hp)) ((d.mono (msk_ex ((e3.trans e4).trans e5))).cut))⟩
theorem hv_listOf {xs : List α} (h : HS K M te σ H xs) : Hv K M (tCB (fun xs H Q => ∃ p ys, xs = [.ref p] ∧ (SqL K H p ys ∨ SqT K H p ys) ∧ ∀ l, H l = none → Q (.ref l) (upd H l (.lst ys))) (tCons te tNil)) σ H xs := fun H1 e m Q q =>
  h H1 e m _ fun a vs H2 e2 s d => ⟨a, vs, rfl, Or.inl s, fun p hp => by
    have e3 : Ex H2 (upd H2 p (.lst vs)) := Ex.new hp
    exact q _ _ (e2.trans e3) (Dt.ofList (SqL.of (msk_at (m.ex e2) hp)) (d.mono (msk_ex e3)))⟩
theorem hv_listOfV {xs : Tup α} (h : Hv K M te σ H xs) : Hv K M (tCB (fun xs H Q => ∃ p ys, xs = [.ref p] ∧ (SqL K H p ys ∨ SqT K H p ys) ∧ ∀ l, H l = none → Q (.ref l) (upd H l (.lst ys))) (tCons te tNil)) σ H xs.items := fun H1 e m Q q =>
  h H1 e m _ fun v H2 e2 d => by
    obtain ⟨a, vs, rfl, s, ds⟩ := d.tupv
    refine ⟨a, vs, rfl, Or.inr (ex_t msk_le s), fun p hp => ?_⟩
    have e3 : Ex H2 (upd H2 p (.lst vs)) := Ex.new hp
    exact q _ _ (e2.trans e3) (Dt.ofList (SqL.of (msk_at (m.ex e2) hp)) (ds.mono (msk_ex e3)))
theorem hv_tupleOf {xs : List α} (h : HS K M te σ H xs) : Hv K M (tCB (fun xs H Q => ∃ p ys, xs = [.ref p] ∧ ((SqL K H p ys ∧ ∀ l, H l = none → Q (.ref l) (upd H l (.tup ys))) ∨ (SqT K H p ys ∧ Q (.ref p) H))) (tCons te tNil)) σ H (Tup.mk xs) := fun H1 e m Q q =>
  h H1 e m _ fun a vs H2 e2 s d => ⟨a, vs, rfl, Or.inl ⟨s, fun p hp => by
    have e3 : Ex H2 (upd H2 p (.tup vs)) := Ex.new hp
    exact q _ _ (e2.trans e3) (Dt.ofTupv (SqT.of (msk_at (m.ex e2) hp)) (d.mono (msk_ex e3)))⟩⟩
theorem hv_cat {xs ys : List α} (ha : HS K M ta σ H xs) (hb : HS K M tb σ H ys) (hz : xs.length + ys.length ≤ 100000) :
    Hv K M (tOp (fun x y H Q => ∃ a b xs ys, x = .ref a ∧ y = .ref b ∧ SqL K H a xs ∧ SqL K H b ys ∧ xs.length + ys.length ≤ sizeLine ∧ ∀ p, H p = none → Q (.ref p) (upd H p (.lst (xs ++ ys)))) ta tb) σ H (xs ++ ys) := fun H1 e m Q q =>
  ha H1 e m _ fun a vs H2 e2 s d => hb H2 (e.trans e2) (m.ex e2) _ fun b ws H3 e3 s' d' =>
    ⟨a, b, vs, ws, rfl, rfl, ex_l e3 s, s', sz_of (by rw [d.len, d'.len]; exact hz), fun p hp => by
      have m3 := (m.ex e2).ex e3
      have e4 : Ex H3 (upd H3 p (.lst (vs ++ ws))) := Ex.new hp
      exact q _ _ ((e2.trans e3).trans e4) (Dt.ofList (SqL.of (msk_at m3 hp)) ((d.mono (msk_ex (e3.trans e4))).app (d'.mono (msk_ex e4))))⟩
/-! ### truth, None -/
theorem ht_truL {xs : List α} (h : HS K M te σ H xs) : HT M (fun σ H Q => te σ H fun x H' => ∃ k, TruV K x H' k ∧ Q k H') σ H (!xs.isEmpty) := fun H1 e m Q q =>
  h H1 e m _ fun a vs H2 e2 s d => ⟨!vs.isEmpty, Or.inl ⟨vs, s, rfl⟩, by
    have : vs.isEmpty = xs.isEmpty := by
      have := d.len
      cases vs <;> cases xs <;> simp_all
    rw [this]
    exact q H2 e2⟩
theorem dt_none [PySem.W.SomeDatum α] {v : V} {x : Option α} (d : Dt K H v x) : decide (v = .non) = x.isNone := by
  cases x with
  | none => cases (show Dp K H v .none from d); rfl
  | some a =>
    have n := PySem.W.SomeDatum.left a
    have d' : Dp K H v (Datum.toD a) := d
    generalize Datum.toD a = z at n d'
    cases d' with
    | non => simp [PyData.eqv] at n
    | _ => rfl
theorem hv_isN [PySem.W.SomeDatum α] {x : Option α} (h : Hv K M ta σ H x) : Hv K M (tOp (fun x y H Q => y = .non ∧ Q (.bl (decide (x = .non))) H) ta (tC .non)) σ H x.isNone := fun H1 e m Q q =>
  h H1 e m _ fun v H2 e2 d => ⟨rfl, q _ H2 e2 (by rw [dt_none d]; exact Dt.ofBool _)⟩
theorem hv_notN [PySem.W.SomeDatum α] {x : Option α} (h : Hv K M ta σ H x) : Hv K M (tOp (fun x y H Q => y = .non ∧ Q (.bl (!decide (x = .non))) H) ta (tC .non)) σ H (!x.isNone) := fun H1 e m Q q =>
  h H1 e m _ fun v H2 e2 d => ⟨rfl, q _ H2 e2 (by rw [dt_none d]; exact Dt.ofBool _)⟩
theorem hv_un [PySem.W.SomeDatum α] {x : α} (h : Hv K M te σ H (some x)) : Hv K M te σ H x := fun H1 e m Q q => h H1 e m Q fun v H2 e2 d => q v H2 e2 d

/-! ### comprehensions -/
theorem take_snoc {xs : List α} {i : Nat} {x : α} (h : xs[i]? = some x) : xs.take (i + 1) = xs.take i ++ [x] := by
  rw [List.take_add_one, h]; rfl
theorem lc_listD {a : Addr} {xs : List α} {vs : List Nat} {D : Addr} {Qd : Hp → Prop} {M' : List Addr} (Pv : Nat → Hp → Prop) (h0 : Pv 0 (upd H1 D (.lst []))) (hl : ∀ i H', i ≤ xs.length → Pv i H' → ∃ us, SqL K H' a us ∧ Dts K (msk M' H') us xs)
    (hs : ∀ i x w H', xs[i]? = some x → Pv i H' → Dt K (msk M' H') w x → g w (wipe σ vs) H' fun σ2 H2 => wipe σ2 vs = wipe σ vs ∧ tt σ2 H2 fun b H3 =>
      if b = true then te σ2 H3 fun y H4 => ∃ acc, H4 D = some (.lst acc) ∧ acc.length < sizeLine ∧ Pv (i + 1) (upd H4 D (.lst (acc ++ [y]))) else Pv (i + 1) H3) (hd : ∀ H', Pv xs.length H' → Qd H') :
    ∃ W : Nat → Nat → Hp → Prop, (∃ m, W 0 m (upd H1 D (.lst []))) ∧ ∀ i m H, W i m H →
      ((Itl K a).stop i H ∧ Qd H) ∨ ((Itl K a).go i H ∧ ∃ Nx : Hp → Prop, (∀ H', Nx H' → ∃ m', m' < m ∧ W (i + 1) m' H') ∧ ∀ x H', (Itl K a).yld i H x H' → g x (wipe σ vs) H' fun σ2 H2 => wipe σ2 vs = wipe σ vs ∧ tt σ2 H2 fun b H3 =>
        if b = true then te σ2 H3 fun y H4 => ∃ acc, H4 D = some (.lst acc) ∧ acc.length < sizeLine ∧ Nx (upd H4 D (.lst (acc ++ [y]))) else Nx H3) := by
  refine ⟨fun i m H => m = xs.length - i ∧ i ≤ xs.length ∧ Pv i H, ⟨xs.length, by simp, Nat.zero_le _, h0⟩, ?_⟩
  rintro i m H ⟨rfl, hi, p⟩
  obtain ⟨us, q, ds⟩ := hl i H hi p
  have el := ds.len
  by_cases hlt : i < xs.length
  · refine .inr ⟨⟨us, us[i]'(by omega), q, by simp [show i < us.length by omega]⟩, Pv (i + 1), fun H' p' => ⟨xs.length - (i + 1), by omega, rfl, hlt, p'⟩, fun x H' y => ?_⟩
    obtain ⟨e, y⟩ := y
    subst e
    obtain ⟨w, h1, h2⟩ := ds.at (i := i) (x := xs[i]) (by simp [hlt])
    have e1 : x = w := Option.some.inj ((y us q).symm.trans h1)
    subst e1
    exact hs i _ x _ (by simp [hlt]) p h2
  · have e : i = xs.length := by omega
    subst e
    exact .inl ⟨⟨us, q, by omega⟩, hd H p⟩
/-- a turn's end: the item goes behind the others, or not -/
theorem lc_turn {D : Addr} {ys zs : List β} {b : Bool} {y : β} {σ2 : L2.St} (s : Sg K Mc He H is ((D, .lst (ys.map Datum.toD)) :: ms)) (hz : ys.length < 50000) (N : Hp → Prop)
    (ht : HT (muA ((D, Mv.lst (ys.map Datum.toD)) :: ms) ++ Mc) tt σ2 H b) (he : b = true → Hv K (muA ((D, Mv.lst (ys.map Datum.toD)) :: ms) ++ Mc) te σ2 H y)
    (hzs : zs = if b = true then ys ++ [y] else ys) (hN : ∀ H', (∃ H4, Ex H H4 ∧ (H' = H4 ∨ ∃ o, H' = upd H4 D o)) → Sg K Mc He H' is ((D, .lst (zs.map Datum.toD)) :: ms) → N H') :
    tt σ2 H fun b' H3 => if b' = true then te σ2 H3 fun v H4 => ∃ acc, H4 D = some (.lst acc) ∧ acc.length < sizeLine ∧ N (upd H4 D (.lst (acc ++ [v]))) else N H3 := by
  refine ht H (Ex.refl H) s.mok _ fun H3 e3 => ?_
  cases b with
  | false =>
    show N H3
    rw [if_neg Bool.false_ne_true] at hzs
    subst hzs
    exact hN H3 ⟨H3, e3, .inl rfl⟩ (s.ex e3)
  | true =>
    show te σ2 H3 fun v H4 => ∃ acc, H4 D = some (.lst acc) ∧ acc.length < sizeLine ∧ N (upd H4 D (.lst (acc ++ [v])))
    rw [if_pos rfl] at hzs
    subst hzs
    refine he rfl H3 e3 ((s.ex e3).mok) _ fun v H4 e4 d => ?_
    have s4 := (s.ex e3).ex e4
    obtain ⟨us, h1, h2⟩ := s4.lst (k := 0) rfl
    refine ⟨us, h1, sz_lt (by rw [h2.len]; omega), hN _ ⟨H4, e3.trans e4, .inr ⟨_, rfl⟩⟩ (s4.set (k := 0) (m' := .lst ((ys ++ [y]).map Datum.toD)) rfl ⟨_, rfl, ?_⟩)⟩
    rw [List.map_append]
    exact dpa_app h2 (.cons d .nil)
theorem filter_snoc {f : α → Bool} {ef : α → β} {xs : List α} {i : Nat} {x : α} (h : xs[i]? = some x) : ((xs.take (i + 1)).filter f).map ef = if f x = true then ((xs.take i).filter f).map ef ++ [ef x] else ((xs.take i).filter f).map ef := by
  rw [take_snoc h, List.filter_append, List.map_append]
  by_cases e : f x = true
  · rw [if_pos e]; simp [List.filter_cons, e]
  · rw [if_neg e]; simp [List.filter_cons, e]
theorem hv_lcL {vs : List Nat} (s : Sg K Mc He H is ms) {xs : List α} (f : α → Bool) (ef : α → β) (h : Hv K (muA ms ++ Mc) tl σ H xs) (hz : xs.length ≤ 40000)
    (hb : ∀ D src x w (ys : List β) H1, Sg K Mc He H1 ((w, Datum.toD x) :: (src, Datum.toD xs) :: is) ((D, .lst (ys.map Datum.toD)) :: ms) → x ∈ xs →
      ∀ Q : L2.St → Hp → Prop, (∀ σ2, wipe σ2 vs = wipe σ vs → HT (muA ((D, Mv.lst (ys.map Datum.toD)) :: ms) ++ Mc) tt σ2 H1 (f x) → (f x = true → Hv K (muA ((D, Mv.lst (ys.map Datum.toD)) :: ms) ++ Mc) te σ2 H1 (ef x)) → Q σ2 H1) → g w (wipe σ vs) H1 Q) :
    Hv K (muA ms ++ Mc) (tLc (iList K tl) g tt te vs) σ H ((xs.filter f).map ef) := fun H1 e m Q q =>
  h H1 e m _ fun v H2 e2 d => by
    obtain ⟨a, us, rfl, s1, ds⟩ := d.list
    refine ⟨a, rfl, ⟨us, ex_l msk_le s1⟩, fun D hD => ?_⟩
    have sA : Sg K Mc He H2 ((.ref a, Datum.toD xs) :: is) ms := ((s.ex e).ex e2).put d
    have sB : Sg K Mc He (upd H2 D (.lst [])) ((.ref a, Datum.toD xs) :: is) ((D, .lst (([] : List β).map Datum.toD)) :: ms) := sA.new hD ⟨[], rfl, .nil⟩
    refine lc_listD (xs := xs) (M' := D :: (muA ms ++ Mc)) (fun i H' => Ex H2 H' ∧ Sg K Mc He H' ((.ref a, Datum.toD xs) :: is) ((D, .lst ((((xs.take i).filter f).map ef).map Datum.toD)) :: ms)) ⟨Ex.new hD, sB⟩
      (fun i H' _ p => ?_) (fun i x w H' hx p dw => ?_) (fun H' p => ?_)
    · obtain ⟨a', us', e', s2, ds'⟩ := Dt.list (α := α) p.2.im.1
      cases e'
      exact ⟨us', ex_l msk_le s2, ds'⟩
    · have hi : i < xs.length := (List.getElem?_eq_some_iff.mp hx).1
      refine hb D (.ref a) x w _ H' (p.2.put dw) (List.mem_of_getElem? hx) _ fun σ2 hw ht he => ⟨hw, ?_⟩
      have hlen : (((xs.take i).filter f).map ef).length < 50000 := by
        rw [List.length_map]
        have := List.length_filter_le f (xs.take i)
        rw [List.length_take] at this
        omega
      have key := lc_turn (ms := ms) (zs := ((xs.take (i + 1)).filter f).map ef) p.2 hlen (fun H3 => Ex H2 H3 ∧ Sg K Mc He H3 ((.ref a, Datum.toD xs) :: is) ((D, .lst ((((xs.take (i + 1)).filter f).map ef).map Datum.toD)) :: ms)) ht he (filter_snoc hx) (fun H3 h4 s3 => ⟨by
        obtain ⟨H4, e4, e5⟩ := h4
        rcases e5 with e5 | ⟨o, e5⟩
        · rw [e5]; exact p.1.trans e4
        · rw [e5]; exact Ex.mut (p.1.trans e4) hD, s3⟩)
      exact key
    · have z := p.2
      rw [List.take_length] at z
      exact q _ H' (e2.trans p.1) (z.frz).im.1

/-- without a test -/
theorem hv_lcL0 {vs : List Nat} (s : Sg K Mc He H is ms) {xs : List α} (ef : α → β) (h : Hv K (muA ms ++ Mc) tl σ H xs) (hz : xs.length ≤ 40000)
    (hb : ∀ D src x w (ys : List β) H1, Sg K Mc He H1 ((w, Datum.toD x) :: (src, Datum.toD xs) :: is) ((D, .lst (ys.map Datum.toD)) :: ms) → x ∈ xs →
      ∀ Q : L2.St → Hp → Prop, (∀ σ2, wipe σ2 vs = wipe σ vs → Hv K (muA ((D, Mv.lst (ys.map Datum.toD)) :: ms) ++ Mc) te σ2 H1 (ef x) → Q σ2 H1) → g w (wipe σ vs) H1 Q) :
    Hv K (muA ms ++ Mc) (tLc (iList K tl) g tYes te vs) σ H (xs.map ef) := by
  have key := hv_lcL (g := g) (tt := tYes) (te := te) (vs := vs) s (fun _ => true) ef h hz (fun D src x w ys H1 s1 hx Q k => hb D src x w ys H1 s1 hx Q fun σ2 hw he => k σ2 hw (fun H2 _ _ _ q => q H2 (Ex.refl H2)) fun _ => he)
  exact key.is (by rw [List.filter_eq_self.mpr (fun _ _ => rfl)])
/-- 0, 1, .. below n -/
def irng (lo : Int) (n : Nat) : List Int := (List.range n).map fun (i : Nat) => lo + (i : Int)
theorem irng_get {lo : Int} {n i : Nat} (h : i < n) : (irng lo n)[i]? = some (lo + (i : Int)) := by
  unfold irng
  rw [List.getElem?_map, List.getElem?_range h]
  rfl
theorem irng_len {lo : Int} {n : Nat} : (irng lo n).length = n := by unfold irng; rw [List.length_map, List.length_range]
theorem hv_lcR {vs : List Nat} (s : Sg K Mc He H is ms) {n : Int} (f : Int → Bool) (ef : Int → β) (h : Hv K (muA ms ++ Mc) ta σ H n) (hz : -100000 ≤ n ∧ n ≤ 40000)
    (hb : ∀ D (x : Int) (ys : List β) H1, Sg K Mc He H1 is ((D, .lst (ys.map Datum.toD)) :: ms) → 0 ≤ x ∧ x < n →
      ∀ Q : L2.St → Hp → Prop, (∀ σ2, wipe σ2 vs = wipe σ vs → HT (muA ((D, Mv.lst (ys.map Datum.toD)) :: ms) ++ Mc) tt σ2 H1 (f x) → (f x = true → Hv K (muA ((D, Mv.lst (ys.map Datum.toD)) :: ms) ++ Mc) te σ2 H1 (ef x)) → Q σ2 H1) → g (.int x) (wipe σ vs) H1 Q) :
    Hv K (muA ms ++ Mc) (tLc (iRng1 (tCons ta tNil)) g tt te vs) σ H (((irng 0 n.toNat).filter f).map ef) := fun H1 e m Q q =>
  h H1 e m _ fun v H2 e2 d => by
    refine ⟨n, by rw [d.int], by omega, by omega, fun D hD => ?_⟩
    have sA : Sg K Mc He H2 is ms := (s.ex e).ex e2
    have sB : Sg K Mc He (upd H2 D (.lst [])) is ((D, .lst (([] : List β).map Datum.toD)) :: ms) := sA.new hD ⟨[], rfl, .nil⟩
    refine lc_range (lo := 0) (n := n.toNat) (fun i H' => Ex H2 H' ∧ Sg K Mc He H' is ((D, .lst (((((irng 0 n.toNat).take i).filter f).map ef).map Datum.toD)) :: ms)) ⟨Ex.new hD, sB⟩
      (fun i H' hi p => ?_) (fun H' p => ?_)
    · have hx : (irng 0 n.toNat)[i]? = some ((0 : Int) + (i : Int)) := irng_get hi
      refine hb D ((0 : Int) + (i : Int)) _ H' p.2 ⟨by omega, by omega⟩ _ fun σ2 hw ht he => ⟨hw, ?_⟩
      have hlen : ((((irng 0 n.toNat).take i).filter f).map ef).length < 50000 := by
        rw [List.length_map]
        have := List.length_filter_le f ((irng 0 n.toNat).take i)
        rw [List.length_take, irng_len] at this
        omega
      exact lc_turn (ms := ms) (zs := (((irng 0 n.toNat).take (i + 1)).filter f).map ef) p.2 hlen (fun H3 => Ex H2 H3 ∧ Sg K Mc He H3 is ((D, .lst (((((irng 0 n.toNat).take (i + 1)).filter f).map ef).map Datum.toD)) :: ms)) ht he (filter_snoc hx) (fun H3 h4 s3 => ⟨by
        obtain ⟨H4, e4, e5⟩ := h4
        rcases e5 with e5 | ⟨o, e5⟩
        · rw [e5]; exact p.1.trans e4
        · rw [e5]; exact Ex.mut (p.1.trans e4) hD, s3⟩)
    · have z := p.2
      have et : (irng 0 n.toNat).take n.toNat = irng 0 n.toNat := List.take_of_length_le (by rw [irng_len]; exact Nat.le_refl _)
      rw [et] at z
      exact q _ H' (e2.trans p.1) (z.frz).im.1
theorem hv_lcR0 {vs : List Nat} (s : Sg K Mc He H is ms) {n : Int} (ef : Int → β) (h : Hv K (muA ms ++ Mc) ta σ H n) (hz : -100000 ≤ n ∧ n ≤ 40000)
    (hb : ∀ D (x : Int) (ys : List β) H1, Sg K Mc He H1 is ((D, .lst (ys.map Datum.toD)) :: ms) → 0 ≤ x ∧ x < n →
      ∀ Q : L2.St → Hp → Prop, (∀ σ2, wipe σ2 vs = wipe σ vs → Hv K (muA ((D, Mv.lst (ys.map Datum.toD)) :: ms) ++ Mc) te σ2 H1 (ef x) → Q σ2 H1) → g (.int x) (wipe σ vs) H1 Q) :
    Hv K (muA ms ++ Mc) (tLc (iRng1 (tCons ta tNil)) g tYes te vs) σ H ((irng 0 n.toNat).map ef) := by
  have key := hv_lcR (g := g) (tt := tYes) (te := te) (vs := vs) s (fun _ => true) ef h hz (fun D x ys H1 s1 hx Q k => hb D x ys H1 s1 hx Q fun σ2 hw he => k σ2 hw (fun H2 _ _ _ q => q H2 (Ex.refl H2)) fun _ => he)
  exact key.is (by rw [List.filter_eq_self.mpr (fun _ _ => rfl)])
end
/-! ### the least of a list -/
section
variable {K : PySem.W.Frag} {M : List Addr} {σ : L2.St} {H : Hp} {te : TE}
variable {α : Type} [DecidableEq α] [DatumOrd α]
theorem toD_inj {a b : α} (h : Datum.toD a = Datum.toD b) : a = b := by
  have e := Datum.eqv a b
  rw [h, Datum.eqv b b] at e
  simpa using e.symm
theorem holds_inj {h : Heap} {v : Value} {a b : α} (x : PySem.W.Holds h v a) (y : PySem.W.Holds h v b) : a = b := by
  obtain ⟨as, r⟩ := x
  obtain ⟨bs, r'⟩ := y
  exact toD_inj (PySem.W.alike_unique _ _ _ _ _ (DatumOrd.alike a b) r r')
def minL (l : List α) (d : α) : α := match l with
  | [] => d
  | x :: r => PySem.W.minOf x r
def rMinT (α : Type) [DecidableEq α] [DatumOrd α] (K : PySem.W.Frag) : List V → Hp → VK → Prop := fun vs H Q => ∃ (a : Addr) (us : List V) (x : α) (xs : List α), vs = [V.ref a] ∧ SqL K H a us ∧ Dts K H us (x :: xs) ∧ ∀ (i : Nat) (v : V), us[i]? = some v → (x :: xs)[i]? = some (PySem.W.minOf x xs) → Q v H
theorem dts_holdAll {X : Cx} {pins : List (Addr × Obj)} {s : Shared} (I : L2.Inv X pins σ H s) {us : List V} {its : List Value} {xs : List α} (d : Dts X.K H us xs) (r : Vals us its) : PySem.W.HoldAll s.heap its xs := Dp.readsAll I _ us its d r
theorem call_minT {X : Cx} (hc : X.calm = true) (hu : X.A.units + 1 + Datum.depth α < cLine) : CallR X (.builtin "min") (rMinT α X.K) := by
  intro pins s σ H vs us Q I r h
  obtain ⟨a, ws, x, xs, rfl, hS, hD, q⟩ := h
  obtain ⟨u, rfl, rx⟩ := vals1 r
  cases rx
  obtain ⟨its, rv, pl, hz⟩ := I.list hS
  refine PySem.W.min_list_datum (I.ok.hd hc) pl.isList (dts_holdAll I hD rv) hu fun i v h' tk hi hold kk => ?_
  have hi' : its[i]? = some v := by simpa using hi
  have hlen := rv.length
  have hil : i < ws.length := by
    have := (List.getElem?_eq_some_iff.mp hi').1
    omega
  obtain ⟨u', e1, e2⟩ := rv.get (i := i) (x := ws[i]) (by simp [hil])
  rw [hi'] at e1
  cases e1
  have hx2 : ∃ z, (x :: xs)[i]? = some z := ⟨(x :: xs)[i]'(by rw [← hD.len]; exact hil), by simp [hD.len ▸ hil]⟩
  obtain ⟨z, hz2⟩ := hx2
  obtain ⟨w, w1, w2⟩ := hD.at hz2
  have ew : w = ws[i] := by
    rw [List.getElem?_eq_getElem hil] at w1
    exact (Option.some.inj w1).symm
  subst ew
  have I' : L2.Inv X pins σ H { s with heap := h', toks := tk } := I.kept kk
  have ez : z = PySem.W.minOf x xs := holds_inj (dt_holds I' w2 e2) hold
  exact ⟨_, H, I', e2, q i _ (by simp [hil]) (by rw [← ez]; exact hz2)⟩
theorem hv_min {xs : List α} (d : α) (h : HS K M te σ H xs) (hne : xs ≠ []) : Hv K M (tCB (rMinT α K) (tCons te tNil)) σ H (minL xs d) := fun H1 e m Q q =>
  h H1 e m _ fun a vs H2 e2 s ds => by
    cases xs with
    | nil => exact absurd rfl hne
    | cons x r =>
      refine ⟨a, vs, x, r, rfl, s, ds.mono msk_le, fun i v hv hx => ?_⟩
      obtain ⟨w, w1, w2⟩ := ds.at hx
      rw [hv] at w1
      cases w1
      exact q v H2 e2 w2
end
theorem hud1 {A : Around} {k d : Nat} (hr : Room k A) (h : 1 + d ≤ 64) : A.units + 1 + d < cLine := by
  have := hud hr h
  omega
/-! ### what a loop keeps -/
theorem loopN_keep {S : Type} {f : S → Int → S} (P : S → Nat → Prop) (h : ∀ s k j, P s j → P (f s k) (j + 1)) : ∀ (n : Nat) (k : Int) (s : S) (j : Nat), P s j → P (loopN f n k s) (j + n)
  | 0, _, _, _, p => p
  | n + 1, k, s, j, p => by
    have := loopN_keep P h n (k + 1) (f s k) (j + 1) (h s k j p)
    show P (loopN f n (k + 1) (f s k)) (j + (n + 1))
    rw [show j + (n + 1) = j + 1 + n by omega]
    exact this
theorem sIx_nn {n d : Nat} {i : Int} (h : 0 ≤ i) : HT.sIx n d (some i) = min i.toNat n := by
  have e : i = ((i.toNat : Nat) : Int) := (Int.toNat_of_nonneg h).symm
  rw [e]
  exact HT.sIx_nat n d i.toNat
theorem cutL_from {α : Type} {xs : List α} {i : Int} (h : 0 ≤ i) : cutL xs (some i) none = xs.drop i.toNat := by
  unfold cutL
  rw [sIx_nn h, HT.sIx_none]
  by_cases e : i.toNat ≤ xs.length
  · rw [Nat.min_eq_left e]
    exact List.take_of_length_le (by rw [List.length_drop]; exact Nat.le_refl _)
  · rw [Nat.min_eq_right (by omega), List.drop_eq_nil_of_le (Nat.le_refl _), List.drop_eq_nil_of_le (by omega)]
    exact List.take_nil
theorem cutL_to {α : Type} {xs : List α} {i : Int} (h : 0 ≤ i) : cutL xs none (some i) = xs.take i.toNat := by
  unfold cutL
  rw [sIx_nn h, HT.sIx_none, List.drop_zero, Nat.sub_zero, List.take_eq_take_iff]
  omega
end Ly

namespace Ly
open PySem PySem.Spec PyProof.Rows L2 Evl
open PySem.W (Datum DatumOrd Tup T3 T4 minOf)
section
variable {α : Type} [DecidableEq α] [DatumOrd α]
theorem lt_irrefl (a : α) : DatumOrd.lt a a = false := by
  rw [← DatumOrd.lt_eq]; exact PySem.W.dataLt_self _
theorem lt_trans {a b c : α} (h : DatumOrd.lt a b = true) (h' : DatumOrd.lt b c = true) : DatumOrd.lt a c = true := by
  rw [← DatumOrd.lt_eq] at h h' ⊢
  exact lex_trans _ _ _ h h'
theorem lt_total {a b : α} (h : DatumOrd.lt a b = false) (h' : DatumOrd.lt b a = false) : Datum.toD a = Datum.toD b ∨ PySem.W.keyToks (Datum.toD a) = PySem.W.keyToks (Datum.toD b) := by
  rw [← DatumOrd.lt_eq] at h h'
  exact .inr (lex_total _ _ h h')
theorem lt_neg {a b c : α} (h : DatumOrd.lt a c = true) : DatumOrd.lt a b = true ∨ DatumOrd.lt b c = true := by
  rw [← DatumOrd.lt_eq] at h
  rw [← DatumOrd.lt_eq, ← DatumOrd.lt_eq]
  exact lex_negTrans _ _ _ h
theorem minOf_spec : ∀ (xs : List α) (x : α), minOf x xs ∈ x :: xs ∧ ∀ y ∈ x :: xs, DatumOrd.lt y (minOf x xs) = false
  | [], x => ⟨List.mem_cons_self, fun y hy => by
    have e : y = x := by simpa using hy
    rw [e]; exact lt_irrefl x⟩
  | z :: r, x => by
    have e : minOf x (z :: r) = minOf (if DatumOrd.lt z x = true then z else x) r := rfl
    rw [e]
    by_cases h : DatumOrd.lt z x = true
    · rw [if_pos h]
      obtain ⟨h1, h2⟩ := minOf_spec r z
      refine ⟨?_, fun y hy => ?_⟩
      · rcases List.mem_cons.mp h1 with q | q
        · rw [q]; simp
        · simp [q]
      · rcases List.mem_cons.mp hy with q | q
        · subst q
          cases hq : DatumOrd.lt y (minOf z r) with
          | false => rfl
          | true => exact absurd (lt_trans h hq) (by rw [h2 z List.mem_cons_self]; decide)
        · exact h2 y q
    · rw [if_neg h]
      obtain ⟨h1, h2⟩ := minOf_spec r x
      refine ⟨?_, fun y hy => ?_⟩
      · rcases List.mem_cons.mp h1 with q | q
        · rw [q]; simp
        · simp [q]
      · rcases List.mem_cons.mp hy with q | q
        · subst q; exact h2 y List.mem_cons_self
        · rcases List.mem_cons.mp q with q | q
          · subst q
            cases hq : DatumOrd.lt y (minOf x r) with
            | false => rfl
            | true =>
              rcases lt_neg (b := x) hq with q2 | q2
              · exact absurd q2 h
              · exact absurd q2 (by rw [h2 x List.mem_cons_self]; decide)
          · exact h2 y (List.mem_cons_of_mem _ q)
end
end Ly

namespace Ly
open PySem PySem.Spec PyProof.Rows L2 Evl
open PySem.W (Datum DatumOrd Tup T3 T4 minOf)
section
variable {K : PySem.W.Frag} {Mc M : List Addr} {He H H1 H2 : Hp} {is js : Ims} {ms : Mus} {σ : L2.St} {te ta tb tl : TE} {tt : TT} {g : TG} {tlo thi : TO}
variable {D : Ends} {tz tu tw : TS}
/-! ### texts -/
theorem hv_addS {a b : Str} (ha : Hv K M ta σ H a) (hb : Hv K M tb σ H b) (hz : a.length + b.length ≤ 100000) :
    Hv K M (tOp (fun x y H Q => ∃ i j, x = .str i ∧ y = .str j ∧ i.length + j.length ≤ sizeLine ∧ Q (.str (i ++ j)) H) ta tb) σ H (a ++ b) := fun H1 e m Q q =>
  ha H1 e m _ fun v H2 e2 d => hb H2 (e.trans e2) (m.ex e2) _ fun u H3 e3 d' => ⟨a, b, d.str, d'.str, sz_of hz, q _ H3 (e2.trans e3) (Dt.ofStr _)⟩
theorem hv_lower {a : Str} (ha : Hv K M ta σ H a) (hz : a.length ≤ 100000) : Hv K M (tM0 (fun x xs H Q => ∃ a, x = .str a ∧ xs = [] ∧ a.length ≤ 5592405 ∧ Q (.str (Txt.lower a)) H) ta) σ H (Txt.lower a) := fun H1 e m Q q =>
  ha H1 e m _ fun v H2 e2 d => ⟨⟨a, d.str⟩, a, d.str, rfl, by omega, q _ H2 e2 (Dt.ofStr _)⟩
theorem hv_lenS {a : Str} (ha : Hv K M ta σ H a) (hz : a.length ≤ 100000) : Hv K M (tCB (fun xs H Q => ∃ x n, xs = [x] ∧ LenV K x H n ∧ Q (.int n) H) (tCons ta tNil)) σ H (a.length : Int) := fun H1 e m Q q =>
  ha H1 e m _ fun v H2 e2 d => ⟨v, a.length, rfl, by rw [d.str]; exact ⟨sz_of hz, rfl⟩, q _ H2 e2 (Dt.ofInt _)⟩
/-- the sign at a place -/
def strAt (s : Str) (i : Nat) : Str := ⟨#[s.cps.toList.getD i 0]⟩
theorem hv_ixStr {a : Str} {i : Int} (ha : Hv K M ta σ H a) (hb : Hv K M tb σ H i) (hz : a.length ≤ 100000) (h0 : 0 ≤ i) (h1 : i < (a.length : Int)) : Hv K M (tOp rIxS ta tb) σ H (strAt a i.toNat) := fun H1 e m Q q =>
  ha H1 e m _ fun v H2 e2 d => hb H2 (e.trans e2) (m.ex e2) _ fun u H3 e3 d' => by
    have hl : i.toNat < a.cps.toList.length := by
      have : a.length = a.cps.toList.length := by simp [Str.length]
      omega
    refine ⟨a, i, a.cps.toList.getD i.toNat 0, d.str, d'.int, sz_of hz, ?_, q _ H3 (e2.trans e3) (Dt.ofStr _)⟩
    rw [show i = ((i.toNat : Nat) : Int) from (Int.toNat_of_nonneg h0).symm]
    refine atI_nat ?_
    rw [List.getD_eq_getElem?_getD, Int.toNat_natCast, List.getElem?_eq_getElem hl]
    rfl
theorem hv_sliceS {a : Str} {lo hi : Option Int} (h : Hv K M te σ H a) (h1 : HO' M tlo σ H lo) (h2 : HO' M thi σ H hi) (hz : a.length ≤ 100000) : Hv K M (tSl rSlS te tlo thi) σ H (cutS a lo hi) := fun H1 e m Q q =>
  h H1 e m _ fun v H2 e2 d => h1 H2 (e.trans e2) (m.ex e2) _ fun H3 e3 => h2 H3 ((e.trans e2).trans e3) ((m.ex e2).ex e3) _ fun H4 e4 =>
    ⟨a, d.str, sz_of hz, q _ H4 ((e2.trans e3).trans e4) (Dt.ofStr _)⟩
def inStr (i j : Str) : Bool := !(Builtin.Str.occurrences j i 0 j.length 1).isEmpty
theorem hv_inStr {a b : Str} (ha : Hv K M ta σ H a) (hb : Hv K M tb σ H b) : Hv K M (tOp (fun x y H Q => ∃ i j, x = .str i ∧ y = .str j ∧ Q (.bl (!(Builtin.Str.occurrences j i 0 j.length 1).isEmpty)) H) ta tb) σ H (inStr a b) := fun H1 e m Q q =>
  ha H1 e m _ fun v H2 e2 d => hb H2 (e.trans e2) (m.ex e2) _ fun u H3 e3 d' => ⟨a, b, d.str, d'.str, q _ H3 (e2.trans e3) (Dt.ofBool _)⟩
theorem hv_niStr {a b : Str} (ha : Hv K M ta σ H a) (hb : Hv K M tb σ H b) : Hv K M (tOp (fun x y H Q => ∃ i j, x = .str i ∧ y = .str j ∧ Q (.bl (!(!(Builtin.Str.occurrences j i 0 j.length 1).isEmpty))) H) ta tb) σ H (!inStr a b) := fun H1 e m Q q =>
  ha H1 e m _ fun v H2 e2 d => hb H2 (e.trans e2) (m.ex e2) _ fun u H3 e3 d' => ⟨a, b, d.str, d'.str, q _ H3 (e2.trans e3) (Dt.ofBool _)⟩
theorem hv_find {a b : Str} (ha : Hv K M ta σ H a) (hb : Hv K M tb σ H b) : Hv K M (tM1 (fun x xs H Q => ∃ a b, x = .str a ∧ xs = [.str b] ∧ Q (.int (Txt.find a b)) H) ta tb) σ H (Txt.find a b) := fun H1 e m Q q =>
  ha H1 e m _ fun v H2 e2 d => ⟨⟨a, d.str⟩, hb H2 (e.trans e2) (m.ex e2) _ fun u H3 e3 d' => ⟨a, b, d.str, by rw [d'.str], q _ H3 (e2.trans e3) (Dt.ofInt _)⟩⟩
theorem hv_find3 {a b : Str} {i : Int} (ha : Hv K M ta σ H a) (hb : Hv K M tb σ H b) (hc : Hv K M te σ H i) :
    Hv K M (tBM K "str" (fun x xs H Q => ∃ (a b : Str) (i : Int), x = .str a ∧ xs = [.str b, .int i] ∧ Q (.int (Txt.find3 a b i)) H) ta (tCons tb (tCons te tNil))) σ H (Txt.find3 a b i) := fun H1 e m Q q =>
  ha H1 e m _ fun v H2 e2 d => ⟨by rw [d.str]; exact (rfl : ("str" : String) = "str"), hb H2 (e.trans e2) (m.ex e2) _ fun u H3 e3 d' => hc H3 ((e.trans e2).trans e3) ((m.ex e2).ex e3) _ fun z H4 e4 d'' =>
    ⟨a, b, i, d.str, by rw [d'.str, d''.int], q _ H4 ((e2.trans e3).trans e4) (Dt.ofInt _)⟩⟩
theorem dts_strs {H : Hp} : ∀ {vs : List V} {xs : List Str}, Dts K H vs xs → vs = xs.map V.str
  | [], [], _ => rfl
  | [], _ :: _, h => by cases h
  | _ :: _, [], h => by cases h
  | v :: vs, x :: xs, h => by
    cases h with
    | cons a b =>
      rw [List.map_cons, Dt.str (H := H) (K := K) (v := v) (i := x) a, dts_strs (vs := vs) (xs := xs) b]
theorem hv_join {a : Str} {xs : List Str} (ha : Hv K M ta σ H a) (hb : HS K M tb σ H xs) (hz : (xs.map (·.length)).sum + xs.length * a.length ≤ 100000) :
    Hv K M (tM1 (fun x xs H Q => ∃ a p, ∃ ys : List Str, x = .str a ∧ xs = [.ref p] ∧ (SqL K H p (ys.map V.str) ∨ SqT K H p (ys.map V.str)) ∧ (ys.map (·.length)).sum + ys.length * a.length ≤ 16777216 ∧ Q (.str (Txt.join a ys)) H) ta tb) σ H (Txt.join a xs) := fun H1 e m Q q =>
  ha H1 e m _ fun v H2 e2 d => ⟨⟨a, d.str⟩, hb H2 (e.trans e2) (m.ex e2) _ fun p vs H3 e3 s ds => ⟨a, p, xs, d.str, rfl, Or.inl (by rw [← dts_strs ds]; exact s), by omega, q _ H3 (e2.trans e3) (Dt.ofStr _)⟩⟩
theorem hv_intI {i : Int} (ha : Hv K M ta σ H i) : Hv K M (tCB (fun xs H Q => (∃ i, xs = [.int i] ∧ Q (.int i) H) ∨ ∃ k, xs = [.bl k] ∧ Q (.int (if k then 1 else 0)) H) (tCons ta tNil)) σ H i := fun H1 e m Q q =>
  ha H1 e m _ fun v H2 e2 d => Or.inl ⟨i, by rw [d.int], q _ H2 e2 (Dt.ofInt _)⟩
theorem hv_intS {a : Str} {n : Int} (ha : Hv K M ta σ H a) (hn : PySem.intText? a = some n) (hz : a.length ≤ 640) : Hv K M (tCB (fun xs H Q => ∃ a n, xs = [.str a] ∧ PySem.intText? a = some n ∧ a.length ≤ 640 ∧ Q (.int n) H) (tCons ta tNil)) σ H n := fun H1 e m Q q =>
  ha H1 e m _ fun v H2 e2 d => ⟨a, n, by rw [d.str], hn, hz, q _ H2 e2 (Dt.ofInt _)⟩
/-- a text, so often -/
def mulS (a : Str) (n : Int) : Str := ⟨(List.replicate n.toNat a.cps.toList).flatten.toArray⟩
theorem mulS_len (a : Str) (n : Int) : (mulS a n).length = a.length * n.toNat := by
  have h1 : (mulS a n).length = (List.replicate n.toNat a.cps.toList).flatten.length := by simp [mulS, Str.length]
  have h2 : a.length = a.cps.toList.length := by simp [Str.length]
  rw [h1, h2, List.length_flatten, List.map_replicate, List.sum_replicate_nat, Nat.mul_comm]
theorem foldl_app : ∀ (k : Nat) (x : Array Nat) (acc : Array Nat), ((List.replicate k x).foldl (· ++ ·) acc).toList = acc.toList ++ (List.replicate k x.toList).flatten
  | 0, x, acc => by simp
  | k + 1, x, acc => by
    rw [List.replicate_succ, List.foldl_cons, foldl_app k x (acc ++ x), List.replicate_succ, List.flatten_cons, Array.toList_append, List.append_assoc]
theorem op_mulS {X : Cx} : OpR X (binaryOp .Mult) (fun x y H Q => ∃ i n, x = .str i ∧ y = .int n ∧ 1 ≤ n ∧ i.length * n.toNat ≤ 100000 ∧ n ≤ 100000 ∧ Q (.str (mulS i n)) H) := by
  intro pins s σ H x y v u Q I rx ry h
  obtain ⟨i, n, rfl, rfl, h1, h2, h3, q⟩ := h
  obtain ⟨t, rfl⟩ := rx
  obtain ⟨t', rfl⟩ := ry
  have hc : ¬ n < 1 := by omega
  refine PySem.P.mul_str ?_ (fun _ hb => ?_) (fun _ _ => ?_) ?_
  · rw [decide_eq_false (by omega), decide_eq_false (by omega)]; rfl
  · have h4 : (i.length : Int) ≤ 100000 := by
      have : i.length * 1 ≤ i.length * n.toNat := Nat.mul_le_mul_left _ (by omega)
      omega
    have h5 : (100000 : Int) ≤ (2 ^ 63 - 1) / n := by
      refine Int.le_ediv_of_mul_le (by omega) ?_
      omega
    omega
  · have hs : sizeLine = 16777216 := sizeLine_eq
    show decide (i.length * n.toNat > sizeLine) = false
    exact decide_eq_false (by omega)
  · rw [if_neg hc]
    by_cases e : (n == 1 || i.length == 0) = true
    · rw [if_pos e]
      have em : mulS i n = i := by
        refine TL.ext_tl ?_
        show (List.replicate n.toNat i.cps.toList).flatten = i.cps.toList
        rcases Bool.or_eq_true _ _ |>.mp e with e1 | e1
        · have : n = 1 := by simpa using e1
          subst this
          simp
        · have : i.cps.toList = [] := by
            have : i.length = 0 := by simpa using e1
            have h9 : i.cps.toList.length = 0 := by simpa [Str.length] using this
            exact List.length_eq_zero_iff.mp h9
          rw [this]
          simp
      rw [em] at q
      exact ⟨.str i, H, I, ⟨t, rfl⟩, q⟩
    · rw [if_neg e]
      have em : (⟨(List.replicate n.toNat i.cps).foldl (· ++ ·) #[]⟩ : Str) = mulS i n := by
        refine TL.ext_tl ?_
        show ((List.replicate n.toNat i.cps).foldl (· ++ ·) #[]).toList = (List.replicate n.toNat i.cps.toList).flatten
        rw [foldl_app]
        rfl
      rw [em]
      exact ⟨by rw [mulS_len]; exact sz_of h2, .str _, H, I.tok _, ⟨_, rfl⟩, q⟩
theorem hv_mulS {a : Str} {n : Int} (ha : Hv K M ta σ H a) (hb : Hv K M tb σ H n) (h1 : 1 ≤ n) (h2 : a.length * n.toNat ≤ 100000) (h3 : n ≤ 100000) :
    Hv K M (tOp (fun x y H Q => ∃ i n, x = .str i ∧ y = .int n ∧ 1 ≤ n ∧ i.length * n.toNat ≤ 100000 ∧ n ≤ 100000 ∧ Q (.str (mulS i n)) H) ta tb) σ H (mulS a n) := fun H1 e m Q q =>
  ha H1 e m _ fun v H2 e2 d => hb H2 (e.trans e2) (m.ex e2) _ fun u H3 e3 d' => ⟨a, n, d.str, d'.int, h1, h2, h3, q _ H3 (e2.trans e3) (Dt.ofStr _)⟩
theorem hv_max2 {i j : Int} (ha : Hv K M ta σ H i) (hb : Hv K M tb σ H j) : Hv K M (tCB (fun xs H Q => ∃ i j, xs = [.int i, .int j] ∧ Q (.int (if j > i then j else i)) H) (tCons ta (tCons tb tNil))) σ H (max i j) := fun H1 e m Q q =>
  ha H1 e m _ fun v H2 e2 d => hb H2 (e.trans e2) (m.ex e2) _ fun u H3 e3 d' => ⟨i, j, by rw [d.int, d'.int], q _ H3 (e2.trans e3) (by
    rw [show (if j > i then j else i) = max i j by split <;> omega]; exact Dt.ofInt _)⟩
theorem hv_min2 {i j : Int} (ha : Hv K M ta σ H i) (hb : Hv K M tb σ H j) : Hv K M (tCB (fun xs H Q => ∃ i j, xs = [.int i, .int j] ∧ Q (.int (if j < i then j else i)) H) (tCons ta (tCons tb tNil))) σ H (min i j) := fun H1 e m Q q =>
  ha H1 e m _ fun v H2 e2 d => hb H2 (e.trans e2) (m.ex e2) _ fun u H3 e3 d' => ⟨i, j, by rw [d.int, d'.int], q _ H3 (e2.trans e3) (by
    rw [show (if j < i then j else i) = min i j by split <;> omega]; exact Dt.ofInt _)⟩
end
section
variable {K : PySem.W.Frag} {Mc M : List Addr} {He H H1 H2 : Hp} {is js : Ims} {ms : Mus} {σ : L2.St} {te ta tb tl : TE} {tt : TT} {g : TG} {tlo thi : TO}
variable {α β γ : Type} [DecidableEq α] [Datum α] [DecidableEq β] [Datum β] [DecidableEq γ] [Datum γ]
variable {D : Ends} {tz tu tw : TS}
theorem hv_chain {r r' : R2} {a b : Bool} {x : α} (h1 : ∀ H1, Ex H H1 → MOk M H1 → ∀ Q : V → V → Hp → Prop, (∀ y k H2, Ex H1 H2 → k = .bl a → Q y k H2) → ta σ H1 fun x H2 => tb σ H2 fun y H3 => r x y H3 fun z H4 => Q y z H4) : True := True.intro
/-- i < j < k and the like -/
theorem hv_chainI {g1 g2 : Int → Int → Bool} {i j k : Int} (ha : Hv K M ta σ H i) (hb : Hv K M tb σ H j) (hc : Hv K M te σ H k) :
    Hv K M (tChain (rI0 fun i j => .bl (g1 i j)) (rI0 fun i j => .bl (g2 i j)) ta tb te) σ H (g1 i j && g2 j k) := fun H1 e m Q q =>
  ha H1 e m _ fun v H2 e2 d => hb H2 (e.trans e2) (m.ex e2) _ fun u H3 e3 d' => ⟨i, j, d.int, d'.int, g1 i j, rfl, by
    cases hg : g1 i j with
    | false =>
      rw [if_neg Bool.false_ne_true]
      exact q _ H3 (e2.trans e3) (by rw [hg]; exact Dt.ofBool _)
    | true =>
      rw [if_pos rfl]
      refine hc H3 ((e.trans e2).trans e3) ((m.ex e2).ex e3) _ fun z H4 e4 d'' => ⟨j, k, d'.int, d''.int, q _ H4 ((e2.trans e3).trans e4) ?_⟩
      show Dt K _ (V.bl (g2 j k)) _
      rw [hg]
      exact Dt.ofBool _⟩
/-! ### new lists -/
/-- a new list, told apart from all else -/
def HF (K : PySem.W.Frag) (M : List Addr) (te : TE) (σ : L2.St) (H : Hp) (xs : List α) : Prop :=
  ∀ H1, Ex H H1 → MOk M H1 → ∀ Q : VK, (∀ p vs H3, H1 p = none → Ex H1 H3 → H3 p = some (.lst vs) → Dts K (msk (p :: M) H3) vs xs → Q (.ref p) H3) → te σ H1 Q
theorem hv_hf {xs : List α} (h : HF K M te σ H xs) : Hv K M te σ H xs := fun H1 e m Q q =>
  h H1 e m Q fun p vs H3 n e3 h3 d => q _ H3 e3 (Dt.ofList (SqL.of (by rw [msk_out (m.nin n)]; exact h3)) (d.mono (msk_sub fun a ha => List.mem_cons_of_mem _ ha)))
theorem Sg.newF (s : Sg K Mc He H is ms) {p : Addr} {vs : List V} {xs : List α} (n : H p = none) (e : Ex H H1) (h : H1 p = some (.lst vs)) (d : Dts K (msk (p :: (muA ms ++ Mc)) H1) vs xs) : Sg K Mc He H1 is ((p, .lst (xs.map Datum.toD)) :: ms) := by
  have np : p ∉ muA ms := fun z => s.mok p (List.mem_append_left _ z) n
  have sub : Ex (msk (muA ms ++ Mc) H) (msk (p :: (muA ms ++ Mc)) H1) := fun a o q => by
    by_cases z : a ∈ muA ms ++ Mc
    · rw [msk_in z] at q; cases q
    · rw [msk_out z] at q
      have na : a ≠ p := ne_of_none q n
      rw [msk_out (by simp only [List.mem_cons, not_or]; exact ⟨na, z⟩)]
      exact e a o q
  refine ⟨fun a o q => ?_, s.okc, List.nodup_cons.mpr ⟨np, s.nd⟩, s.im.mono sub, ⟨⟨.lst vs, h, vs, rfl, d⟩, ?_⟩⟩
  · have q' := s.ext a o q
    by_cases z : a ∈ muA ms
    · rw [msk_in z] at q'; cases q'
    · rw [msk_out z] at q'
      have na : a ≠ p := ne_of_none q' n
      show msk (p :: muA ms) H1 a = some o
      rw [msk_out (by simp only [List.mem_cons, not_or]; exact ⟨na, z⟩)]
      exact e a o q'
  · exact s.mu.mono sub e
theorem hf_lst {tr : TA} {xs : List α} (h : HAs K M tr σ H xs) (hl : xs.length ≤ 100000) : HF K M (tLst tr) σ H xs := fun H1 e m Q q =>
  h H1 e m _ fun vs H2 e2 d => ⟨sz_of (by rw [d.len]; exact hl), fun p hp => by
    have e3 : Ex H2 (upd H2 p (.lst vs)) := Ex.new hp
    exact q p vs _ (fresh_back e2 hp) (e2.trans e3) upd_same (d.mono (msk_new hp))⟩
theorem hf_rep {tr : TA} {xs : List α} {n : Int} (h : HAs K M tr σ H xs) (hb : Hv K M tb σ H n) (hl : xs.length ≤ 1000) (h0 : 0 ≤ n) (hn : xs.length * n.toNat ≤ 100000) (hn2 : n ≤ 100000) : HF K M (tOp rRep (tLst tr) tb) σ H (List.replicate n.toNat xs).flatten := fun H1 e m Q q =>
  h H1 e m _ fun vs H2 e2 d => ⟨sz_of (by rw [d.len]; omega), fun p hp => by
    have e3 : Ex H2 (upd H2 p (.lst vs)) := Ex.new hp
    refine hb _ ((e.trans e2).trans e3) ((m.ex e2).ex e3) _ fun u H4 e4 d' => ⟨p, n, vs, rfl, d'.int, e4 p _ upd_same, by omega, by omega, sz_of (by rw [d.len]; exact hn), fun l hl2 => ?_⟩
    have e5 : Ex H4 (upd H4 l (.lst (List.replicate n.toNat vs).flatten)) := Ex.new hl2
    refine q l _ _ (fresh_back ((e2.trans e3).trans e4) hl2) (((e2.trans e3).trans e4).trans e5) upd_same ?_
    have d2 : Dts K (msk M H2) vs xs := d
    have d3 : Dts K (msk (l :: M) (upd H4 l (.lst (List.replicate n.toNat vs).flatten))) vs xs := (d2.mono (msk_ex (e3.trans e4))).mono (msk_new hl2)
    have rep : ∀ k : Nat, Dts K (msk (l :: M) (upd H4 l (.lst (List.replicate n.toNat vs).flatten))) (List.replicate k vs).flatten (List.replicate k xs).flatten := fun k => by
      induction k with
      | zero => exact Dts.nil
      | succ k ih =>
        rw [List.replicate_succ, List.replicate_succ, List.flatten_cons, List.flatten_cons]
        exact d3.app ih
    exact rep _⟩
theorem hf_listOf {xs : List α} (h : HS K M te σ H xs) : HF K M (tCB (fun xs H Q => ∃ p ys, xs = [.ref p] ∧ (SqL K H p ys ∨ SqT K H p ys) ∧ ∀ l, H l = none → Q (.ref l) (upd H l (.lst ys))) (tCons te tNil)) σ H xs := fun H1 e m Q q =>
  h H1 e m _ fun a vs H2 e2 s d => ⟨a, vs, rfl, Or.inl s, fun p hp => by
    have e3 : Ex H2 (upd H2 p (.lst vs)) := Ex.new hp
    exact q p vs _ (fresh_back e2 hp) (e2.trans e3) upd_same (d.mono (msk_new hp))⟩
/-- x = a new list that is to be changed -/
theorem z_freshG {i : Nat} {x : List α} (s : Sg K Mc He H is ms) (h : HF K (muA ms ++ Mc) te σ H x) (k : ∀ y, y = x → ∀ p H1, Sg K Mc He H1 is ((p, .lst (y.map Datum.toD)) :: ms) → tz D (σ.set i (some (.ref p))) H1) : tSeq (tAsg te (gName i)) tz D σ H :=
  h H (Ex.refl H) s.mok _ fun p vs H3 n e3 h3 d => k x rfl p H3 (s.newF n e3 h3 d)
theorem dpa_set {H : Hp} : ∀ {vs : List V} {ds : List PyData} {j : Nat} {v : V} {d : PyData}, DpAll K H vs ds → Dp K H v d → DpAll K H (vs.set j v) (ds.set j d)
  | _, _, j, _, _, .nil, _ => .nil
  | _, _, 0, _, _, .cons a b, h => .cons h b
  | _, _, j + 1, _, _, .cons a b, h => .cons a (dpa_set b h)
/-- xs[i] = e -/
theorem z_setG {kk : Nat} {l : Addr} {xs : List α} {x : α} {i : Int} (s : Sg K Mc He H is ms) (e : ms[kk]? = some (l, .lst (xs.map Datum.toD))) (h : Hv K (muA ms ++ Mc) te σ H x) (ho : Ev ta σ H (.ref l)) (hi : Hv K (muA ms ++ Mc) tb σ H i) (h0 : 0 ≤ i) (h1 : i < (xs.length : Int))
    (k : ∀ y, y = xs.set i.toNat x → ∀ H1, Sg K Mc He H1 is (ms.set kk (l, .lst (y.map Datum.toD))) → tz D σ H1) : tSeq (tAsg te (gSub ta tb rSetL)) tz D σ H :=
  h H (Ex.refl H) s.mok _ fun v H2 e2 d => ho H2 e2 _ fun H3 e3 => hi H3 (e2.trans e3) (s.mok.ex (e2.trans e3)) _ fun u H4 e4 d' => by
    have s4 := ((s.ex e2).ex e3).ex e4
    obtain ⟨vs, h3, h4⟩ := s4.lst e
    have hn : i.toNat < vs.length := by rw [h4.len]; omega
    refine ⟨l, vs, i, i.toNat, rfl, d'.int, h3, ?_, k _ rfl _ (s4.set e ⟨_, rfl, ?_⟩)⟩
    · have := ixN_nat hn
      rwa [Int.toNat_of_nonneg h0] at this
    · rw [List.map_set]
      exact dpa_set h4 (dp_mono (msk_ex (e3.trans e4)) d)
/-- xs[-1] = e -/
theorem z_setLastG {kk : Nat} {l : Addr} {xs : List α} {x : α} (s : Sg K Mc He H is ms) (e : ms[kk]? = some (l, .lst (xs.map Datum.toD))) (h : Hv K (muA ms ++ Mc) te σ H x) (ho : Ev ta σ H (.ref l)) (h1 : 0 < xs.length)
    (k : ∀ y, y = xs.set (xs.length - 1) x → ∀ H1, Sg K Mc He H1 is (ms.set kk (l, .lst (y.map Datum.toD))) → tz D σ H1) : tSeq (tAsg te (gSub ta (tUn (rU fun i => .int (-i)) (tC (.int 1))) rSetL)) tz D σ H :=
  h H (Ex.refl H) s.mok _ fun v H2 e2 d => ho H2 e2 _ fun H3 e3 => ⟨1, rfl, by
    have s4 := (s.ex e2).ex e3
    obtain ⟨vs, h3, h4⟩ := s4.lst e
    have hn : vs.length = xs.length := h4.len
    refine ⟨l, vs, -1, xs.length - 1, rfl, rfl, h3, ?_, k _ rfl _ (s4.set e ⟨_, rfl, ?_⟩)⟩
    · unfold ixN
      rw [if_neg (by decide), if_pos (by omega)]
      show some _ = some _
      congr 1
      omega
    · rw [List.map_set]
      exact dpa_set h4 (dp_mono (msk_ex e3) d)⟩
/-- xs.extend(a new list) -/
theorem zq_extG {kk : Nat} {l : Addr} {xs ys : List α} (s : Sg K Mc He H is ms) (e : ms[kk]? = some (l, .lst (xs.map Datum.toD))) (hi : Ev ta σ H (.ref l)) (h : HF K (muA ms ++ Mc) te σ H ys) (hz : xs.length + ys.length ≤ 100000)
    (k : ∀ y, y = xs ++ ys → ∀ H1, Sg K Mc He H1 is (ms.set kk (l, .lst (y.map Datum.toD))) → tz D σ H1) : tSeq (tDrop (tBM K "list" rExtend ta (tCons te tNil))) tz D σ H := hi H (Ex.refl H) _ fun H1 e1 => by
  obtain ⟨vs, h1, h2⟩ := (s.ex e1).lst e
  refine ⟨Or.inl ⟨rfl, vs, sq_of h1⟩, h H1 e1 (s.mok.ex e1) _ fun p ws H3 n e3 h3 d => ?_⟩
  obtain ⟨vs', h4, h5⟩ := ((s.ex e1).ex e3).lst e
  refine ⟨l, p, vs', ws, rfl, rfl, h4, h3, sz_of (by rw [h5.len, d.len]; exact hz), k _ rfl _ (((s.ex e1).ex e3).set e ⟨_, rfl, ?_⟩)⟩
  rw [List.map_append]
  exact dpa_app h5 (dpa_mono (msk_sub fun a ha => List.mem_cons_of_mem _ ha) d)
/-! ### a, b = e -/
theorem z_unp2 {i j : Nat} {p : α × β} (s : Sg K Mc He H is ms) (h : Hv K (muA ms ++ Mc) te σ H p) (k : ∀ x y, (x, y) = p → ∀ v u H1, Sg K Mc He H1 ((v, Datum.toD x) :: (u, Datum.toD y) :: is) ms → tz D ((σ.set i (some v)).set j (some u)) H1) :
    tSeq (tAsg te (gTup K 2 (gCons (gName i) (gCons (gName j) gNil)))) tz D σ H :=
  h H (Ex.refl H) s.mok _ fun v H1 e d => by
    obtain ⟨l, a, b, rfl, st, d1, d2⟩ := d.pair
    exact ⟨l, [a, b], rfl, ex_t msk_le st, rfl, a, [b], rfl, b, [], rfl, rfl, k p.1 p.2 rfl a b H1 (((s.ex e).put d2).put d1)⟩
/-! ### for over a text -/
def chars (s : Str) : List Str := s.cps.toList.map fun c => ⟨#[c]⟩
theorem chars_len (s : Str) : (chars s).length = s.length := by simp [chars, Str.length]
theorem zq_forS {a : Str} {j : Nat} (s : Sg K Mc He H is ms) (h : Hv K (muA ms ++ Mc) te σ H a) (Pv : Nat → L2.St → Hp → Prop) (h0 : ∀ H1, Sg K Mc He H1 is ms → Pv 0 σ H1)
    (hs : ∀ i x σ' H', (chars a)[i]? = some x → Pv i σ' H' → tu { D with nx := Pv (i + 1), ct := Pv (i + 1), bk := tz D } (σ'.set j (some (.str x))) H')
    (hd : ∀ σ' H', Pv (chars a).length σ' H' → tz D σ' H') : tSeq (tFor (iStr te) (gName j) tu) tz D σ H :=
  h H (Ex.refl H) s.mok _ fun v H1 e d => ⟨a, d.str, by
    have hsz : a.cps.size = (chars a).length := by rw [chars_len]; rfl
    refine for_it (D := { D with nx := tz D }) (walk_str (z := a)) Pv (h0 H1 (s.ex e)) (fun _ _ _ _ _ => True.intro) (fun i x σ' H' H'' hi p y => ?_) (fun σ' H' p => hd σ' H' (by rw [← hsz]; exact p))
    obtain ⟨rfl, c, hc, rfl⟩ := y
    refine hs i _ σ' _ ?_ p
    unfold chars
    rw [List.getElem?_map]
    have : a.cps.toList[i]? = some c := by rw [Array.getElem?_toList]; exact hc
    rw [this]
    rfl⟩
/-! ### while -/
def loopW {S : Type} (c : S → Bool) (f : S → S) : Nat → S → S
  | 0, s => s
  | n + 1, s => if c s = true then loopW c f n (f s) else s
/-- R tells what a state is, μ falls -/
theorem zq_while {S : Type} (c : S → Bool) (f : S → S) (μ : S → Nat) (N : Nat) (s0 : S) (R : S → L2.St → Hp → Prop) (hN : μ s0 < N) (h0 : R s0 σ H)
    (hs : ∀ x σ' H', R x σ' H' → ∃ M', MOk M' H' ∧ HT M' tt σ' H' (c x) ∧
      (c x = true → ∀ H2, Ex H' H2 → tu { D with nx := fun σ2 H3 => ∃ y, y = f x ∧ μ y < μ x ∧ R y σ2 H3, ct := fun σ2 H3 => ∃ y, y = f x ∧ μ y < μ x ∧ R y σ2 H3, bk := tz D } σ' H2))
    (hd : ∀ x σ' H' H2, R x σ' H' → c x = false → Ex H' H2 → loopW c f N s0 = x → tz D σ' H2) : tSeq (tWhile tt tu) tz D σ H := by
  refine ⟨fun m σ' H' => ∃ x, μ x < m ∧ loopW c f N s0 = loopW c f m x ∧ R x σ' H', ⟨N, s0, hN, rfl, h0⟩, ?_⟩
  rintro m σ' H' ⟨x, hm, he, hR⟩
  obtain ⟨M', mo, ht, ht1⟩ := hs x σ' H' hR
  refine ht H' (Ex.refl H') mo _ fun H2 e2 => ?_
  obtain ⟨n, rfl⟩ : ∃ n, m = n + 1 := ⟨m - 1, by omega⟩
  cases hc : c x with
  | true =>
    refine ⟨fun σ2 H3 => ∃ y, y = f x ∧ μ y < μ x ∧ R y σ2 H3, fun σ2 H3 ⟨y, hy, hl, hR2⟩ => ⟨n, Nat.lt_succ_self _, y, by omega, ?_, hR2⟩, ht1 hc H2 e2⟩
    rw [he, hy]
    show (if c x = true then loopW c f n (f x) else x) = _
    rw [if_pos hc]
  | false =>
    refine hd x σ' H' H2 hR hc e2 ?_
    rw [he]
    show (if c x = true then loopW c f n (f x) else x) = x
    rw [if_neg (by rw [hc]; exact Bool.false_ne_true)]
/-! ### new lists by comprehensions -/
theorem hf_lcL0 {vs : List Nat} (s : Sg K Mc He H is ms) {xs : List α} (ef : α → β) (h : Hv K (muA ms ++ Mc) tl σ H xs) (hz : xs.length ≤ 40000)
    (hb : ∀ D src x w (ys : List β) H1, Sg K Mc He H1 ((w, Datum.toD x) :: (src, Datum.toD xs) :: is) ((D, .lst (ys.map Datum.toD)) :: ms) → x ∈ xs →
      ∀ Q : L2.St → Hp → Prop, (∀ σ2, wipe σ2 vs = wipe σ vs → Hv K (muA ((D, Mv.lst (ys.map Datum.toD)) :: ms) ++ Mc) te σ2 H1 (ef x) → Q σ2 H1) → g w (wipe σ vs) H1 Q) :
    HF K (muA ms ++ Mc) (tLc (iList K tl) g tYes te vs) σ H (xs.map ef) := fun H1 e m Q q =>
  h H1 e m _ fun v H2 e2 d => by
    obtain ⟨a, us, rfl, s1, ds⟩ := d.list
    refine ⟨a, rfl, ⟨us, ex_l msk_le s1⟩, fun D hD => ?_⟩
    have sA : Sg K Mc He H2 ((.ref a, Datum.toD xs) :: is) ms := ((s.ex e).ex e2).put d
    have sB : Sg K Mc He (upd H2 D (.lst [])) ((.ref a, Datum.toD xs) :: is) ((D, .lst (([] : List β).map Datum.toD)) :: ms) := sA.new hD ⟨[], rfl, .nil⟩
    refine lc_listD (xs := xs) (M' := D :: (muA ms ++ Mc)) (fun i H' => Ex H2 H' ∧ Sg K Mc He H' ((.ref a, Datum.toD xs) :: is) ((D, .lst (((xs.take i).map ef).map Datum.toD)) :: ms)) ⟨Ex.new hD, sB⟩
      (fun i H' _ p => ?_) (fun i x w H' hx p dw => ?_) (fun H' p => ?_)
    · obtain ⟨a', us', e', s2, ds'⟩ := Dt.list (α := α) p.2.im.1
      cases e'
      exact ⟨us', ex_l msk_le s2, ds'⟩
    · have hi : i < xs.length := (List.getElem?_eq_some_iff.mp hx).1
      refine hb D (.ref a) x w _ H' (p.2.put dw) (List.mem_of_getElem? hx) _ fun σ2 hw he => ⟨hw, ?_⟩
      have hlen : ((xs.take i).map ef).length < 50000 := by
        rw [List.length_map, List.length_take]
        omega
      exact lc_turn (ms := ms) (tt := tYes) (b := true) (zs := (xs.take (i + 1)).map ef) p.2 hlen (fun H3 => Ex H2 H3 ∧ Sg K Mc He H3 ((.ref a, Datum.toD xs) :: is) ((D, .lst (((xs.take (i + 1)).map ef).map Datum.toD)) :: ms)) (fun H2 _ _ _ q => q H2 (Ex.refl H2)) (fun _ => he) (by rw [if_pos rfl, take_snoc hx, List.map_append]; rfl) (fun H3 h4 s3 => ⟨by
        obtain ⟨H4, e4, e5⟩ := h4
        rcases e5 with e5 | ⟨o, e5⟩
        · rw [e5]; exact p.1.trans e4
        · rw [e5]; exact Ex.mut (p.1.trans e4) hD, s3⟩)
    · have z := p.2
      rw [List.take_length] at z
      obtain ⟨us2, h3, h4⟩ := z.lst (k := 0) rfl
      exact q D us2 H' (fresh_back e2 hD) (e2.trans p.1) h3 h4
theorem hf_lcR0 {vs : List Nat} (s : Sg K Mc He H is ms) {n : Int} (ef : Int → β) (h : Hv K (muA ms ++ Mc) ta σ H n) (hz : -100000 ≤ n ∧ n ≤ 40000)
    (hb : ∀ D (x : Int) (ys : List β) H1, Sg K Mc He H1 is ((D, .lst (ys.map Datum.toD)) :: ms) → 0 ≤ x ∧ x < n →
      ∀ Q : L2.St → Hp → Prop, (∀ σ2, wipe σ2 vs = wipe σ vs → Hv K (muA ((D, Mv.lst (ys.map Datum.toD)) :: ms) ++ Mc) te σ2 H1 (ef x) → Q σ2 H1) → g (.int x) (wipe σ vs) H1 Q) :
    HF K (muA ms ++ Mc) (tLc (iRng1 (tCons ta tNil)) g tYes te vs) σ H ((irng 0 n.toNat).map ef) := fun H1 e m Q q =>
  h H1 e m _ fun v H2 e2 d => by
    refine ⟨n, by rw [d.int], by omega, by omega, fun D hD => ?_⟩
    have sA : Sg K Mc He H2 is ms := (s.ex e).ex e2
    have sB : Sg K Mc He (upd H2 D (.lst [])) is ((D, .lst (([] : List β).map Datum.toD)) :: ms) := sA.new hD ⟨[], rfl, .nil⟩
    refine lc_range (lo := 0) (n := n.toNat) (fun i H' => Ex H2 H' ∧ Sg K Mc He H' is ((D, .lst ((((irng 0 n.toNat).take i).map ef).map Datum.toD)) :: ms)) ⟨Ex.new hD, sB⟩
      (fun i H' hi p => ?_) (fun H' p => ?_)
    · have hx : (irng 0 n.toNat)[i]? = some ((0 : Int) + (i : Int)) := irng_get hi
      refine hb D ((0 : Int) + (i : Int)) _ H' p.2 ⟨by omega, by omega⟩ _ fun σ2 hw he => ⟨hw, ?_⟩
      have hlen : (((irng 0 n.toNat).take i).map ef).length < 50000 := by
        rw [List.length_map, List.length_take, irng_len]
        omega
      exact lc_turn (ms := ms) (tt := tYes) (b := true) (zs := ((irng 0 n.toNat).take (i + 1)).map ef) p.2 hlen (fun H3 => Ex H2 H3 ∧ Sg K Mc He H3 is ((D, .lst ((((irng 0 n.toNat).take (i + 1)).map ef).map Datum.toD)) :: ms)) (fun H2 _ _ _ q => q H2 (Ex.refl H2)) (fun _ => he) (by rw [if_pos rfl, take_snoc hx, List.map_append]; rfl) (fun H3 h4 s3 => ⟨by
        obtain ⟨H4, e4, e5⟩ := h4
        rcases e5 with e5 | ⟨o, e5⟩
        · rw [e5]; exact p.1.trans e4
        · rw [e5]; exact Ex.mut (p.1.trans e4) hD, s3⟩)
    · have z := p.2
      have et : (irng 0 n.toNat).take n.toNat = irng 0 n.toNat := List.take_of_length_le (by rw [irng_len]; exact Nat.le_refl _)
      rw [et] at z
      obtain ⟨us2, h3, h4⟩ := z.lst (k := 0) rfl
      exact q D us2 H' (fresh_back e2 hD) (e2.trans p.1) h3 h4
/-- the items with their places -/
def enumL (xs : List α) : List (Int × α) := List.zipWith (fun (i : Nat) (x : α) => ((i : Int), x)) (List.range xs.length) xs
theorem enumL_len (xs : List α) : (enumL xs).length = xs.length := by unfold enumL; rw [List.length_zipWith, List.length_range, Nat.min_self]
theorem enumL_get {xs : List α} {i : Nat} {x : α} (h : xs[i]? = some x) : (enumL xs)[i]? = some ((i : Int), x) := by
  have hi : i < xs.length := (List.getElem?_eq_some_iff.mp h).1
  unfold enumL
  rw [List.getElem?_zipWith, List.getElem?_range hi, h]
/-- [.. for i, x in enumerate(xs)] -/
theorem hf_lcE0 {vs : List Nat} (s : Sg K Mc He H is ms) {xs : List α} (ef : Int × α → β) (h : Hv K (muA ms ++ Mc) tl σ H xs) (hz : xs.length ≤ 40000)
    (hb : ∀ D src (x : Int × α) w (ys : List β) H1, Sg K Mc He H1 ((w, Datum.toD x) :: (src, Datum.toD xs) :: is) ((D, .lst (ys.map Datum.toD)) :: ms) → x ∈ enumL xs →
      ∀ Q : L2.St → Hp → Prop, (∀ σ2, wipe σ2 vs = wipe σ vs → Hv K (muA ((D, Mv.lst (ys.map Datum.toD)) :: ms) ++ Mc) te σ2 H1 (ef x) → Q σ2 H1) → g w (wipe σ vs) H1 Q) :
    HF K (muA ms ++ Mc) (tLc (iEnum K (tCons tl tNil)) g tYes te vs) σ H ((enumL xs).map ef) := fun H1 e m Q q =>
  h H1 e m _ fun v H2 e2 d => by
    obtain ⟨a, us, rfl, s1, ds⟩ := d.list
    have s1' : SqL K H2 a us := ex_l msk_le s1
    refine ⟨a, us, rfl, s1', fun D hD => ?_⟩
    have sA : Sg K Mc He H2 ((.ref a, Datum.toD xs) :: is) ms := ((s.ex e).ex e2).put d
    have sB : Sg K Mc He (upd H2 D (.lst [])) ((.ref a, Datum.toD xs) :: is) ((D, .lst (([] : List β).map Datum.toD)) :: ms) := sA.new hD ⟨[], rfl, .nil⟩
    have hlu : us.length = xs.length := ds.len
    refine lc_it (walk_enum (K := K) (a := a) (xs := us)) (fun i H' => Ex H2 H' ∧ Sg K Mc He H' ((.ref a, Datum.toD xs) :: is) ((D, .lst ((((enumL xs).take i).map ef).map Datum.toD)) :: ms)) ⟨Ex.new hD, sB⟩
      (fun i H' _ p => ex_l p.1 s1') (fun i x H' H'' hi p y => ?_) (fun H' p => ?_)
    · obtain ⟨T, x0, x1, rfl, nT, rfl, f1, f2⟩ := y
      have hix : i < xs.length := by rw [← hlu]; exact hi
      have gx : xs[i]? = some xs[i] := by simp [hix]
      have gE := enumL_get gx
      have e0 : x0 = .int (i : Int) := (Option.some.inj f1).symm
      subst e0
      have eT : Ex H' (upd H' T (.tup [.int (i : Int), x1])) := Ex.new nT
      have sT := p.2.ex eT
      have dm : Dt K (msk (D :: (muA ms ++ Mc)) (upd H' T (.tup [.int (i : Int), x1]))) x1 xs[i] := by
        have d2 : Dts K (msk (D :: (muA ms ++ Mc)) (upd H' T (.tup [.int (i : Int), x1]))) us xs := by
          have q1 : Dts K (msk (muA ms ++ Mc) H2) us xs := ds
          have q2 : Ex (msk (muA ms ++ Mc) H2) (msk (D :: (muA ms ++ Mc)) (upd H' T (.tup [.int (i : Int), x1]))) := fun b o hb' => by
            by_cases z : b ∈ muA ms ++ Mc
            · rw [msk_in z] at hb'; cases hb'
            · rw [msk_out z] at hb'
              have nb : b ≠ D := ne_of_none hb' hD
              rw [msk_out (by simp only [List.mem_cons, not_or]; exact ⟨nb, z⟩)]
              exact eT b o (p.1 b o hb')
          exact q1.mono q2
        obtain ⟨w, w1, w2⟩ := d2.at gx
        have : x1 = w := Option.some.inj (f2.symm.trans w1)
        subst this; exact w2
      have nTD : T ∉ D :: (muA ms ++ Mc) := fun z => (p.2.mok T z) nT
      have dw : Dt K (msk (D :: (muA ms ++ Mc)) (upd H' T (.tup [.int (i : Int), x1]))) (.ref T) ((i : Int), xs[i]) := Dt.ofPair (SqT.of (by rw [msk_out nTD]; exact upd_same)) (Dt.ofInt _) dm
      refine hb D (.ref a) ((i : Int), xs[i]) (.ref T) _ _ (sT.put dw) (List.mem_of_getElem? gE) _ fun σ2 hw he => ⟨hw, ?_⟩
      have hlen : (((enumL xs).take i).map ef).length < 50000 := by
        rw [List.length_map, List.length_take, enumL_len]
        omega
      exact lc_turn (ms := ms) (tt := tYes) (b := true) (zs := ((enumL xs).take (i + 1)).map ef) sT hlen (fun H3 => Ex H2 H3 ∧ Sg K Mc He H3 ((.ref a, Datum.toD xs) :: is) ((D, .lst ((((enumL xs).take (i + 1)).map ef).map Datum.toD)) :: ms)) (fun H2 _ _ _ q => q H2 (Ex.refl H2)) (fun _ => he) (by rw [if_pos rfl, take_snoc gE, List.map_append]; rfl) (fun H3 h4 s3 => ⟨by
        obtain ⟨H4, e4, e5⟩ := h4
        rcases e5 with e5 | ⟨o, e5⟩
        · rw [e5]; exact (p.1.trans eT).trans e4
        · rw [e5]; exact Ex.mut ((p.1.trans eT).trans e4) hD, s3⟩)
    · have z := p.2
      have et : (enumL xs).take us.length = enumL xs := List.take_of_length_le (by rw [enumL_len, hlu]; exact Nat.le_refl _)
      rw [et] at z
      obtain ⟨us2, h3, h4⟩ := z.lst (k := 0) rfl
      exact q D us2 H' (fresh_back e2 hD) (e2.trans p.1) h3 h4
theorem z_augSG {i : Nat} {a b : Str} (s : Sg K Mc He H is ms) (hx : σ[i]? = some (some (.str a))) (h : Hv K (muA ms ++ Mc) te σ H b) (hz : a.length + b.length ≤ 100000) (k : ∀ y, y = a ++ b → ∀ H1, Sg K Mc He H1 is ms → tz D (σ.set i (some (.str y))) H1) :
    tSeq (tAug i te (fun x y H Q => ∃ i j, x = .str i ∧ y = .str j ∧ i.length + j.length ≤ sizeLine ∧ Q (.str (i ++ j)) H)) tz D σ H :=
  ⟨.str a, hx, h H (Ex.refl H) s.mok _ fun v H1 e d => ⟨a, b, rfl, d.str, sz_of hz, k _ rfl H1 (s.ex e)⟩⟩
end
theorem str_len_app (a b : Str) : (a ++ b).length = a.length + b.length := by
  rw [TL.len_tl, TL.len_tl, TL.len_tl, TL.tl_append, List.length_append]
theorem chars_one {s x : Str} {i : Nat} (h : (chars s)[i]? = some x) : x.length = 1 := by
  unfold chars at h
  rw [List.getElem?_map] at h
  cases hc : s.cps.toList[i]? with
  | none => rw [hc] at h; cases h
  | some c =>
    rw [hc] at h
    cases h
    rfl
theorem strAt_len (s : Str) (i : Nat) : (strAt s i).length = 1 := rfl
end Ly

namespace Ly
open PySem PySem.Spec PyProof.Rows L2 Evl
open PySem.W (Datum DatumOrd Tup T3 T4 minOf)
section
variable {K : PySem.W.Frag} {Mc M : List Addr} {He H H1 H2 : Hp} {is js : Ims} {ms : Mus} {σ : L2.St} {te ta tb tl : TE} {tt : TT} {g : TG} {tlo thi : TO}
theorem inV_strs (a : Str) : ∀ xs : List Str, inV (.str a) (xs.map V.str) = decide (a ∈ xs)
  | [] => by simp [inV]
  | x :: xs => by
    have ih := inV_strs a xs
    unfold inV at ih ⊢
    rw [List.map_cons, List.any_cons, ih]
    show (x == a || _) = _
    by_cases h : x = a
    · subst h; simp
    · have h2 : ¬ a = x := fun z => h z.symm
      simp [h, h2]
theorem flat_strs : ∀ xs : List Str, (xs.map V.str).all flatV = true
  | [] => rfl
  | x :: xs => by rw [List.map_cons, List.all_cons, flat_strs xs]; rfl
theorem hv_memS {neg : Bool} {tr : TA} {a : Str} {xs : List Str} (ha : Hv K M ta σ H a) (hr : HAs K M tr σ H xs) (hl : xs.length ≤ 100000) : Hv K M (tOp (rIn K neg) ta (tTup tr)) σ H (if neg then !decide (a ∈ xs) else decide (a ∈ xs)) := fun H1 e m Q q =>
  ha H1 e m _ fun v H2 e2 d => hr H2 (e.trans e2) (m.ex e2) _ fun vs H3 e3 d' => ⟨sz_of (by rw [d'.len]; exact hl), fun p hp => by
    have e4 : Ex H3 (upd H3 p (.tup vs)) := Ex.new hp
    have hv := dts_strs d'
    refine ⟨p, vs, rfl, Or.inr (SqT.of upd_same), by rw [d.str]; rfl, by rw [hv]; exact flat_strs xs, ?_⟩
    have hb : inV v vs = decide (a ∈ xs) := by rw [d.str, hv]; exact inV_strs a xs
    rw [hb]
    exact q _ _ ((e2.trans e3).trans e4) (Dt.ofBool _)⟩
theorem hv_inTS {tr : TA} {a : Str} {xs : List Str} (ha : Hv K M ta σ H a) (hr : HAs K M tr σ H xs) (hl : xs.length ≤ 100000) : Hv K M (tOp (rIn K false) ta (tTup tr)) σ H (decide (a ∈ xs)) := hv_memS (neg := false) ha hr hl
theorem hv_niTS {tr : TA} {a : Str} {xs : List Str} (ha : Hv K M ta σ H a) (hr : HAs K M tr σ H xs) (hl : xs.length ≤ 100000) : Hv K M (tOp (rIn K true) ta (tTup tr)) σ H (!decide (a ∈ xs)) := hv_memS (neg := true) ha hr hl
end
/-! ### facts of texts -/
abbrev cps (s : Str) : List Nat := s.cps.toList
theorem len_cps (s : Str) : s.length = (cps s).length := by simp [Str.length, cps]
theorem cps_app (a b : Str) : cps (a ++ b) = cps a ++ cps b := by
  show (a ++ b).cps.toList = _
  rw [PySem.Str.cps_append, Array.toList_append]
theorem str_ext {a b : Str} (h : cps a = cps b) : a = b := by
  cases a; cases b
  congr 1
  exact Array.toList_inj.mp h
theorem cps_lower {s : Str} (h : ∀ c ∈ cps s, c < 128) : cps (Txt.lower s) = (cps s).map PyProof.Rows.lo1 := by
  rw [PyProof.Rows.lower_ascii h]
  show (Array.map _ _).toList = _
  rw [Array.toList_map]
theorem find3_cases (x y : Str) (i : Int) :
    (Txt.find3 x y i = -1 ∧ ∀ k, PySem.fromIndex x.length i ≤ k → ¬ StrLaws.At x y x.length k) ∨
    ∃ k : Nat, Txt.find3 x y i = (k : Int) ∧ PySem.fromIndex x.length i ≤ k ∧ StrLaws.At x y x.length k ∧ ∀ v, PySem.fromIndex x.length i ≤ v → v < k → ¬ StrLaws.At x y x.length v := by
  unfold Txt.find3
  rcases StrLaws.occ_head_from x y (PySem.fromIndex x.length i) 1 (Nat.le_refl 1) with ⟨h0, hn⟩ | ⟨k, r, h0, h1, h2, h3⟩
  · rw [h0]; exact .inl ⟨rfl, hn⟩
  · rw [h0]; exact .inr ⟨k, rfl, h1, h2, h3⟩
theorem from_nat (n : Nat) {i : Int} (h : 0 ≤ i) : PySem.fromIndex n i = i.toNat := by
  unfold PySem.fromIndex
  rw [if_neg (by omega)]
  omega
theorem inStr_one (c : Nat) (s : Str) : inStr ⟨#[c]⟩ s = decide (c ∈ cps s) := StrLaws.found_one s c
theorem chars_cps (s : Str) : chars s = (cps s).map fun c => ⟨#[c]⟩ := rfl
theorem mem_chars {s x : Str} {i : Nat} (h : (chars s)[i]? = some x) : ∃ c ∈ cps s, x = ⟨#[c]⟩ := by
  rw [chars_cps, List.getElem?_map] at h
  cases hc : (cps s)[i]? with
  | none => rw [hc] at h; cases h
  | some c =>
    rw [hc] at h
    exact ⟨c, List.mem_of_getElem? hc, (Option.some.inj h).symm⟩
abbrev DIG : Str := PySem.Str.ofString "0123456789"
theorem cps_dig : cps DIG = [48, 49, 50, 51, 52, 53, 54, 55, 56, 57] := by decide +kernel
theorem dig_iff (c : Nat) : inStr ⟨#[c]⟩ DIG = true ↔ 48 ≤ c ∧ c ≤ 57 := by
  rw [inStr_one, cps_dig, decide_eq_true_eq]
  simp only [List.mem_cons, List.not_mem_nil, or_false]
  omega
theorem int_dig {c : Nat} (h : 48 ≤ c ∧ c ≤ 57) : PySem.intText? ⟨#[c]⟩ = some ((c - 48 : Nat) : Int) := by
  obtain ⟨h1, h2⟩ := h
  have : c = 48 ∨ c = 49 ∨ c = 50 ∨ c = 51 ∨ c = 52 ∨ c = 53 ∨ c = 54 ∨ c = 55 ∨ c = 56 ∨ c = 57 := by omega
  rcases this with h | h | h | h | h | h | h | h | h | h <;> (subst h; decide +kernel)
theorem int_sign {s x : Str} {i : Nat} (h : (chars s)[i]? = some x) (hd : inStr x DIG = true) : PySem.intText? x = some ((PySem.intText? x).getD 0) := by
  obtain ⟨c, _, rfl⟩ := mem_chars h
  rw [int_dig ((dig_iff c).mp hd)]
  rfl
theorem sum_le {α : Type} (f : α → Str) (n : Nat) (h : ∀ x, (f x).length ≤ n) : ∀ xs : List α, ((xs.map f).map (·.length)).sum ≤ n * xs.length
  | [] => by simp
  | x :: xs => by
    have := sum_le f n h xs
    have := h x
    rw [List.map_cons, List.map_cons, List.sum_cons, List.length_cons, Nat.mul_add]
    omega
theorem getD_P {α : Type} {P : α → Prop} {xs : List α} {d : α} (h : ∀ x ∈ xs, P x) (hd : P d) (i : Nat) : P (xs.getD i d) := by
  rw [List.getD_eq_getElem?_getD]
  cases hx : xs[i]? with
  | none => exact hd
  | some x => exact h x (List.mem_of_getElem? hx)
theorem next_find (d c : Str) {s : Int} (h0 : 0 ≤ s) : Txt.find3 d c (s + 1) < 0 ∨ (s < Txt.find3 d c (s + 1) ∧ Txt.find3 d c (s + 1) ≤ (d.length : Int)) := by
  rcases find3_cases d c (s + 1) with ⟨h, _⟩ | ⟨k, h, h1, h2, _⟩
  · left; omega
  · right
    rw [from_nat _ (by omega)] at h1
    have := h2.1
    omega
theorem loopW_inv {S : Type} {c : S → Bool} {f : S → S} (I : S → Prop) (hs : ∀ s, I s → c s = true → I (f s)) : ∀ (n : Nat) (s : S), I s → I (loopW c f n s)
  | 0, s, h => h
  | n + 1, s, h => by
    rw [loopW]
    split
    · rename_i hc
      exact loopW_inv I hs n _ (hs s h hc)
    · exact h
theorem foldl_inv {S α : Type} {f : S → α → S} (I : S → Prop) : ∀ (l : List α) (s : S), (∀ s x, x ∈ l → I s → I (f s x)) → I s → I (l.foldl f s)
  | [], s, _, h => h
  | x :: l, s, hs, h => by
    rw [List.foldl_cons]
    exact foldl_inv I l _ (fun s y hy => hs s y (List.mem_cons_of_mem _ hy)) (hs s x List.mem_cons_self h)
end Ly

namespace Ly
open PySem PySem.Spec PyProof.Rows L2 Evl
/-! ### facts of loops and of places in texts -/
/-- what lies from lo on, n places long -/
def gl {β : Type} (occ : Nat → Bool) (blk : Nat → List β) : Nat → Nat → List β
  | _, 0 => []
  | lo, n + 1 => (if occ lo = true then blk lo else []) ++ gl occ blk (lo + 1) n
theorem gl_skip {β : Type} {occ : Nat → Bool} {blk : Nat → List β} : ∀ (j lo r : Nat), (∀ v, lo ≤ v → v < lo + j → occ v = false) → gl occ blk lo (j + r) = gl occ blk (lo + j) r
  | 0, lo, r, _ => by rw [Nat.zero_add, Nat.add_zero]
  | j + 1, lo, r, h => by
    rw [show j + 1 + r = (j + r) + 1 by omega, gl, h lo (by omega) (by omega), if_neg Bool.false_ne_true, List.nil_append, gl_skip j (lo + 1) r fun v h1 h2 => h v (by omega) (by omega)]
    rw [show lo + 1 + j = lo + (j + 1) by omega]
theorem gl_none {β : Type} {occ : Nat → Bool} {blk : Nat → List β} : ∀ (j lo : Nat), (∀ v, lo ≤ v → v < lo + j → occ v = false) → gl occ blk lo j = []
  | 0, lo, _ => rfl
  | j + 1, lo, h => by
    rw [gl, h lo (by omega) (by omega), if_neg Bool.false_ne_true, List.nil_append]
    exact gl_none j (lo + 1) fun v h1 h2 => h v (by omega) (by omega)
theorem gl_mem {β : Type} {occ : Nat → Bool} {blk : Nat → List β} {x : β} : ∀ (n lo : Nat), x ∈ gl occ blk lo n → ∃ k, lo ≤ k ∧ k < lo + n ∧ occ k = true ∧ x ∈ blk k
  | 0, lo, h => by cases h
  | n + 1, lo, h => by
    rw [gl, List.mem_append] at h
    rcases h with h | h
    · cases ho : occ lo with
      | true => rw [ho, if_pos rfl] at h; exact ⟨lo, by omega, by omega, ho, h⟩
      | false => rw [ho, if_neg Bool.false_ne_true] at h; cases h
    · obtain ⟨k, h1, h2, h3⟩ := gl_mem n (lo + 1) h
      exact ⟨k, by omega, by omega, h3⟩
theorem gl_split {β : Type} {occ : Nat → Bool} {blk : Nat → List β} : ∀ (a b lo : Nat), gl occ blk lo (a + b) = gl occ blk lo a ++ gl occ blk (lo + a) b
  | 0, b, lo => by rw [Nat.zero_add]; rfl
  | a + 1, b, lo => by
    rw [show a + 1 + b = (a + b) + 1 by omega, gl, gl, gl_split a b (lo + 1), List.append_assoc, show lo + 1 + a = lo + (a + 1) by omega]
/-- turns over the places, and turns over what lies there -/
theorem foldl_gl {S β : Type} {occ : Nat → Bool} {blk : Nat → List β} {f : S → β → S} {g : S → Int → S} : ∀ (n lo : Nat) (s : S), (∀ v s, lo ≤ v → v < lo + n → g s (v : Int) = if occ v = true then (blk v).foldl f s else s) → (gl occ blk lo n).foldl f s = loopN g n (lo : Int) s
  | 0, lo, s, _ => rfl
  | n + 1, lo, s, h => by
    rw [gl, List.foldl_append, loopN, h lo s (by omega) (by omega)]
    have ih := fun s' => foldl_gl (occ := occ) (blk := blk) (f := f) (g := g) n (lo + 1) s' fun v s h1 h2 => h v s (by omega) (by omega)
    have e : ((lo : Int) + 1) = ((lo + 1 : Nat) : Int) := by omega
    rw [e]
    cases ho : occ lo with
    | true => rw [if_pos rfl, if_pos rfl]; exact ih _
    | false => rw [if_neg Bool.false_ne_true, if_neg Bool.false_ne_true]; exact ih _
/-- turns over places with the item there, and turns over the list told with its places -/
theorem loopN_enum {S α : Type} [DecidableEq α] [PySem.W.Datum α] {g : S → Int → α → S} {d : α} {xs : List α} : ∀ (k i : Nat) (s : S), i + k = xs.length → loopN (fun s x => g s x (xs.getD (Int.toNat x) d)) k (i : Int) s = ((enumL xs).drop i).foldl (fun s p => g s p.1 p.2) s
  | 0, i, s, h => by
    rw [List.drop_eq_nil_of_le (by rw [enumL_len]; omega)]
    rfl
  | k + 1, i, s, h => by
    have hi : i < xs.length := by omega
    have gx : xs[i]? = some xs[i] := by simp [hi]
    have gE := enumL_get gx
    obtain ⟨hi2, ge⟩ := List.getElem?_eq_some_iff.mp gE
    rw [List.drop_eq_getElem_cons hi2, ge, List.foldl_cons, loopN]
    have e : ((i : Int) + 1) = ((i + 1 : Nat) : Int) := by omega
    rw [e, loopN_enum k (i + 1) _ (by omega)]
    have e2 : xs.getD (Int.toNat (i : Int)) d = xs[i] := by
      rw [Int.toNat_natCast, List.getD_eq_getElem?_getD, gx]
      rfl
    rw [e2]
theorem enumL_mem {α : Type} [DecidableEq α] [PySem.W.Datum α] {xs : List α} {p : Int × α} (h : p ∈ enumL xs) : 0 ≤ p.1 ∧ p.1 < (xs.length : Int) ∧ p.2 ∈ xs := by
  obtain ⟨i, hi, rfl⟩ := List.getElem_of_mem h
  have hx : i < xs.length := by rw [enumL_len] at hi; exact hi
  have gx : xs[i]? = some xs[i] := by simp [hx]
  have gE := enumL_get gx
  obtain ⟨_, ge⟩ := List.getElem?_eq_some_iff.mp gE
  rw [ge]
  exact ⟨by show (0 : Int) ≤ (i : Int); omega, by show (i : Int) < _; omega, List.getElem_mem hx⟩
/-- c lies in d at k -/
def occ (d c : Str) (k : Nat) : Bool := decide (k + c.length ≤ d.length) && Builtin.Str.subAt d c k
theorem occ_iff (d c : Str) (k : Nat) : occ d c k = true ↔ StrLaws.At d c d.length k := by
  unfold occ StrLaws.At
  rw [Bool.and_eq_true, decide_eq_true_eq]
theorem occ_no {d c : Str} {k : Nat} (h : ¬ StrLaws.At d c d.length k) : occ d c k = false := by
  cases e : occ d c k with
  | false => rfl
  | true => exact absurd ((occ_iff d c k).mp e) h
theorem find_zero (d c : Str) : Txt.find d c = Txt.find3 d c ((0 : Nat) : Int) := by
  unfold Txt.find Txt.find3
  rw [from_nat _ (by omega)]
  rfl
/-- the places, found one after another -/
theorem loopW_occ {β : Type} {d c : Str} {blk : Nat → List β} {f : List β × Int → List β × Int} (hf : ∀ l (k : Nat), f (l, (k : Int)) = (l ++ blk k, Txt.find3 d c ((k : Int) + 1))) :
    ∀ (fuel lo : Nat) (l : List β), lo ≤ d.length + 1 → d.length + 1 - lo < fuel →
      (loopW (fun (s_ : List β × Int) => decide ((0 : Int) ≤ s_.2)) f fuel (l, Txt.find3 d c (lo : Int))).1 = l ++ gl (occ d c) blk lo (d.length + 1 - lo)
  | 0, lo, l, _, h => by omega
  | fuel + 1, lo, l, h1, h2 => by
    rw [loopW]
    rcases find3_cases d c (lo : Int) with ⟨h, hn⟩ | ⟨k, h, hk, hat, hn⟩
    · rw [from_nat _ (by omega), Int.toNat_natCast] at hn
      rw [h, if_neg (show ¬ decide ((0 : Int) ≤ -1) = true by decide)]
      rw [gl_none _ _ fun v h1 h2 => occ_no (hn v h1), List.append_nil]
    · rw [from_nat _ (by omega), Int.toNat_natCast] at hk hn
      have hle := hat.1
      rw [h, if_pos (by show decide ((0 : Int) ≤ (k : Int)) = true; rw [decide_eq_true_eq]; omega), hf, show ((k : Int) + 1) = ((k + 1 : Nat) : Int) by omega, loopW_occ hf fuel (k + 1) _ (by omega) (by omega), List.append_assoc]
      congr 1
      rw [show d.length + 1 - lo = (k - lo) + (d.length + 1 - k) by omega, gl_skip (k - lo) lo _ fun v h1 h2 => occ_no (hn v h1 (by omega))]
      rw [show lo + (k - lo) = k by omega, show d.length + 1 - k = (d.length + 1 - (k + 1)) + 1 by omega, gl, if_pos ((occ_iff d c k).mpr hat)]
theorem cut_occ {d c : Str} {k : Nat} (h : k + c.length ≤ d.length) : decide (cutS d (some (k : Int)) (some ((k : Int) + ((c.length : Nat) : Int))) = c) = occ d c k := by
  have e1 : HT.sIx d.length 0 (some (k : Int)) = k := by rw [HT.sIx_nat]; omega
  have e2 : HT.sIx d.length d.length (some ((k : Int) + ((c.length : Nat) : Int))) = k + c.length := by
    rw [show ((k : Int) + ((c.length : Nat) : Int)) = ((k + c.length : Nat) : Int) by omega, HT.sIx_nat]; omega
  unfold occ
  rw [decide_eq_true h, Bool.true_and, StrLaws.subAt_eq]
  unfold cutS
  rw [e1, e2, show k + c.length - k = c.length by omega]
  by_cases q : (d.cps.toList.drop k).take c.length = c.cps.toList
  · rw [q, beq_self_eq_true, decide_eq_true_eq]
  · have q2 : ((d.cps.toList.drop k).take c.length == c.cps.toList) = false := beq_eq_false_iff_ne.mpr q
    rw [q2, decide_eq_false]
    intro z
    apply q
    have := congrArg (fun (s : Str) => s.cps.toList) z
    simpa using this
theorem loopNR_all {ρ S : Type} {f : S → Int → Lp ρ S} (h : ∀ s k, f s k = .nxt s) : ∀ (n : Nat) (k : Int) (s : S), loopNR f n k s = .inr s
  | 0, _, _ => rfl
  | n + 1, k, s => by rw [loopNR, h]; exact loopNR_all h n (k + 1) s
theorem set_same {xs : List Int} {i : Nat} {v : Int} (h : xs.getD i 0 = v) : xs.set i v = xs := by
  rw [List.getD_eq_getElem?_getD] at h
  cases hx : xs[i]? with
  | none => exact List.set_eq_of_length_le (List.getElem?_eq_none_iff.mp hx)
  | some x =>
    rw [hx] at h
    obtain ⟨hi, hg⟩ := List.getElem?_eq_some_iff.mp hx
    subst h
    rw [← hg]
    exact List.set_getElem_self hi
theorem getD_nonneg {xs : List Int} (h : ∀ x ∈ xs, (0 : Int) ≤ x) (i : Nat) : 0 ≤ xs.getD i 0 := getD_P (P := fun x => (0 : Int) ≤ x) h (Int.le_refl 0) i
theorem cutL_in {α : Type} {xs : List α} {a b : Nat} : cutL xs (some (a : Int)) (some (b : Int)) = (xs.drop (min a xs.length)).take (min b xs.length - min a xs.length) := by
  unfold cutL
  rw [HT.sIx_nat, HT.sIx_nat]
theorem zeros_eq (n : Nat) : (List.replicate n [(0 : Int)]).flatten = (irng 0 n).map (fun _ => (0 : Int)) := by
  have h1 : ∀ k : Nat, (List.replicate k [(0 : Int)]).flatten = List.replicate k 0 := fun k => by
    induction k with
    | zero => rfl
    | succ k ih => rw [List.replicate_succ, List.flatten_cons, ih]; rfl
  rw [h1]
  symm
  rw [List.eq_replicate_iff]
  exact ⟨by rw [List.length_map, irng_len], fun b hb => by obtain ⟨_, _, rfl⟩ := List.mem_map.mp hb; rfl⟩
end Ly

namespace My
open PySem PySem.Spec PyProof.Rows L2 Evl Ly
open PySem.W (Datum DatumOrd Tup T3 T4 minOf)
def topS (i : Nat) : Stmt := PySem.Challenge.pw_folio_k10_levels.main.body.getD i (.Pass ⟨0, 0, 0, 0⟩)
structure Txt (K : PySem.W.Frag) (mg : Str → Option Value) where
  f_levels : Addr
  d_levels : FuncData
  u_levels : Fun K "levels" "levels" (topS 2) f_levels d_levels
  b_levels : Binds K d_levels ["entries", "word"] []
  g_levels : mg "levels" = some (.ref f_levels)
  f_given_levels : Addr
  d_given_levels : FuncData
  u_given_levels : Fun K "given_levels" "given_levels" (topS 3) f_given_levels d_given_levels
  b_given_levels : Binds K d_given_levels ["pattern", "dotted"] []
  g_given_levels : mg "given_levels" = some (.ref f_given_levels)
  f_split_pattern : Addr
  d_split_pattern : FuncData
  u_split_pattern : Fun K "split_pattern" "split_pattern" (topS 4) f_split_pattern d_split_pattern
  b_split_pattern : Binds K d_split_pattern ["pattern"] []
  g_split_pattern : mg "split_pattern" = some (.ref f_split_pattern)
  f_law_cell : Addr
  d_law_cell : FuncData
  u_law_cell : Fun K "_law_cell" "_law_cell" (topS 6) f_law_cell d_law_cell
  b_law_cell : Binds K d_law_cell ["script", "k"] []
  g_law_cell : mg "_law_cell" = some (.ref f_law_cell)
  f_law_draws : Addr
  d_law_draws : FuncData
  u_law_draws : Fun K "_law_draws" "_law_draws" (topS 7) f_law_draws d_law_draws
  b_law_draws : Binds K d_law_draws ["cell", "count"] []
  g_law_draws : mg "_law_draws" = some (.ref f_law_draws)
  f_law_word : Addr
  d_law_word : FuncData
  u_law_word : Fun K "_law_word" "_law_word" (topS 8) f_law_word d_law_word
  b_law_word : Binds K d_law_word ["cell", "size"] []
  g_law_word : mg "_law_word" = some (.ref f_law_word)
  f_law_entry : Addr
  d_law_entry : FuncData
  u_law_entry : Fun K "_law_entry" "_law_entry" (topS 9) f_law_entry d_law_entry
  b_law_entry : Binds K d_law_entry ["cell"] []
  g_law_entry : mg "_law_entry" = some (.ref f_law_entry)
  f_law_pattern : Addr
  d_law_pattern : FuncData
  u_law_pattern : Fun K "_law_pattern" "_law_pattern" (topS 10) f_law_pattern d_law_pattern
  b_law_pattern : Binds K d_law_pattern ["text"] []
  g_law_pattern : mg "_law_pattern" = some (.ref f_law_pattern)
  f_law_expected : Addr
  d_law_expected : FuncData
  u_law_expected : Fun K "_law_expected" "_law_expected" (topS 11) f_law_expected d_law_expected
  b_law_expected : Binds K d_law_expected ["entries", "word"] []
  g_law_expected : mg "_law_expected" = some (.ref f_law_expected)
  f_law : Addr
  d_law : FuncData
  u_law : Fun K "law" "law" (topS 12) f_law d_law
  b_law : Binds K d_law ["script"] []
  g_law : mg "law" = some (.ref f_law)
  n_bool : mg "bool" = none
  n_enumerate : mg "enumerate" = none
  n_int : mg "int" = none
  n_isinstance : mg "isinstance" = none
  n_len : mg "len" = none
  n_list : mg "list" = none
  n_max : mg "max" = none
  n_range : mg "range" = none
  t_DIGITS : Tok
  g_DIGITS : mg "DIGITS" = some (.str (PySem.Str.ofString "0123456789") t_DIGITS)
section
variable {P : Program} {w : World} {K : PySem.W.Frag} {mg : Str → Option Value} {base : Heap}

theorem l_dot : (PySem.Str.ofString ".").length = 1 := by decide +kernel
theorem l_emp : (PySem.Str.ofString "").length = 0 := by decide +kernel
theorem l_abcB : (PySem.Str.ofString "abcB").length = 4 := by decide +kernel
theorem g_digs (i : Nat) : (List.getD [(PySem.Str.ofString ""), (PySem.Str.ofString "1"), (PySem.Str.ofString "2"), (PySem.Str.ofString "3"), (PySem.Str.ofString "14"), (PySem.Str.ofString "9"), (PySem.Str.ofString "0")] i (PySem.Str.ofString "")).length ≤ 2 := getD_P (P := fun s => Str.length s ≤ 2) (by decide +kernel) (by decide +kernel) i
theorem g_pre (i : Nat) : (List.getD [(PySem.Str.ofString ""), (PySem.Str.ofString "."), (PySem.Str.ofString "3."), (PySem.Str.ofString ".4")] i (PySem.Str.ofString "")).length ≤ 2 := getD_P (P := fun s => Str.length s ≤ 2) (by decide +kernel) (by decide +kernel) i
theorem g_end (i : Nat) : (List.getD [(PySem.Str.ofString "1"), (PySem.Str.ofString "."), (PySem.Str.ofString "5.")] i (PySem.Str.ofString "")).length ≤ 2 := getD_P (P := fun s => Str.length s ≤ 2) (by decide +kernel) (by decide +kernel) i

def m_split_pattern_l0  (s_ : (List Int) × PySem.Str) (x_ : PySem.Str) : (List Int) × PySem.Str :=
  let marks_ : (List Int) := s_.1
  let characters_ : PySem.Str := s_.2
  let sign_ : PySem.Str := x_
  if (inStr sign_ (PySem.Str.ofString "0123456789")) = true then
    let marks_ : (List Int) := (List.set marks_ (marks_.length - 1) (Option.getD (PySem.intText? sign_) 0))
    (marks_, characters_)
  else
    let characters_ : PySem.Str := (characters_ ++ sign_)
    let marks_ : (List Int) := marks_ ++ [(0 : Int)]
    (marks_, characters_)
def m_split_pattern (pattern_ : PySem.Str) : (PySem.Str × (List Int)) :=
  let characters_ : PySem.Str := (PySem.Str.ofString "")
  let marks_ : (List Int) := [(0 : Int)]
  let r0_ : (List Int) × PySem.Str := List.foldl m_split_pattern_l0 (marks_, characters_) (chars (Txt.lower pattern_))
  let marks_ : (List Int) := r0_.1
  let characters_ : PySem.Str := r0_.2
  (characters_, marks_)
abbrev s_split_pattern : Stmt := topS 4
theorem sc_split_pattern : FnScope ["pattern", "characters", "marks", "sign"] ["pattern"] (defScope s_split_pattern) := ⟨rfl, rfl, rfl, by decide +kernel, rfl, by decide +kernel, by decide +kernel⟩
abbrev sp_split_pattern (K : PySem.W.Frag) : Sp := PrD K (fun c : PySem.Str => [Datum.toD c]) (fun c => c.length ≤ 20) (fun c => (m_split_pattern c : (PySem.Str × (List Int))))
theorem ok_split_pattern (T : Txt K mg) : FnOk P w K mg base CX0 1 T.f_split_pattern T.d_split_pattern ["pattern"] (sp_split_pattern K) := by
  refine T.u_split_pattern.ok sc_split_pattern (fun vs H Q E h => ?_) (fun cdv A outer s H vs Q E hr h => ?_)
  · obtain ⟨Mc, c, mok, da, pre, q⟩ := h
    exact (dpa_len da)
  · obtain ⟨Mc, c, mok, da, pre, q⟩ := h
    obtain ⟨pattern_, rfl⟩ : ∃ z, z = c := ⟨c, rfl⟩
    dsimp only at da pre q
    obtain ⟨v0, w0, rfl, d0, da0⟩ := dpa_inv da
    cases dpa_inv0 da0
    cases (Dt.str d0)
    have s0 : Sg K Mc H H [] [] := Sg.enter mok True.intro
    have hlow := PyProof.Rows.len_lower pattern_
    have hchl := chars_len (Txt.lower pattern_)
    refine ⟨_, (pss_cons (ps_set (i := 1) sc_split_pattern.nd rfl (.inl rfl) pe_str) (pss_cons (ps_set (i := 2) sc_split_pattern.nd rfl (.inl rfl) (pe_lst (pa_cons pe_int pa_nil))) (pss_cons (ps_for PassesOwn.never rfl (pi_str (pe_lower (pv 0))) (pg_name (i := 3) sc_split_pattern.nd rfl (.inl rfl)) (pss_cons (ps_if (pt_cmpR op_in_str (pv 3) (pe_glob (v := .str (PySem.Str.ofString "0123456789")) rfl T.g_DIGITS ⟨_, rfl⟩) (by rfl)) (pss_cons (ps_asg (pe_callTy call_int_str (by rfl) T.n_int (by decide +kernel) (pa_cons (pv 3) pa_nil)) (pg_sub (pv 2) (pe_un un_neg pe_int) set_list)) pss_nil) (pss_cons (ps_aug (i := 1) sc_split_pattern.nd rfl (.inl rfl) (pv 3) iop_add_str) (pss_cons (ps_expr (pe_bm PySem.F.plainAttrs_list PySem.F.slot_list_append PySem.F.type_list_append mt_append (pv 2) (pa_cons pe_int pa_nil))) pss_nil))) pss_nil)) (pss_cons (ps_ret (pe_tup (pa_cons (pv 1) (pa_cons (pv 2) pa_nil)))) pss_nil)))), ?_⟩
    refine z_asgSG s0 (hv_str _) fun characters_2 hcharacters_2 Hs1 s1 => ?_
    try dsimp only at hcharacters_2
    refine z_freshG s1 (hf_lst (has_cons (hv_int 0) has_nil) (Nat.le_of_ble_eq_true rfl)) fun marks_4 hmarks_4 ps3 Hs3 s3 => ?_
    try dsimp only at hmarks_4
    have lmarks_4 := congrArg List.length hmarks_4
    try simp only [List.length_map, irng_len, List.length_flatten, List.map_replicate, List.sum_replicate_nat, List.length_cons, List.length_nil] at lmarks_4
    refine zq_forS s3 (hv_lower (hv_vS rfl) (by have := l_dot; have := l_emp; have := l_abcB; first | omega | (simp only [str_len_app, mulS_len, strAt_len]; omega))) (fun i σ' H' => ∃ (marks_5 : (List Int)) (characters_6 : PySem.Str) (o7 : Option V), (List.foldl m_split_pattern_l0 (marks_4, characters_2) (chars (Txt.lower pattern_)) : (List Int) × PySem.Str) = (List.foldl m_split_pattern_l0 (marks_5, characters_6) (List.drop i (chars (Txt.lower pattern_))) : (List Int) × PySem.Str) ∧ (marks_5.length = characters_6.length + 1 ∧ characters_6.length ≤ (i)) ∧ σ' = [some (V.str pattern_), some (V.str characters_6), some (.ref ps3), o7] ∧ Sg K Mc H H' [] [(ps3, .lst (List.map Datum.toD marks_5))]) (fun Hs8 s8 => ⟨marks_4, characters_2, _, rfl, (by subst_vars; exact ⟨by rw [l_emp]; rfl, by rw [l_emp]; exact Nat.le_refl _⟩), rfl, s8.keep fun _ h => True.intro⟩) (fun i12 x13 σ' Hs11 hi15 hP => ?_) (fun σ' Hs11 hP => ?_)
    · obtain ⟨marks_5, characters_6, o7, he9, hg10, rfl, s11⟩ := hP
      have ox13 := chars_one hi15
      have qx13 := (List.getElem?_eq_some_iff.mp hi15).1
      refine z_if (b := (inStr x13 (PySem.Str.ofString "0123456789"))) s11 (ht_val (K := K) (hv_inStr (hv_vS rfl) (hv_str _))) (fun hb17 Hs18 s18 => ?_) (fun hb17 Hs19 s19 => ?_)
      · have hb17P := hb17
        try simp only [decide_eq_true_eq, decide_eq_false_iff_not, Bool.not_eq_true', Bool.not_eq_false', Bool.and_eq_true, Bool.or_eq_true, Bool.or_eq_false_iff] at hb17P
        refine z_setLastG s18 (kk := 0) rfl (hv_intS (hv_vS rfl) (by exact int_sign ‹_› ‹_›) (by have := chars_one ‹(chars _)[_]? = some _›; omega)) (ev_var rfl) (by first | omega | decide +kernel | (simp only [List.length_cons, List.length_nil]; omega)) fun marks_21 hmarks_21 Hs20 s20 => ?_
        try dsimp only at hmarks_21
        have lmarks_21 : marks_21.length = marks_5.length := by rw [hmarks_21, List.length_set]
        have s20 : Sg K Mc _ _ _ [(ps3, .lst (List.map Datum.toD marks_21))] := s20
        have hf22 : m_split_pattern_l0 (marks_5, characters_6) x13 = (marks_21, characters_6) := (by subst hmarks_21; subst hmarks_4; subst hcharacters_2; first | (simp only [m_split_pattern_l0, hb17, if_true, if_false, Bool.false_eq_true, decide_true, decide_false, Option.getD_some, Option.isNone_none, Option.isNone_some, Bool.not_true, Bool.not_false, ↓reduceIte]; done) | (rfl; done) | (exfalso; simp at hb17; done))
        exact ⟨marks_21, characters_6, _, he9.trans ((foldl_step hi15).trans (by rw [hf22])), (by have := chars_one ‹(chars _)[_]? = some _›; omega), rfl, s20.keep fun _ h => True.intro⟩
      · have hb17P := hb17
        try simp only [decide_eq_true_eq, decide_eq_false_iff_not, Bool.not_eq_true', Bool.not_eq_false', Bool.and_eq_true, Bool.or_eq_true, Bool.or_eq_false_iff] at hb17P
        refine z_augSG s19 rfl (hv_vS rfl) (by have := chars_one ‹(chars _)[_]? = some _›; omega) fun characters_24 hcharacters_24 Hs23 s23 => ?_
        have lcharacters_24 : characters_24.length = _ := (congrArg Str.length hcharacters_24).trans (str_len_app _ _)
        refine zq_appG s23 (kk := 0) rfl (ev_var rfl) (hv_int 0) (by first | omega | decide +kernel | (simp only [List.length_cons, List.length_nil]; omega)) fun marks_26 hmarks_26 Hs25 s25 => ?_
        have lmarks_26 : marks_26.length = marks_5.length + 1 := by rw [hmarks_26, List.length_append]; rfl
        have s25 : Sg K Mc _ _ _ [(ps3, .lst (List.map Datum.toD marks_26))] := s25
        have hf27 : m_split_pattern_l0 (marks_5, characters_6) x13 = (marks_26, characters_24) := (by subst hmarks_26; subst hcharacters_24; subst hmarks_4; subst hcharacters_2; first | (simp only [m_split_pattern_l0, hb17, if_true, if_false, Bool.false_eq_true, decide_true, decide_false, Option.getD_some, Option.isNone_none, Option.isNone_some, Bool.not_true, Bool.not_false, ↓reduceIte]; done) | (rfl; done) | (exfalso; simp at hb17; done))
        exact ⟨marks_26, characters_24, _, he9.trans ((foldl_step hi15).trans (by rw [hf27])), (by have := chars_one ‹(chars _)[_]? = some _›; omega), rfl, s25.keep fun _ h => True.intro⟩
    · obtain ⟨marks_28, characters_29, o30, he32, hg33, rfl, s31⟩ := hP
      rw [foldl_end] at he32
      have s34 := Sg.frz (xs := marks_28) s31
      have hF35 : m_split_pattern pattern_ = (characters_29, marks_28) := (by subst hmarks_4; subst hcharacters_2; first | (simp only [m_split_pattern, he32, if_true, if_false, Bool.false_eq_true, decide_true, decide_false, Option.getD_some, Option.isNone_none, Option.isNone_some, Bool.not_true, Bool.not_false, ↓reduceIte]; done) | (rfl; done))
      exact zq_ret s34 (hv_tup2 (hv_vS rfl) (hv_var (x := marks_28) rfl s34.im.1)) fun v H' e d => q v H' e (by rw [hF35]; exact d)
/-! split_pattern -/
theorem split_run : ∀ (l : List PySem.Str) (s : List Int × PySem.Str), (∀ x ∈ l, x.length = 1) → s.1.length = s.2.length + 1 →
    (List.foldl m_split_pattern_l0 s l).1.length = (List.foldl m_split_pattern_l0 s l).2.length + 1 ∧ (List.foldl m_split_pattern_l0 s l).2.length ≤ s.2.length + l.length
  | [], s, _, h => ⟨h, Nat.le_add_right _ _⟩
  | x :: l, s, hx, h => by
    rw [List.foldl_cons]
    have h1 := hx x List.mem_cons_self
    by_cases q : inStr x (PySem.Str.ofString "0123456789") = true
    · have e : m_split_pattern_l0 s x = (List.set s.1 (s.1.length - 1) (Option.getD (PySem.intText? x) 0), s.2) := by
        unfold m_split_pattern_l0; dsimp only; rw [if_pos q]
      rw [e]
      have ih := split_run l (List.set s.1 (s.1.length - 1) (Option.getD (PySem.intText? x) 0), s.2) (fun y hy => hx y (List.mem_cons_of_mem _ hy)) (by rw [List.length_set]; exact h)
      exact ⟨ih.1, Nat.le_trans ih.2 (by rw [List.length_cons]; exact Nat.add_le_add_left (Nat.le_succ _) _)⟩
    · have e : m_split_pattern_l0 s x = (s.1 ++ [(0 : Int)], s.2 ++ x) := by
        unfold m_split_pattern_l0; dsimp only; rw [if_neg q]
      rw [e]
      have ih := split_run l (s.1 ++ [(0 : Int)], s.2 ++ x) (fun y hy => hx y (List.mem_cons_of_mem _ hy)) (by
        show (s.1 ++ [(0 : Int)]).length = (s.2 ++ x).length + 1
        rw [List.length_append, str_len_app, h1, h]; rfl)
      refine ⟨ih.1, Nat.le_trans ih.2 ?_⟩
      show (s.2 ++ x).length + l.length ≤ _
      rw [str_len_app, h1, List.length_cons]
      omega
theorem chars_mem_one {s x : PySem.Str} (h : x ∈ chars s) : x.length = 1 := by
  obtain ⟨i, hi, he⟩ := List.getElem_of_mem h
  exact chars_one (s := s) (i := i) (List.getElem?_eq_some_iff.mpr ⟨hi, he⟩)
theorem split_len (p : PySem.Str) : (m_split_pattern p).2.length = (m_split_pattern p).1.length + 1 ∧ (m_split_pattern p).1.length ≤ 3 * p.length := by
  have k := split_run (chars (Txt.lower p)) ([(0 : Int)], PySem.Str.ofString "") (fun x hx => chars_mem_one hx) (by rw [l_emp]; rfl)
  refine ⟨k.1, Nat.le_trans k.2 ?_⟩
  rw [chars_len, l_emp, Nat.zero_add]
  exact PyProof.Rows.len_lower p

def m_law_cell (script_ : (List Int)) (k_ : Int) : Int :=
  if (decide (k_ < ((script_).length : Int))) = true then
    (script_.getD (Int.toNat k_) 0)
  else
    (0 : Int)
abbrev s_law_cell : Stmt := topS 6
theorem sc_law_cell : FnScope ["script", "k"] ["script", "k"] (defScope s_law_cell) := ⟨rfl, rfl, rfl, by decide +kernel, rfl, by decide +kernel, by decide +kernel⟩
abbrev sp_law_cell (K : PySem.W.Frag) : Sp := PrD K (fun c : (List Int) × Int => [Datum.toD c.1, Datum.toD c.2]) (fun c => 0 ≤ c.2) (fun c => (m_law_cell c.1 c.2 : Int))
theorem ok_law_cell (T : Txt K mg) : FnOk P w K mg base CX0 1 T.f_law_cell T.d_law_cell ["script", "k"] (sp_law_cell K) := by
  refine T.u_law_cell.ok sc_law_cell (fun vs H Q E h => ?_) (fun cdv A outer s H vs Q E hr h => ?_)
  · obtain ⟨Mc, c, mok, da, pre, q⟩ := h
    exact (dpa_len da)
  · obtain ⟨Mc, c, mok, da, pre, q⟩ := h
    obtain ⟨script_, k_⟩ := c
    dsimp only at da pre q
    obtain ⟨v0, w0, rfl, d0, da0⟩ := dpa_inv da
    obtain ⟨v1, w1, rfl, d1, da1⟩ := dpa_inv da0
    cases dpa_inv0 da1
    cases (Dt.int d1)
    have s0 : Sg K Mc H H [(v0, Datum.toD script_)] [] := Sg.enter mok ⟨d0, True.intro⟩
    refine ⟨_, (pss_cons (ps_if (pt_cmpR op_lt (pv 1) (pe_callB call_len (by rfl) T.n_len (by decide +kernel) (pa_cons (pv 0) pa_nil)) (nomark _)) (pss_cons (ps_ret (pe_ix ix_list (pv 0) (pv 1) (fun _ _ => rfl))) pss_nil) pss_nil) (pss_cons (ps_ret pe_int) pss_nil)), ?_⟩
    refine z_ifx (b := (decide (k_ < ((script_).length : Int)))) s0 (ht_val (K := K) (hv_lt (hv_vI rfl) (hv_len (hs_of (hv_var (x := script_) rfl s0.im.1))))) (fun hb1 Hs2 s2 => ?_) (fun hb1 Hs3 s3 => ?_)
    · have hb1P := hb1
      try simp only [decide_eq_true_eq, decide_eq_false_iff_not, Bool.not_eq_true', Bool.not_eq_false', Bool.and_eq_true, Bool.or_eq_true, Bool.or_eq_false_iff] at hb1P
      have hF4 : m_law_cell script_ k_ = (script_.getD (Int.toNat k_) 0) := (by  first | (simp only [m_law_cell, hb1, if_true, if_false, Bool.false_eq_true, decide_true, decide_false, Option.getD_some, Option.isNone_none, Option.isNone_some, Bool.not_true, Bool.not_false, ↓reduceIte]; done) | (rfl; done) | (exfalso; simp at hb1; done))
      exact zq_ret s2 (hv_at 0 (hs_of (hv_var (x := script_) rfl s2.im.1)) (hv_vI rfl) (by first | omega | decide +kernel | (simp only [List.length_cons, List.length_nil]; omega)) (by first | omega | decide +kernel | (simp only [List.length_cons, List.length_nil]; omega))) fun v H' e d => q v H' e (by rw [hF4]; exact d)
    · have hb1P := hb1
      try simp only [decide_eq_true_eq, decide_eq_false_iff_not, Bool.not_eq_true', Bool.not_eq_false', Bool.and_eq_true, Bool.or_eq_true, Bool.or_eq_false_iff] at hb1P
      have hF5 : m_law_cell script_ k_ = (0 : Int) := (by  first | (simp only [m_law_cell, hb1, if_true, if_false, Bool.false_eq_true, decide_true, decide_false, Option.getD_some, Option.isNone_none, Option.isNone_some, Bool.not_true, Bool.not_false, ↓reduceIte]; done) | (rfl; done) | (exfalso; simp at hb1; done))
      exact zq_ret s3 (hv_int 0) fun v H' e d => q v H' e (by rw [hF5]; exact d)
def m_law_draws_l0 (is_wide_ : Bool) (s_ : (List Int) × Int) (x_ : Int) : (List Int) × Int :=
  let found_ : (List Int) := s_.1
  let cell_ : Int := s_.2
  let k_ : Int := x_
  if is_wide_ = true then
    let found_ : (List Int) := found_ ++ [(cell_ % (1009 : Int))]
    let cell_ : Int := (cell_ / (1009 : Int))
    (found_, cell_)
  else
    let mixed_ : Int := (((cell_ * (48271 : Int)) + (k_ * (69621 : Int))) % (2147483647 : Int))
    let found_ : (List Int) := found_ ++ [((((mixed_ * mixed_) + (cell_ * (31 : Int))) + k_) % (1000003 : Int))]
    (found_, cell_)
def m_law_draws (cell_ : Int) (count_ : Int) : (List Int) :=
  let found_ : (List Int) := []
  let is_wide_ : Bool := (decide ((1000000000000000000 : Int) ≤ cell_))
  let r0_ : (List Int) × Int := loopN (m_law_draws_l0 is_wide_) (Int.toNat count_) (0 : Int) (found_, cell_)
  let found_ : (List Int) := r0_.1
  let cell_ : Int := r0_.2
  found_
abbrev s_law_draws : Stmt := topS 7
theorem sc_law_draws : FnScope ["cell", "count", "found", "is_wide", "k", "mixed"] ["cell", "count"] (defScope s_law_draws) := ⟨rfl, rfl, rfl, by decide +kernel, rfl, by decide +kernel, by decide +kernel⟩
abbrev sp_law_draws (K : PySem.W.Frag) : Sp := PrD K (fun c : Int × Int => [Datum.toD c.1, Datum.toD c.2]) (fun c => 0 ≤ c.2 ∧ c.2 ≤ 1000) (fun c => (m_law_draws c.1 c.2 : (List Int)))
theorem ok_law_draws (T : Txt K mg) : FnOk P w K mg base CX0 1 T.f_law_draws T.d_law_draws ["cell", "count"] (sp_law_draws K) := by
  refine T.u_law_draws.ok sc_law_draws (fun vs H Q E h => ?_) (fun cdv A outer s H vs Q E hr h => ?_)
  · obtain ⟨Mc, c, mok, da, pre, q⟩ := h
    exact (dpa_len da)
  · obtain ⟨Mc, c, mok, da, pre, q⟩ := h
    obtain ⟨cell_, count_⟩ := c
    dsimp only at da pre q
    obtain ⟨v0, w0, rfl, d0, da0⟩ := dpa_inv da
    obtain ⟨v1, w1, rfl, d1, da1⟩ := dpa_inv da0
    cases dpa_inv0 da1
    cases (Dt.int d0)
    cases (Dt.int d1)
    have s0 : Sg K Mc H H [] [] := Sg.enter mok True.intro
    refine ⟨_, (pss_cons (ps_set (i := 2) sc_law_draws.nd rfl (.inl rfl) (pe_lst pa_nil)) (pss_cons (ps_set (i := 3) sc_law_draws.nd rfl (.inl rfl) (pe_cmpR op_ge (pv 0) (pe_op op_pow pe_int pe_int) (nomark _))) (pss_cons (ps_for PassesOwn.never rfl (pi_range1 (by rfl) T.n_range (pa_cons (pv 1) pa_nil)) (pg_name (i := 4) sc_law_draws.nd rfl (.inl rfl)) (pss_cons (ps_if (pt_val (pv 3)) (pss_cons (ps_expr (pe_bm PySem.F.plainAttrs_list PySem.F.slot_list_append PySem.F.type_list_append mt_append (pv 2) (pa_cons (pe_op op_mod (pe_callTy call_int1 (by rfl) T.n_int (by decide +kernel) (pa_cons (pv 0) pa_nil)) pe_int) pa_nil))) (pss_cons (ps_set (i := 0) sc_law_draws.nd rfl (.inl rfl) (pe_op op_fdivW (pv 0) pe_int)) pss_nil)) (pss_cons (ps_set (i := 5) sc_law_draws.nd rfl (.inl rfl) (pe_op op_mod (pe_callTy call_int1 (by rfl) T.n_int (by decide +kernel) (pa_cons (pe_op op_add (pe_op op_mul (pv 0) pe_int) (pe_op op_mul (pv 4) pe_int)) pa_nil)) pe_int)) (pss_cons (ps_expr (pe_bm PySem.F.plainAttrs_list PySem.F.slot_list_append PySem.F.type_list_append mt_append (pv 2) (pa_cons (pe_op op_mod (pe_callTy call_int1 (by rfl) T.n_int (by decide +kernel) (pa_cons (pe_op op_add (pe_op op_add (pe_op op_mul (pv 5) (pv 5)) (pe_op op_mul (pv 0) pe_int)) (pv 4)) pa_nil)) pe_int) pa_nil))) pss_nil))) pss_nil)) (pss_cons (ps_ret (pv 2)) pss_nil)))), ?_⟩
    refine z_nilG Int s0 fun found_2 hfound_2 ps1 Hs1 s1 => ?_
    have lfound_2 : found_2.length = 0 := by rw [hfound_2]; rfl
    refine z_asgBG s1 (hv_ge (hv_vI rfl) ((hv_pow (hv_int 10) (hv_int 18) ⟨by decide +kernel, by decide +kernel, by decide +kernel⟩).is (show _ = (1000000000000000000 : Int) by decide +kernel))) fun is_wide_4 his_wide_4 Hs3 s3 => ?_
    try dsimp only at his_wide_4
    refine zq_forR1G s3 (hv_vI rfl) (by first | omega | decide +kernel | (simp only [List.length_cons, List.length_nil]; omega)) (fun i σ' H' => ∃ (found_5 : (List Int)) (cell_6 : Int) (o7 : Option V) (o8 : Option V), (loopN (m_law_draws_l0 is_wide_4) (Int.toNat count_) (0 : Int) (found_2, cell_) : (List Int) × Int) = (loopN (m_law_draws_l0 is_wide_4) ((Int.toNat count_) - i) ((0 : Int) + (i : Int)) (found_5, cell_6) : (List Int) × Int) ∧ (found_5.length = (i)) ∧ σ' = [some (V.int cell_6), some (V.int count_), some (.ref ps1), some (V.bl is_wide_4), o7, o8] ∧ Sg K Mc H H' [] [(ps1, .lst (List.map Datum.toD found_5))]) (fun Hs9 s9 => ⟨found_2, cell_, _, _, (by simp), (by first | trivial | omega | (simp; done) | simp_all), rfl, s9.keep fun _ h => True.intro⟩) (fun i13 x14 σ' Hs12 hx15 hi16 hP => ?_) (fun σ' Hs12 hP => ?_)
    · obtain ⟨found_5, cell_6, o7, o8, he10, hg11, rfl, s12⟩ := hP
      refine z_if (b := is_wide_4) s12 (ht_B (K := K) (hv_vB rfl)) (fun hb18 Hs19 s19 => ?_) (fun hb18 Hs20 s20 => ?_)
      · have hb18P := hb18
        try simp only [decide_eq_true_eq, decide_eq_false_iff_not, Bool.not_eq_true', Bool.not_eq_false', Bool.and_eq_true, Bool.or_eq_true, Bool.or_eq_false_iff] at hb18P
        refine zq_appG s19 (kk := 0) rfl (ev_var rfl) (hv_mod (hv_intI (hv_vI rfl)) (hv_int 1009) (by first | omega | decide +kernel | (simp only [List.length_cons, List.length_nil]; omega))) (by first | omega | decide +kernel | (simp only [List.length_cons, List.length_nil]; omega)) fun found_22 hfound_22 Hs21 s21 => ?_
        have lfound_22 : found_22.length = found_5.length + 1 := by rw [hfound_22, List.length_append]; rfl
        have s21 : Sg K Mc _ _ _ [(ps1, .lst (List.map Datum.toD found_22))] := s21
        refine z_asgIG s21 (hv_div (hv_vI rfl) (hv_int 1009) (by exact ⟨by decide +kernel, by decide +kernel⟩)) fun cell_24 hcell_24 Hs23 s23 => ?_
        try dsimp only at hcell_24
        have hf25 : (m_law_draws_l0 is_wide_4) (found_5, cell_6) x14 = (found_22, cell_24) := (by subst hcell_24; subst hfound_22; subst his_wide_4; subst hfound_2; first | (simp only [m_law_draws_l0, hb18, if_true, if_false, Bool.false_eq_true, decide_true, decide_false, Option.getD_some, Option.isNone_none, Option.isNone_some, Bool.not_true, Bool.not_false, ↓reduceIte]; done) | (rfl; done) | (exfalso; simp at hb18; done))
        exact ⟨found_22, cell_24, _, _, he10.trans ((loopN_step hi16).trans (by rw [← hx15, hf25])), (by first | trivial | omega | (simp_all; done) | (simp_all; omega)), rfl, s23.keep fun _ h => True.intro⟩
      · have hb18P := hb18
        try simp only [decide_eq_true_eq, decide_eq_false_iff_not, Bool.not_eq_true', Bool.not_eq_false', Bool.and_eq_true, Bool.or_eq_true, Bool.or_eq_false_iff] at hb18P
        refine z_asgIG s20 (hv_mod (hv_intI (hv_add (hv_mul (hv_vI rfl) (hv_int 48271) (by first | exact Or.inr ⟨by omega, by omega⟩ | exact Or.inl ⟨by omega, by omega⟩)) (hv_mul (hv_vI rfl) (hv_int 69621) (by first | exact Or.inr ⟨by omega, by omega⟩ | exact Or.inl ⟨by omega, by omega⟩)))) (hv_int 2147483647) (by first | omega | decide +kernel | (simp only [List.length_cons, List.length_nil]; omega))) fun mixed_27 hmixed_27 Hs26 s26 => ?_
        try dsimp only at hmixed_27
        refine zq_appG s26 (kk := 0) rfl (ev_var rfl) (hv_mod (hv_intI (hv_add (hv_add (hv_mul (hv_vI rfl) (hv_vI rfl) (by first | exact Or.inr ⟨by omega, by omega⟩ | exact Or.inl ⟨by omega, by omega⟩)) (hv_mul (hv_vI rfl) (hv_int 31) (by first | exact Or.inr ⟨by omega, by omega⟩ | exact Or.inl ⟨by omega, by omega⟩))) (hv_vI rfl))) (hv_int 1000003) (by first | omega | decide +kernel | (simp only [List.length_cons, List.length_nil]; omega))) (by first | omega | decide +kernel | (simp only [List.length_cons, List.length_nil]; omega)) fun found_29 hfound_29 Hs28 s28 => ?_
        have lfound_29 : found_29.length = found_5.length + 1 := by rw [hfound_29, List.length_append]; rfl
        have s28 : Sg K Mc _ _ _ [(ps1, .lst (List.map Datum.toD found_29))] := s28
        have hf30 : (m_law_draws_l0 is_wide_4) (found_5, cell_6) x14 = (found_29, cell_6) := (by subst hfound_29; subst hmixed_27; subst his_wide_4; subst hfound_2; first | (simp only [m_law_draws_l0, hb18, if_true, if_false, Bool.false_eq_true, decide_true, decide_false, Option.getD_some, Option.isNone_none, Option.isNone_some, Bool.not_true, Bool.not_false, ↓reduceIte]; done) | (rfl; done) | (exfalso; simp at hb18; done))
        exact ⟨found_29, cell_6, _, _, he10.trans ((loopN_step hi16).trans (by rw [← hx15, hf30])), (by first | trivial | omega | (simp_all; done) | (simp_all; omega)), rfl, s28.keep fun _ h => True.intro⟩
    · obtain ⟨found_31, cell_32, o33, o34, he36, hg37, rfl, s35⟩ := hP
      rw [loopN_end] at he36
      have s38 := Sg.frz (xs := found_31) s35
      have hF39 : m_law_draws cell_ count_ = found_31 := (by subst his_wide_4; subst hfound_2; first | (simp only [m_law_draws, he36, if_true, if_false, Bool.false_eq_true, decide_true, decide_false, Option.getD_some, Option.isNone_none, Option.isNone_some, Bool.not_true, Bool.not_false, ↓reduceIte]; done) | (rfl; done))
      exact zq_ret s38 (hv_var (x := found_31) rfl s38.im.1) fun v H' e d => q v H' e (by rw [hF39]; exact d)

theorem draws_len (c n : Int) : (m_law_draws c n).length = n.toNat := by
  have key := loopN_keep (f := m_law_draws_l0 (decide ((1000000000000000000 : Int) ≤ c))) (fun s j => s.1.length = j) (fun s k j h => by
    unfold m_law_draws_l0
    dsimp only
    split <;> (rw [List.length_append, h]; rfl)) n.toNat 0 ([], c) 0 rfl
  simpa [m_law_draws] using key

def m_law_pattern_l0  (s_ : (List Int) × PySem.Str) (x_ : PySem.Str) : (List Int) × PySem.Str :=
  let given_ : (List Int) := s_.1
  let signs_ : PySem.Str := s_.2
  let sign_ : PySem.Str := x_
  if (inStr sign_ (PySem.Str.ofString "0123456789")) = true then
    let given_ : (List Int) := (List.set given_ (Int.toNat ((Str.length signs_ : Nat) : Int)) (Option.getD (PySem.intText? sign_) 0))
    (given_, signs_)
  else
    let signs_ : PySem.Str := (signs_ ++ sign_)
    let given_ : (List Int) := given_ ++ [(0 : Int)]
    (given_, signs_)
def m_law_pattern (text_ : PySem.Str) : (PySem.Str × (List Int)) :=
  let signs_ : PySem.Str := (PySem.Str.ofString "")
  let given_ : (List Int) := [(0 : Int)]
  let r0_ : (List Int) × PySem.Str := List.foldl m_law_pattern_l0 (given_, signs_) (chars text_)
  let given_ : (List Int) := r0_.1
  let signs_ : PySem.Str := r0_.2
  (signs_, given_)
abbrev s_law_pattern : Stmt := topS 10
theorem sc_law_pattern : FnScope ["text", "signs", "given", "sign"] ["text"] (defScope s_law_pattern) := ⟨rfl, rfl, rfl, by decide +kernel, rfl, by decide +kernel, by decide +kernel⟩
abbrev sp_law_pattern (K : PySem.W.Frag) : Sp := PrD K (fun c : PySem.Str => [Datum.toD c]) (fun c => c.length ≤ 60) (fun c => (m_law_pattern c : (PySem.Str × (List Int))))
theorem ok_law_pattern (T : Txt K mg) : FnOk P w K mg base CX0 1 T.f_law_pattern T.d_law_pattern ["text"] (sp_law_pattern K) := by
  refine T.u_law_pattern.ok sc_law_pattern (fun vs H Q E h => ?_) (fun cdv A outer s H vs Q E hr h => ?_)
  · obtain ⟨Mc, c, mok, da, pre, q⟩ := h
    exact (dpa_len da)
  · obtain ⟨Mc, c, mok, da, pre, q⟩ := h
    obtain ⟨text_, rfl⟩ : ∃ z, z = c := ⟨c, rfl⟩
    dsimp only at da pre q
    obtain ⟨v0, w0, rfl, d0, da0⟩ := dpa_inv da
    cases dpa_inv0 da0
    cases (Dt.str d0)
    have s0 : Sg K Mc H H [] [] := Sg.enter mok True.intro
    have hchl := chars_len text_
    refine ⟨_, (pss_cons (ps_set (i := 1) sc_law_pattern.nd rfl (.inl rfl) pe_str) (pss_cons (ps_set (i := 2) sc_law_pattern.nd rfl (.inl rfl) (pe_lst (pa_cons pe_int pa_nil))) (pss_cons (ps_for PassesOwn.never rfl (pi_str (pv 0)) (pg_name (i := 3) sc_law_pattern.nd rfl (.inl rfl)) (pss_cons (ps_if (pt_cmpR op_in_str (pv 3) pe_str (by rfl)) (pss_cons (ps_asg (pe_callTy call_int_str (by rfl) T.n_int (by decide +kernel) (pa_cons (pv 3) pa_nil)) (pg_sub (pv 2) (pe_callB call_len (by rfl) T.n_len (by decide +kernel) (pa_cons (pv 1) pa_nil)) set_list)) pss_nil) (pss_cons (ps_set (i := 1) sc_law_pattern.nd rfl (.inl rfl) (pe_op op_add_str (pv 1) (pv 3))) (pss_cons (ps_expr (pe_bm PySem.F.plainAttrs_list PySem.F.slot_list_append PySem.F.type_list_append mt_append (pv 2) (pa_cons pe_int pa_nil))) pss_nil))) pss_nil)) (pss_cons (ps_ret (pe_tup (pa_cons (pv 1) (pa_cons (pv 2) pa_nil)))) pss_nil)))), ?_⟩
    refine z_asgSG s0 (hv_str _) fun signs_2 hsigns_2 Hs1 s1 => ?_
    try dsimp only at hsigns_2
    refine z_freshG s1 (hf_lst (has_cons (hv_int 0) has_nil) (Nat.le_of_ble_eq_true rfl)) fun given_4 hgiven_4 ps3 Hs3 s3 => ?_
    try dsimp only at hgiven_4
    have lgiven_4 := congrArg List.length hgiven_4
    try simp only [List.length_map, irng_len, List.length_flatten, List.map_replicate, List.sum_replicate_nat, List.length_cons, List.length_nil] at lgiven_4
    refine zq_forS s3 (hv_vS rfl) (fun i σ' H' => ∃ (given_5 : (List Int)) (signs_6 : PySem.Str) (o7 : Option V), (List.foldl m_law_pattern_l0 (given_4, signs_2) (chars text_) : (List Int) × PySem.Str) = (List.foldl m_law_pattern_l0 (given_5, signs_6) (List.drop i (chars text_)) : (List Int) × PySem.Str) ∧ (given_5.length = signs_6.length + 1 ∧ signs_6.length ≤ (i)) ∧ σ' = [some (V.str text_), some (V.str signs_6), some (.ref ps3), o7] ∧ Sg K Mc H H' [] [(ps3, .lst (List.map Datum.toD given_5))]) (fun Hs8 s8 => ⟨given_4, signs_2, _, rfl, (by subst_vars; exact ⟨by rw [l_emp]; rfl, by rw [l_emp]; exact Nat.le_refl _⟩), rfl, s8.keep fun _ h => True.intro⟩) (fun i12 x13 σ' Hs11 hi15 hP => ?_) (fun σ' Hs11 hP => ?_)
    · obtain ⟨given_5, signs_6, o7, he9, hg10, rfl, s11⟩ := hP
      have ox13 := chars_one hi15
      have qx13 := (List.getElem?_eq_some_iff.mp hi15).1
      refine z_if (b := (inStr x13 (PySem.Str.ofString "0123456789"))) s11 (ht_val (K := K) (hv_inStr (hv_vS rfl) (hv_str _))) (fun hb17 Hs18 s18 => ?_) (fun hb17 Hs19 s19 => ?_)
      · have hb17P := hb17
        try simp only [decide_eq_true_eq, decide_eq_false_iff_not, Bool.not_eq_true', Bool.not_eq_false', Bool.and_eq_true, Bool.or_eq_true, Bool.or_eq_false_iff] at hb17P
        refine z_setG s18 (kk := 0) rfl (hv_intS (hv_vS rfl) (by exact int_sign ‹_› ‹_›) (by have := l_dot; have := l_emp; have := l_abcB; first | omega | (simp only [str_len_app, mulS_len, strAt_len]; omega))) (ev_var rfl) (hv_lenS (hv_vS rfl) (by have := l_dot; have := l_emp; have := l_abcB; first | omega | (simp only [str_len_app, mulS_len, strAt_len]; omega))) (by first | omega | decide +kernel | (simp only [List.length_cons, List.length_nil]; omega)) (by first | omega | decide +kernel | (simp only [List.length_cons, List.length_nil]; omega)) fun given_21 hgiven_21 Hs20 s20 => ?_
        try dsimp only at hgiven_21
        have lgiven_21 : given_21.length = given_5.length := by rw [hgiven_21, List.length_set]
        have s20 : Sg K Mc _ _ _ [(ps3, .lst (List.map Datum.toD given_21))] := s20
        have hf22 : m_law_pattern_l0 (given_5, signs_6) x13 = (given_21, signs_6) := (by subst hgiven_21; subst hgiven_4; subst hsigns_2; first | (simp only [m_law_pattern_l0, hb17, if_true, if_false, Bool.false_eq_true, decide_true, decide_false, Option.getD_some, Option.isNone_none, Option.isNone_some, Bool.not_true, Bool.not_false, ↓reduceIte]; done) | (rfl; done) | (exfalso; simp at hb17; done))
        exact ⟨given_21, signs_6, _, he9.trans ((foldl_step hi15).trans (by rw [hf22])), (by first | trivial | omega | (simp_all; done) | (simp_all; omega)), rfl, s20.keep fun _ h => True.intro⟩
      · have hb17P := hb17
        try simp only [decide_eq_true_eq, decide_eq_false_iff_not, Bool.not_eq_true', Bool.not_eq_false', Bool.and_eq_true, Bool.or_eq_true, Bool.or_eq_false_iff] at hb17P
        refine z_asgSG s19 (hv_addS (hv_vS rfl) (hv_vS rfl) (by have := l_dot; have := l_emp; have := l_abcB; first | omega | (simp only [str_len_app, mulS_len, strAt_len]; omega))) fun signs_24 hsigns_24 Hs23 s23 => ?_
        try dsimp only at hsigns_24
        have ltsigns_24 : signs_24.length = _ := (congrArg Str.length hsigns_24).trans (str_len_app _ _)
        try simp only [str_len_app, strAt_len] at ltsigns_24
        refine zq_appG s23 (kk := 0) rfl (ev_var rfl) (hv_int 0) (by first | omega | decide +kernel | (simp only [List.length_cons, List.length_nil]; omega)) fun given_26 hgiven_26 Hs25 s25 => ?_
        have lgiven_26 : given_26.length = given_5.length + 1 := by rw [hgiven_26, List.length_append]; rfl
        have s25 : Sg K Mc _ _ _ [(ps3, .lst (List.map Datum.toD given_26))] := s25
        have hf27 : m_law_pattern_l0 (given_5, signs_6) x13 = (given_26, signs_24) := (by subst hgiven_26; subst hsigns_24; subst hgiven_4; subst hsigns_2; first | (simp only [m_law_pattern_l0, hb17, if_true, if_false, Bool.false_eq_true, decide_true, decide_false, Option.getD_some, Option.isNone_none, Option.isNone_some, Bool.not_true, Bool.not_false, ↓reduceIte]; done) | (rfl; done) | (exfalso; simp at hb17; done))
        exact ⟨given_26, signs_24, _, he9.trans ((foldl_step hi15).trans (by rw [hf27])), (by first | trivial | omega | (simp_all; done) | (simp_all; omega)), rfl, s25.keep fun _ h => True.intro⟩
    · obtain ⟨given_28, signs_29, o30, he32, hg33, rfl, s31⟩ := hP
      rw [foldl_end] at he32
      have s34 := Sg.frz (xs := given_28) s31
      have hF35 : m_law_pattern text_ = (signs_29, given_28) := (by subst hgiven_4; subst hsigns_2; first | (simp only [m_law_pattern, he32, if_true, if_false, Bool.false_eq_true, decide_true, decide_false, Option.getD_some, Option.isNone_none, Option.isNone_some, Bool.not_true, Bool.not_false, ↓reduceIte]; done) | (rfl; done))
      exact zq_ret s34 (hv_tup2 (hv_vS rfl) (hv_var (x := given_28) rfl s34.im.1)) fun v H' e d => q v H' e (by rw [hF35]; exact d)
/-! the law's own pattern -/
theorem pat_run : ∀ (l : List PySem.Str) (s : List Int × PySem.Str), (∀ x ∈ l, x.length = 1) → s.1.length = s.2.length + 1 → List.foldl m_law_pattern_l0 s l = List.foldl m_split_pattern_l0 s l
  | [], s, _, h => rfl
  | x :: l, s, hx, h => by
    rw [List.foldl_cons, List.foldl_cons]
    have h1 := hx x List.mem_cons_self
    have e : m_law_pattern_l0 s x = m_split_pattern_l0 s x := by
      unfold m_law_pattern_l0 m_split_pattern_l0
      dsimp only
      rw [Int.toNat_natCast, show s.1.length - 1 = s.2.length by omega]
    rw [e]
    refine pat_run l _ (fun y hy => hx y (List.mem_cons_of_mem _ hy)) ?_
    exact (split_run [x] s (fun y hy => by rw [List.mem_singleton.mp hy]; exact h1) h).1
theorem pat_eq (t : PySem.Str) : m_law_pattern (Txt.lower t) = m_split_pattern t := by
  unfold m_law_pattern m_split_pattern
  dsimp only
  rw [pat_run (chars (Txt.lower t)) ([(0 : Int)], PySem.Str.ofString "") (fun x hx => chars_mem_one hx) (by rw [l_emp]; rfl)]
theorem pattern_len (t : PySem.Str) : (m_law_pattern t).2.length = (m_law_pattern t).1.length + 1 ∧ (m_law_pattern t).1.length ≤ t.length := by
  unfold m_law_pattern
  dsimp only
  rw [pat_run (chars t) ([(0 : Int)], PySem.Str.ofString "") (fun x hx => chars_mem_one hx) (by rw [l_emp]; rfl)]
  have k := split_run (chars t) ([(0 : Int)], PySem.Str.ofString "") (fun x hx => chars_mem_one hx) (by rw [l_emp]; rfl)
  refine ⟨k.1, Nat.le_trans k.2 ?_⟩
  rw [chars_len, l_emp, Nat.zero_add]
  exact Nat.le_refl _

def m_given_levels_l0 (marks_ : (List Int)) (characters_ : PySem.Str) (dotted_ : PySem.Str) (s_ : (List (Int × Int)) × Int) : (List (Int × Int)) × Int :=
  let found_ : (List (Int × Int)) := s_.1
  let start_ : Int := s_.2
  let found_ : (List (Int × Int)) := found_ ++ (List.map (fun (c_ : (Int × Int)) => ((start_ + c_.1), c_.2)) (enumL marks_))
  let start_ : Int := (Txt.find3 dotted_ characters_ (start_ + (1 : Int)))
  (found_, start_)
def m_given_levels (pattern_ : PySem.Str) (dotted_ : PySem.Str) : (List (Int × Int)) :=
  let p11_ : (PySem.Str × (List Int)) := (m_split_pattern pattern_)
  let characters_ : PySem.Str := p11_.1
  let marks_ : (List Int) := p11_.2
  let found_ : (List (Int × Int)) := []
  let start_ : Int := (Txt.find dotted_ characters_)
  let r0_ : (List (Int × Int)) × Int := loopW (fun (s_ : (List (Int × Int)) × Int) => (decide ((0 : Int) ≤ s_.2))) (m_given_levels_l0 marks_ characters_ dotted_) (dotted_.length + 3) (found_, start_)
  let found_ : (List (Int × Int)) := r0_.1
  let start_ : Int := r0_.2
  found_
abbrev s_given_levels : Stmt := topS 3
theorem sc_given_levels : FnScope ["pattern", "dotted", "characters", "marks", "found", "start", "index", "level"] ["pattern", "dotted"] (defScope s_given_levels) := ⟨rfl, rfl, rfl, by decide +kernel, rfl, by decide +kernel, by decide +kernel⟩
abbrev sp_given_levels (K : PySem.W.Frag) : Sp := PrD K (fun c : PySem.Str × PySem.Str => [Datum.toD c.1, Datum.toD c.2]) (fun c => c.1.length ≤ 20 ∧ c.2.length ≤ 200) (fun c => (m_given_levels c.1 c.2 : (List (Int × Int))))
theorem ok_given_levels (T : Txt K mg) : FnOk P w K mg base CX0 2 T.f_given_levels T.d_given_levels ["pattern", "dotted"] (sp_given_levels K) := by
  refine T.u_given_levels.ok sc_given_levels (fun vs H Q E h => ?_) (fun cdv A outer s H vs Q E hr h => ?_)
  · obtain ⟨Mc, c, mok, da, pre, q⟩ := h
    exact (dpa_len da)
  · obtain ⟨Mc, c, mok, da, pre, q⟩ := h
    obtain ⟨pattern_, dotted_⟩ := c
    dsimp only at da pre q
    obtain ⟨v0, w0, rfl, d0, da0⟩ := dpa_inv da
    obtain ⟨v1, w1, rfl, d1, da1⟩ := dpa_inv da0
    cases dpa_inv0 da1
    cases (Dt.str d0)
    cases (Dt.str d1)
    have s0 : Sg K Mc H H [] [] := Sg.enter mok True.intro
    refine ⟨_, (pss_cons (ps_asg (pe_call (ok_split_pattern T) hr (by rfl) T.g_split_pattern T.u_split_pattern.kp T.b_split_pattern .nil pass0 (pa_cons (pv 0) pa_nil)) (pg_tup rfl (pgs_cons (pg_name (i := 2) sc_given_levels.nd rfl (.inl rfl)) (pgs_cons (pg_name (i := 3) sc_given_levels.nd rfl (.inl rfl)) pgs_nil)))) (pss_cons (ps_set (i := 4) sc_given_levels.nd rfl (.inl rfl) (pe_lst pa_nil)) (pss_cons (ps_set (i := 5) sc_given_levels.nd rfl (.inr rfl) (pe_m1 PySem.F.slot_str_find PySem.F.type_str_find mt_find (pv 1) (pv 2))) (pss_cons (ps_while PassesOwn.never (pt_cmpR op_ge (pv 5) pe_int (nomark _)) (pss_cons (ps_expr (pe_bm PySem.F.plainAttrs_list PySem.F.slot_list_extend PySem.F.type_list_extend mt_extend (pv 4) (pa_cons (pe_lc (own := [("index", 6), ("level", 7)]) (g := gTup K 2 (gCons (gName 6) (gCons (gName 7) gNil))) rfl sc_given_levels.nd (pi_enum (by rfl) T.n_enumerate (pa_cons (pv 3) pa_nil)) (blkOk_by (own := [("index", 6), ("level", 7)]) (N := ["pattern", "dotted", "characters", "marks", "found", "start", "index", "level"]) (sc := defScope s_given_levels) (by decide +kernel)) (fun _ _ _ _ _ => (pg_tup rfl (pgs_cons (pg_name (i := 6) sc_given_levels.nd rfl (Or.inl rfl) (.inr (by rfl))) (pgs_cons (pg_name (i := 7) sc_given_levels.nd rfl (Or.inl rfl) (.inr (by rfl))) pgs_nil)))) (fun _ _ _ _ _ => pts_nil) (fun _ _ _ _ _ => (pe_tup (pa_cons (pe_op op_add (pv 5) (pv 6)) (pa_cons (pv 7) pa_nil))))) pa_nil))) (pss_cons (ps_set (i := 5) sc_given_levels.nd rfl (.inr rfl) (pe_bm PySem.F.plainAttrs_str PySem.F.slot_str_find PySem.F.type_str_find mt_find3 (pv 1) (pa_cons (pv 2) (pa_cons (pe_op op_add (pv 5) pe_int) pa_nil)))) pss_nil))) (pss_cons (ps_ret (pv 4)) pss_nil))))), ?_⟩
    refine z_unp2 s0 (hv_call pattern_ (hd_cons (hv_vS rfl) hd_nil) (by first | omega | (subst_vars; omega) | decide +kernel)) fun characters_2 marks_3 hp4 vcharacters_2 vmarks_3 Hs1 s1 => ?_
    try dsimp only at hp4
    have f5 := split_len pattern_
    rw [← hp4] at f5
    dsimp only at f5
    cases (Dt.str s1.im.1)
    refine z_nilG (Int × Int) s1 fun found_7 hfound_7 ps6 Hs6 s6 => ?_
    have lfound_7 : found_7.length = 0 := by rw [hfound_7]; rfl
    refine z_asgIG s6 (hv_find (hv_vS rfl) (hv_vS rfl)) fun start_9 hstart_9 Hs8 s8 => ?_
    try dsimp only at hstart_9
    have gstart_9 := PyProof.Rows.fact_find dotted_ characters_2
    refine zq_while (fun (s_ : (List (Int × Int)) × Int) => (decide ((0 : Int) ≤ s_.2))) (m_given_levels_l0 marks_3 characters_2 dotted_) (fun (s_ : (List (Int × Int)) × Int) => (if s_.2 < 0 then 0 else dotted_.length + 2 - s_.2.toNat)) (dotted_.length + 3) (found_7, start_9) (fun (s_ : (List (Int × Int)) × Int) σ' H' => ∃ (o10 : Option V) (o11 : Option V), (s_.2 ≤ (dotted_.length : Int) ∧ (s_.2 < 0 ∨ s_.1.length ≤ 61 * s_.2.toNat) ∧ s_.1.length ≤ 61 * (dotted_.length + 1)) ∧ σ' = [some (V.str pattern_), some (V.str dotted_), some (V.str characters_2), some vmarks_3, some (.ref ps6), some (V.int s_.2), o10, o11] ∧ Sg K Mc H H' [(vmarks_3, Datum.toD marks_3)] [(ps6, .lst (List.map Datum.toD s_.1))]) (by dsimp only; split <;> omega) ⟨_, _, (by dsimp only; omega), rfl, s8.keep fun _ h => ⟨h.2.1, True.intro⟩⟩ (fun st σ' H' hR12 => ?_) (fun st σ' H' Hs16 hR12 hb15 e2 hl => ?_)
    · obtain ⟨found_17, start_18⟩ := st
      obtain ⟨o19, o20, hg13, rfl, s14⟩ := hR12
      dsimp only at hg13 s14
      refine ⟨_, s14.mok, (ht_val (K := K) (hv_ge (hv_vI rfl) (hv_int 0))), fun hb15 Hs21 e2 => ?_⟩
      have s21 := s14.ex e2
      dsimp only at hb15
      have hb15P := hb15
      try simp only [decide_eq_true_eq, decide_eq_false_iff_not, Bool.not_eq_true', Bool.not_eq_false', Bool.and_eq_true, Bool.or_eq_true, Bool.or_eq_false_iff] at hb15P
      have hnx := next_find dotted_ characters_2 (s := start_18) (by omega)
      refine zq_extG s21 (kk := 0) rfl (ev_var rfl) (hf_lcE0 s21 (fun (c_ : (Int × Int)) => ((start_18 + c_.1), c_.2)) (hv_var (x := marks_3) rfl s21.im.1) (by first | omega | decide +kernel | (simp only [List.length_cons, List.length_nil]; omega)) (fun D25 src29 c26 w27 ys28 Hs24 s24 hx30 Q k => by obtain ⟨l36, u32, u33, w27e, st37, d34, d35⟩ := Dt.pair (p := c26) s24.im.1; have zd34 := Dt.int d34; subst zd34; have zd35 := Dt.int d35; subst zd35; subst w27e; exact ⟨_, _, rfl, ex_t msk_le st37, rfl, _, _, rfl, _, _, rfl, rfl, k _ rfl (hv_tup2 (hv_add (hv_vI rfl) (hv_vI rfl)) (hv_vI rfl))⟩)) (by rw [List.length_map, enumL_len]; omega) fun found_23 hfound_23 Hs22 s22 => ?_
      try dsimp only at hfound_23
      have lfound_23 := congrArg List.length hfound_23
      try simp only [List.length_append, List.length_map, enumL_len, irng_len] at lfound_23
      have s22 : Sg K Mc _ _ _ [(ps6, .lst (List.map Datum.toD found_23))] := s22
      refine z_asgIG s22 (hv_find3 (hv_vS rfl) (hv_vS rfl) (hv_add (hv_vI rfl) (hv_int 1))) fun start_39 hstart_39 Hs38 s38 => ?_
      try dsimp only at hstart_39
      have hf40 : (m_given_levels_l0 marks_3 characters_2 dotted_) (found_17, start_18) = (found_23, start_39) := (by subst hstart_39; subst hfound_23; subst hstart_9; subst hfound_7; first | (simp only [m_given_levels_l0, ← hp4, hb15, if_true, if_false, Bool.false_eq_true, decide_true, decide_false, Option.getD_some, Option.isNone_none, Option.isNone_some, Bool.not_true, Bool.not_false, ↓reduceIte]; done) | (rfl; done) | (exfalso; simp at hb15; done))
      exact ⟨(found_23, start_39), hf40.symm, (by dsimp only; split <;> split <;> omega), _, _, (by dsimp only; omega), rfl, s38.keep fun _ h => ⟨h.1, True.intro⟩⟩
    · obtain ⟨found_41, start_42⟩ := st
      obtain ⟨o43, o44, hg46, rfl, s47⟩ := hR12
      dsimp only at hg46 s47 hb15
      have s16 := s47.ex e2
      have he45 := hl
      have hb15P := hb15
      try simp only [decide_eq_true_eq, decide_eq_false_iff_not, Bool.not_eq_true', Bool.not_eq_false', Bool.and_eq_true, Bool.or_eq_true, Bool.or_eq_false_iff] at hb15P
      have s48 := Sg.frz (xs := found_41) s16
      have hF49 : m_given_levels pattern_ dotted_ = found_41 := (by subst hstart_9; subst hfound_7; first | (simp only [m_given_levels, ← hp4, he45, if_true, if_false, Bool.false_eq_true, decide_true, decide_false, Option.getD_some, Option.isNone_none, Option.isNone_some, Bool.not_true, Bool.not_false, ↓reduceIte]; done) | (rfl; done))
      exact zq_ret s48 (hv_var (x := found_41) rfl s48.im.1) fun v H' e d => q v H' e (by rw [hF49]; exact d)
/-! given_levels -/
def blkOf (m : List Int) (k : Nat) : List (Int × Int) := List.map (fun (c_ : (Int × Int)) => (((k : Int) + c_.1), c_.2)) (enumL m)
theorem given_eq (p d : PySem.Str) : m_given_levels p d = gl (occ d (m_split_pattern p).1) (blkOf (m_split_pattern p).2) 0 (d.length + 1) := by
  unfold m_given_levels
  dsimp only
  rw [find_zero]
  exact loopW_occ (blk := blkOf (m_split_pattern p).2) (fun l k => rfl) (d.length + 3) 0 [] (by omega) (by omega)
theorem given_from (p d : PySem.Str) {x : Int × Int} (h : x ∈ m_given_levels p d) : 0 ≤ x.1 ∧ x.1 ≤ (d.length : Int) ∧ x.2 ∈ (m_split_pattern p).2 := by
  rw [given_eq] at h
  obtain ⟨k, _, _, ho, hk⟩ := gl_mem _ _ h
  have hat := ((occ_iff _ _ _).mp ho).1
  have hl := (split_len p).1
  obtain ⟨c, hc, rfl⟩ := List.mem_map.mp hk
  have hm := enumL_mem hc
  refine ⟨?_, ?_, hm.2.2⟩
  · show 0 ≤ (k : Int) + c.1
    omega
  · show (k : Int) + c.1 ≤ _
    omega
theorem given_in (p d : PySem.Str) : ∀ x ∈ m_given_levels p d, 0 ≤ x.1 ∧ x.1 ≤ (d.length : Int) := fun x h => ⟨(given_from p d h).1, (given_from p d h).2.1⟩

def m_law_word (cell_ : Int) (size_ : Int) : PySem.Str :=
  let draws_ : (List Int) := (m_law_draws cell_ (25 : Int))
  if (decide (((draws_.getD (Int.toNat (24 : Int)) 0) % (4 : Int)) = (0 : Int))) = true then
    (mulS (strAt (PySem.Str.ofString "abcB") (Int.toNat ((draws_.getD (Int.toNat (0 : Int)) 0) % (4 : Int)))) size_)
  else
    (Txt.join (PySem.Str.ofString "") (List.map (fun (c_ : Int) => (strAt (PySem.Str.ofString "abcB") (Int.toNat ((draws_.getD (Int.toNat c_) 0) % (4 : Int))))) (irng (0 : Int) (Int.toNat size_))))
abbrev s_law_word : Stmt := topS 8
theorem sc_law_word : FnScope ["cell", "size", "draws", "k"] ["cell", "size"] (defScope s_law_word) := ⟨rfl, rfl, rfl, by decide +kernel, rfl, by decide +kernel, by decide +kernel⟩
abbrev sp_law_word (K : PySem.W.Frag) : Sp := PrD K (fun c : Int × Int => [Datum.toD c.1, Datum.toD c.2]) (fun c => 1 ≤ c.2 ∧ c.2 ≤ 24) (fun c => (m_law_word c.1 c.2 : PySem.Str))
theorem ok_law_word (T : Txt K mg) : FnOk P w K mg base CX0 2 T.f_law_word T.d_law_word ["cell", "size"] (sp_law_word K) := by
  refine T.u_law_word.ok sc_law_word (fun vs H Q E h => ?_) (fun cdv A outer s H vs Q E hr h => ?_)
  · obtain ⟨Mc, c, mok, da, pre, q⟩ := h
    exact (dpa_len da)
  · obtain ⟨Mc, c, mok, da, pre, q⟩ := h
    obtain ⟨cell_, size_⟩ := c
    dsimp only at da pre q
    obtain ⟨v0, w0, rfl, d0, da0⟩ := dpa_inv da
    obtain ⟨v1, w1, rfl, d1, da1⟩ := dpa_inv da0
    cases dpa_inv0 da1
    cases (Dt.int d0)
    cases (Dt.int d1)
    have s0 : Sg K Mc H H [] [] := Sg.enter mok True.intro
    refine ⟨_, (pss_cons (ps_set (i := 2) sc_law_word.nd rfl (.inr rfl) (pe_call (ok_law_draws T) hr (by rfl) T.g_law_draws T.u_law_draws.kp T.b_law_draws .nil pass0 (pa_cons (pv 0) (pa_cons pe_int pa_nil)))) (pss_cons (ps_if (pt_cmpR op_eq (pe_op op_mod (pe_callTy call_int1 (by rfl) T.n_int (by decide +kernel) (pa_cons (pe_ix ix_list (pv 2) pe_int (fun _ _ => rfl)) pa_nil)) pe_int) pe_int (nomark _)) (pss_cons (ps_ret (pe_op op_mulS (pe_ix ix_str pe_str (pe_op op_mod (pe_callTy call_int1 (by rfl) T.n_int (by decide +kernel) (pa_cons (pe_ix ix_list (pv 2) pe_int (fun _ _ => rfl)) pa_nil)) pe_int) (fun _ _ => rfl)) (pv 1))) pss_nil) pss_nil) (pss_cons (ps_ret (pe_join pe_str (pe_lc (own := [("k", 3)]) (g := gName 3) rfl sc_law_word.nd (pi_range1 (by rfl) T.n_range (pa_cons (pv 1) pa_nil)) (blkOk_by (own := [("k", 3)]) (N := ["cell", "size", "draws", "k"]) (sc := defScope s_law_word) (by decide +kernel)) (fun _ _ _ _ _ => (pg_name (i := 3) sc_law_word.nd rfl (Or.inl rfl) (.inr (by rfl)))) (fun _ _ _ _ _ => pts_nil) (fun _ _ _ _ _ => (pe_ix ix_str pe_str (pe_op op_mod (pe_callTy call_int1 (by rfl) T.n_int (by decide +kernel) (pa_cons (pe_ix (show IxR _ (rIxL K) from ix_list) (pv 2) (pv 3) (fun _ _ => rfl)) pa_nil)) pe_int) (fun _ _ => rfl)))))) pss_nil))), ?_⟩
    refine z_asgG s0 (hv_call (cell_, (25 : Int)) (hd_cons (hv_vI rfl) (hd_cons (hv_int 25) hd_nil)) (by first | omega | (subst_vars; omega) | decide +kernel)) fun draws_2 hdraws_2 vdraws_2 Hs1 s1 => ?_
    try dsimp only at hdraws_2
    have f3 := draws_len cell_ (25 : Int)
    rw [← hdraws_2] at f3
    refine z_ifx (b := (decide (((draws_2.getD (Int.toNat (24 : Int)) 0) % (4 : Int)) = (0 : Int)))) s1 (ht_val (K := K) (hv_eqI (hv_mod (hv_intI (hv_at 0 (hs_of (hv_var (x := draws_2) rfl s1.im.1)) (hv_int 24) (by first | omega | decide +kernel | (simp only [List.length_cons, List.length_nil]; omega)) (by first | omega | decide +kernel | (simp only [List.length_cons, List.length_nil]; omega)))) (hv_int 4) (by first | omega | decide +kernel | (simp only [List.length_cons, List.length_nil]; omega))) (hv_int 0))) (fun hb4 Hs5 s5 => ?_) (fun hb4 Hs6 s6 => ?_)
    · have hb4P := hb4
      try simp only [decide_eq_true_eq, decide_eq_false_iff_not, Bool.not_eq_true', Bool.not_eq_false', Bool.and_eq_true, Bool.or_eq_true, Bool.or_eq_false_iff] at hb4P
      have hF7 : m_law_word cell_ size_ = (mulS (strAt (PySem.Str.ofString "abcB") (Int.toNat ((draws_2.getD (Int.toNat (0 : Int)) 0) % (4 : Int)))) size_) := (by subst hdraws_2; first | (simp only [m_law_word, hb4, if_true, if_false, Bool.false_eq_true, decide_true, decide_false, Option.getD_some, Option.isNone_none, Option.isNone_some, Bool.not_true, Bool.not_false, ↓reduceIte]; done) | (rfl; done) | (exfalso; simp at hb4; done))
      exact zq_ret s5 (hv_mulS (hv_ixStr (hv_str _) (hv_mod (hv_intI (hv_at 0 (hs_of (hv_var (x := draws_2) rfl s5.im.1)) (hv_int 0) (by first | omega | decide +kernel | (simp only [List.length_cons, List.length_nil]; omega)) (by first | omega | decide +kernel | (simp only [List.length_cons, List.length_nil]; omega)))) (hv_int 4) (by first | omega | decide +kernel | (simp only [List.length_cons, List.length_nil]; omega))) (by have := l_dot; have := l_emp; have := l_abcB; first | omega | (simp only [str_len_app, mulS_len, strAt_len]; omega)) (by first | omega | decide +kernel | (simp only [List.length_cons, List.length_nil]; omega)) (by have := l_dot; have := l_emp; have := l_abcB; first | omega | (simp only [str_len_app, mulS_len, strAt_len]; omega))) (hv_vI rfl) (by first | omega | decide +kernel | (simp only [List.length_cons, List.length_nil]; omega)) (by have := l_dot; have := l_emp; have := l_abcB; first | omega | (simp only [str_len_app, mulS_len, strAt_len]; omega)) (by first | omega | decide +kernel | (simp only [List.length_cons, List.length_nil]; omega))) fun v H' e d => q v H' e (by rw [hF7]; exact d)
    · have hb4P := hb4
      try simp only [decide_eq_true_eq, decide_eq_false_iff_not, Bool.not_eq_true', Bool.not_eq_false', Bool.and_eq_true, Bool.or_eq_true, Bool.or_eq_false_iff] at hb4P
      have hF8 : m_law_word cell_ size_ = (Txt.join (PySem.Str.ofString "") (List.map (fun (c_ : Int) => (strAt (PySem.Str.ofString "abcB") (Int.toNat ((draws_2.getD (Int.toNat c_) 0) % (4 : Int))))) (irng (0 : Int) (Int.toNat size_)))) := (by subst hdraws_2; first | (simp only [m_law_word, hb4, if_true, if_false, Bool.false_eq_true, decide_true, decide_false, Option.getD_some, Option.isNone_none, Option.isNone_some, Bool.not_true, Bool.not_false, ↓reduceIte]; done) | (rfl; done) | (exfalso; simp at hb4; done))
      exact zq_ret s6 (hv_join (hv_str _) (hs_of (hv_lcR0 s6 (fun (c_ : Int) => (strAt (PySem.Str.ofString "abcB") (Int.toNat ((draws_2.getD (Int.toNat c_) 0) % (4 : Int))))) (hv_vI rfl) (by first | omega | decide +kernel | (simp only [List.length_cons, List.length_nil]; omega)) (fun D10 c11 ys13 Hs9 s9 hx15 Q k => by exact k _ rfl (hv_ixStr (hv_str _) (hv_mod (hv_intI (hv_at 0 (hs_of (hv_var (x := draws_2) rfl s9.im.1)) (hv_vI rfl) (by first | omega | decide +kernel | (simp only [List.length_cons, List.length_nil]; omega)) (by first | omega | decide +kernel | (simp only [List.length_cons, List.length_nil]; omega)))) (hv_int 4) (by first | omega | decide +kernel | (simp only [List.length_cons, List.length_nil]; omega))) (by have := l_dot; have := l_emp; have := l_abcB; first | omega | (simp only [str_len_app, mulS_len, strAt_len]; omega)) (by first | omega | decide +kernel | (simp only [List.length_cons, List.length_nil]; omega)) (by have := l_dot; have := l_emp; have := l_abcB; first | omega | (simp only [str_len_app, mulS_len, strAt_len]; omega)))))) (by refine Nat.le_trans (Nat.add_le_add_right (sum_le _ 1 (fun x => Nat.le_of_eq (strAt_len _ _)) _) _) ?_; simp only [List.length_map, irng_len, l_emp]; omega)) fun v H' e d => q v H' e (by rw [hF8]; exact d)
theorem cps_abcB : cps (PySem.Str.ofString "abcB") = [97, 98, 99, 66] := by decide +kernel
/-- made of the letters a, b, c, B -/
def Abc (s : PySem.Str) : Prop := ∀ c ∈ cps s, c = 97 ∨ c = 98 ∨ c = 99 ∨ c = 66
theorem abc_at {i : Int} : Abc (strAt (PySem.Str.ofString "abcB") (Int.toNat (i % 4))) := by
  intro c hc
  have h1 : c = (cps (PySem.Str.ofString "abcB")).getD (Int.toNat (i % 4)) 0 := by simpa [Ly.strAt, cps] using hc
  rw [cps_abcB] at h1
  have h2 : Int.toNat (i % 4) = 0 ∨ Int.toNat (i % 4) = 1 ∨ Int.toNat (i % 4) = 2 ∨ Int.toNat (i % 4) = 3 := by omega
  rcases h2 with h2 | h2 | h2 | h2 <;> (rw [h2] at h1; simp at h1; omega)
theorem cps_mul (a : PySem.Str) (n : Int) : cps (mulS a n) = (List.replicate n.toNat (cps a)).flatten := by
  simp [mulS, cps]
theorem join_cons (x : PySem.Str) (xs : List PySem.Str) : Txt.join (PySem.Str.ofString "") (x :: xs) = x ++ Txt.join (PySem.Str.ofString "") xs := by
  have e : PySem.Str.ofString "" = PySem.Str.empty := by decide +kernel
  rw [TL.join_eq, TL.join_eq, e]
  cases xs with
  | nil => exact (PySem.Str.append_empty x).symm
  | cons y r =>
    show x ++ PySem.Str.empty ++ PySem.Str.join PySem.Str.empty (y :: r) = _
    rw [PySem.Str.append_empty]
theorem join_abc : ∀ (xs : List PySem.Str), (∀ x ∈ xs, Abc x ∧ x.length = 1) → Abc (Txt.join (PySem.Str.ofString "") xs) ∧ (Txt.join (PySem.Str.ofString "") xs).length = xs.length
  | [], _ => by
    have e : Txt.join (PySem.Str.ofString "") [] = PySem.Str.ofString "" := by rfl
    rw [e]
    refine ⟨fun c hc => ?_, l_emp⟩
    have : cps (PySem.Str.ofString "") = [] := by decide +kernel
    rw [this] at hc; cases hc
  | x :: xs, h => by
    have ih := join_abc xs fun y hy => h y (List.mem_cons_of_mem _ hy)
    have hx := h x List.mem_cons_self
    rw [join_cons]
    refine ⟨fun c hc => ?_, by rw [str_len_app, hx.2, ih.2, List.length_cons]; omega⟩
    rw [cps_app, List.mem_append] at hc
    exact hc.elim (hx.1 c) (ih.1 c)
theorem word_ok (c n : Int) (h : 1 ≤ n ∧ n ≤ 24) : Abc (m_law_word c n) ∧ (m_law_word c n).length = n.toNat := by
  unfold m_law_word
  dsimp only
  split
  · refine ⟨fun x hx => ?_, by rw [mulS_len, strAt_len]; omega⟩
    rw [cps_mul] at hx
    obtain ⟨l, hl, hxl⟩ := List.mem_flatten.mp hx
    rw [List.mem_replicate] at hl
    rw [hl.2] at hxl
    exact abc_at x hxl
  · have k := join_abc (List.map (fun (c_ : Int) => (strAt (PySem.Str.ofString "abcB") (Int.toNat (((m_law_draws c (25 : Int)).getD (Int.toNat c_) 0) % (4 : Int))))) (irng (0 : Int) (Int.toNat n))) (fun x hx => by
      obtain ⟨y, _, rfl⟩ := List.mem_map.mp hx
      exact ⟨abc_at, strAt_len _ _⟩)
    refine ⟨k.1, k.2.trans ?_⟩
    rw [List.length_map, irng_len]
theorem word_len (c n : Int) (h : 1 ≤ n ∧ n ≤ 24) : (m_law_word c n).length ≤ 24 := by
  rw [(word_ok c n h).2]; omega

def m_law_entry_l0 (draws_ : (List Int)) (s_ : PySem.Str) (x_ : Int) : PySem.Str :=
  let text_ : PySem.Str := s_
  let k_ : Int := x_
  let text_ : PySem.Str := ((text_ ++ ([(PySem.Str.ofString ""), (PySem.Str.ofString "1"), (PySem.Str.ofString "2"), (PySem.Str.ofString "3"), (PySem.Str.ofString "14"), (PySem.Str.ofString "9"), (PySem.Str.ofString "0")].getD (Int.toNat ((draws_.getD (Int.toNat ((4 : Int) + k_)) 0) % (7 : Int))) (PySem.Str.ofString ""))) ++ (strAt (PySem.Str.ofString "abcB") (Int.toNat ((draws_.getD (Int.toNat ((8 : Int) + k_)) 0) % (4 : Int)))))
  text_
def m_law_entry (cell_ : Int) : PySem.Str :=
  let draws_ : (List Int) := (m_law_draws cell_ (14 : Int))
  if (decide (((draws_.getD (Int.toNat (0 : Int)) 0) % (5 : Int)) = (4 : Int))) = true then
    ([(PySem.Str.ofString "abc"), (PySem.Str.ofString "ab-ca"), (PySem.Str.ofString "a")].getD (Int.toNat ((draws_.getD (Int.toNat (1 : Int)) 0) % (3 : Int))) (PySem.Str.ofString ""))
  else
    let text_ : PySem.Str := (if (decide (((draws_.getD (Int.toNat (1 : Int)) 0) % (3 : Int)) = (0 : Int))) = true then ([(PySem.Str.ofString ""), (PySem.Str.ofString "."), (PySem.Str.ofString "3."), (PySem.Str.ofString ".4")].getD (Int.toNat ((draws_.getD (Int.toNat (2 : Int)) 0) % (4 : Int))) (PySem.Str.ofString "")) else (PySem.Str.ofString ""))
    let r0_ : PySem.Str := loopN (m_law_entry_l0 draws_) (Int.toNat ((1 : Int) + ((draws_.getD (Int.toNat (3 : Int)) 0) % (4 : Int)))) (0 : Int) text_
    let text_ : PySem.Str := r0_
    (text_ ++ ([(PySem.Str.ofString "1"), (PySem.Str.ofString "."), (PySem.Str.ofString "5.")].getD (Int.toNat ((draws_.getD (Int.toNat (12 : Int)) 0) % (3 : Int))) (PySem.Str.ofString "")))
abbrev s_law_entry : Stmt := topS 9
theorem sc_law_entry : FnScope ["cell", "draws", "text", "k"] ["cell"] (defScope s_law_entry) := ⟨rfl, rfl, rfl, by decide +kernel, rfl, by decide +kernel, by decide +kernel⟩
abbrev sp_law_entry (K : PySem.W.Frag) : Sp := PrD K (fun c : Int => [Datum.toD c]) (fun c => True) (fun c => (m_law_entry c : PySem.Str))
theorem ok_law_entry (T : Txt K mg) : FnOk P w K mg base CX0 2 T.f_law_entry T.d_law_entry ["cell"] (sp_law_entry K) := by
  refine T.u_law_entry.ok sc_law_entry (fun vs H Q E h => ?_) (fun cdv A outer s H vs Q E hr h => ?_)
  · obtain ⟨Mc, c, mok, da, pre, q⟩ := h
    exact (dpa_len da)
  · obtain ⟨Mc, c, mok, da, pre, q⟩ := h
    obtain ⟨cell_, rfl⟩ : ∃ z, z = c := ⟨c, rfl⟩
    dsimp only at da pre q
    obtain ⟨v0, w0, rfl, d0, da0⟩ := dpa_inv da
    cases dpa_inv0 da0
    cases (Dt.int d0)
    have s0 : Sg K Mc H H [] [] := Sg.enter mok True.intro
    refine ⟨_, (pss_cons (ps_set (i := 1) sc_law_entry.nd rfl (.inl rfl) (pe_call (ok_law_draws T) hr (by rfl) T.g_law_draws T.u_law_draws.kp T.b_law_draws .nil pass0 (pa_cons (pv 0) (pa_cons pe_int pa_nil)))) (pss_cons (ps_if (pt_cmpR op_eq (pe_op op_mod (pe_callTy call_int1 (by rfl) T.n_int (by decide +kernel) (pa_cons (pe_ix ix_list (pv 1) pe_int (fun _ _ => rfl)) pa_nil)) pe_int) pe_int (nomark _)) (pss_cons (ps_ret (pe_ix ix_list (pe_lst (pa_cons pe_str (pa_cons pe_str (pa_cons pe_str pa_nil)))) (pe_op op_mod (pe_callTy call_int1 (by rfl) T.n_int (by decide +kernel) (pa_cons (pe_ix ix_list (pv 1) pe_int (fun _ _ => rfl)) pa_nil)) pe_int) (fun _ _ => rfl))) pss_nil) pss_nil) (pss_cons (ps_set (i := 2) sc_law_entry.nd rfl (.inl rfl) (pe_ifExp (pt_cmpR op_eq (pe_op op_mod (pe_callTy call_int1 (by rfl) T.n_int (by decide +kernel) (pa_cons (pe_ix ix_list (pv 1) pe_int (fun _ _ => rfl)) pa_nil)) pe_int) pe_int (nomark _)) (pe_ix ix_list (pe_lst (pa_cons pe_str (pa_cons pe_str (pa_cons pe_str (pa_cons pe_str pa_nil))))) (pe_op op_mod (pe_callTy call_int1 (by rfl) T.n_int (by decide +kernel) (pa_cons (pe_ix ix_list (pv 1) pe_int (fun _ _ => rfl)) pa_nil)) pe_int) (fun _ _ => rfl)) pe_str)) (pss_cons (ps_for PassesOwn.never rfl (pi_range1 (by rfl) T.n_range (pa_cons (pe_op op_add pe_int (pe_op op_mod (pe_callTy call_int1 (by rfl) T.n_int (by decide +kernel) (pa_cons (pe_ix ix_list (pv 1) pe_int (fun _ _ => rfl)) pa_nil)) pe_int)) pa_nil)) (pg_name (i := 3) sc_law_entry.nd rfl (.inl rfl)) (pss_cons (ps_set (i := 2) sc_law_entry.nd rfl (.inl rfl) (pe_op op_add_str (pe_op op_add_str (pv 2) (pe_ix ix_list (pe_lst (pa_cons pe_str (pa_cons pe_str (pa_cons pe_str (pa_cons pe_str (pa_cons pe_str (pa_cons pe_str (pa_cons pe_str pa_nil)))))))) (pe_op op_mod (pe_callTy call_int1 (by rfl) T.n_int (by decide +kernel) (pa_cons (pe_ix ix_list (pv 1) (pe_op op_add pe_int (pv 3)) (fun _ _ => rfl)) pa_nil)) pe_int) (fun _ _ => rfl))) (pe_ix ix_str pe_str (pe_op op_mod (pe_callTy call_int1 (by rfl) T.n_int (by decide +kernel) (pa_cons (pe_ix ix_list (pv 1) (pe_op op_add pe_int (pv 3)) (fun _ _ => rfl)) pa_nil)) pe_int) (fun _ _ => rfl)))) pss_nil)) (pss_cons (ps_ret (pe_op op_add_str (pv 2) (pe_ix ix_list (pe_lst (pa_cons pe_str (pa_cons pe_str (pa_cons pe_str pa_nil)))) (pe_op op_mod (pe_callTy call_int1 (by rfl) T.n_int (by decide +kernel) (pa_cons (pe_ix ix_list (pv 1) pe_int (fun _ _ => rfl)) pa_nil)) pe_int) (fun _ _ => rfl)))) pss_nil))))), ?_⟩
    refine z_asgG s0 (hv_call (cell_, (14 : Int)) (hd_cons (hv_vI rfl) (hd_cons (hv_int 14) hd_nil)) (by first | omega | (subst_vars; omega) | decide +kernel)) fun draws_2 hdraws_2 vdraws_2 Hs1 s1 => ?_
    try dsimp only at hdraws_2
    have f3 := draws_len cell_ (14 : Int)
    rw [← hdraws_2] at f3
    refine z_ifx (b := (decide (((draws_2.getD (Int.toNat (0 : Int)) 0) % (5 : Int)) = (4 : Int)))) s1 (ht_val (K := K) (hv_eqI (hv_mod (hv_intI (hv_at 0 (hs_of (hv_var (x := draws_2) rfl s1.im.1)) (hv_int 0) (by first | omega | decide +kernel | (simp only [List.length_cons, List.length_nil]; omega)) (by first | omega | decide +kernel | (simp only [List.length_cons, List.length_nil]; omega)))) (hv_int 5) (by first | omega | decide +kernel | (simp only [List.length_cons, List.length_nil]; omega))) (hv_int 4))) (fun hb4 Hs5 s5 => ?_) (fun hb4 Hs6 s6 => ?_)
    · have hb4P := hb4
      try simp only [decide_eq_true_eq, decide_eq_false_iff_not, Bool.not_eq_true', Bool.not_eq_false', Bool.and_eq_true, Bool.or_eq_true, Bool.or_eq_false_iff] at hb4P
      have hF7 : m_law_entry cell_ = ([(PySem.Str.ofString "abc"), (PySem.Str.ofString "ab-ca"), (PySem.Str.ofString "a")].getD (Int.toNat ((draws_2.getD (Int.toNat (1 : Int)) 0) % (3 : Int))) (PySem.Str.ofString "")) := (by subst hdraws_2; first | (simp only [m_law_entry, hb4, if_true, if_false, Bool.false_eq_true, decide_true, decide_false, Option.getD_some, Option.isNone_none, Option.isNone_some, Bool.not_true, Bool.not_false, ↓reduceIte]; done) | (rfl; done) | (exfalso; simp at hb4; done))
      exact zq_ret s5 (hv_at (PySem.Str.ofString "") (hs_of (hv_lst (has_cons (hv_str _) (has_cons (hv_str _) (has_cons (hv_str _) has_nil))) (Nat.le_of_ble_eq_true rfl))) (hv_mod (hv_intI (hv_at 0 (hs_of (hv_var (x := draws_2) rfl s5.im.1)) (hv_int 1) (by first | omega | decide +kernel | (simp only [List.length_cons, List.length_nil]; omega)) (by first | omega | decide +kernel | (simp only [List.length_cons, List.length_nil]; omega)))) (hv_int 3) (by first | omega | decide +kernel | (simp only [List.length_cons, List.length_nil]; omega))) (by first | omega | decide +kernel | (simp only [List.length_cons, List.length_nil]; omega)) (by first | omega | decide +kernel | (simp only [List.length_cons, List.length_nil]; omega))) fun v H' e d => q v H' e (by rw [hF7]; exact d)
    · have hb4P := hb4
      try simp only [decide_eq_true_eq, decide_eq_false_iff_not, Bool.not_eq_true', Bool.not_eq_false', Bool.and_eq_true, Bool.or_eq_true, Bool.or_eq_false_iff] at hb4P
      refine z_asgSG s6 (hv_ite (ht_val (K := K) (hv_eqI (hv_mod (hv_intI (hv_at 0 (hs_of (hv_var (x := draws_2) rfl s6.im.1)) (hv_int 1) (by first | omega | decide +kernel | (simp only [List.length_cons, List.length_nil]; omega)) (by first | omega | decide +kernel | (simp only [List.length_cons, List.length_nil]; omega)))) (hv_int 3) (by first | omega | decide +kernel | (simp only [List.length_cons, List.length_nil]; omega))) (hv_int 0))) (fun hi1 => (hv_at (PySem.Str.ofString "") (hs_of (hv_lst (has_cons (hv_str _) (has_cons (hv_str _) (has_cons (hv_str _) (has_cons (hv_str _) has_nil)))) (Nat.le_of_ble_eq_true rfl))) (hv_mod (hv_intI (hv_at 0 (hs_of (hv_var (x := draws_2) rfl s6.im.1)) (hv_int 2) (by first | omega | decide +kernel | (simp only [List.length_cons, List.length_nil]; omega)) (by first | omega | decide +kernel | (simp only [List.length_cons, List.length_nil]; omega)))) (hv_int 4) (by first | omega | decide +kernel | (simp only [List.length_cons, List.length_nil]; omega))) (by first | omega | decide +kernel | (simp only [List.length_cons, List.length_nil]; omega)) (by first | omega | decide +kernel | (simp only [List.length_cons, List.length_nil]; omega)))) (fun hi2 => (hv_str _))) fun text_9 htext_9 Hs8 s8 => ?_
      try dsimp only at htext_9
      have ltext_9 : text_9.length ≤ 2 := by rw [htext_9]; split; exact g_pre _; decide +kernel
      refine zq_forR1G s8 (hv_add (hv_int 1) (hv_mod (hv_intI (hv_at 0 (hs_of (hv_var (x := draws_2) rfl s8.im.1)) (hv_int 3) (by first | omega | decide +kernel | (simp only [List.length_cons, List.length_nil]; omega)) (by first | omega | decide +kernel | (simp only [List.length_cons, List.length_nil]; omega)))) (hv_int 4) (by first | omega | decide +kernel | (simp only [List.length_cons, List.length_nil]; omega)))) (by first | omega | decide +kernel | (simp only [List.length_cons, List.length_nil]; omega)) (fun i σ' H' => ∃ (text_10 : PySem.Str) (o11 : Option V), (loopN (m_law_entry_l0 draws_2) (Int.toNat ((1 : Int) + ((draws_2.getD (Int.toNat (3 : Int)) 0) % (4 : Int)))) (0 : Int) text_9 : PySem.Str) = (loopN (m_law_entry_l0 draws_2) ((Int.toNat ((1 : Int) + ((draws_2.getD (Int.toNat (3 : Int)) 0) % (4 : Int)))) - i) ((0 : Int) + (i : Int)) text_10 : PySem.Str) ∧ (text_10.length ≤ 2 + 3 * (i)) ∧ σ' = [some (V.int cell_), some vdraws_2, some (V.str text_10), o11] ∧ Sg K Mc H H' [(vdraws_2, Datum.toD draws_2)] []) (fun Hs12 s12 => ⟨text_9, _, (by simp), (by first | trivial | omega | (simp; done) | simp_all), rfl, s12.keep fun _ h => ⟨h.1, True.intro⟩⟩) (fun i16 x17 σ' Hs15 hx18 hi19 hP => ?_) (fun σ' Hs15 hP => ?_)
      · obtain ⟨text_10, o11, he13, hg14, rfl, s15⟩ := hP
        refine z_asgSG s15 (hv_addS (hv_addS (hv_vS rfl) (hv_at (PySem.Str.ofString "") (hs_of (hv_lst (has_cons (hv_str _) (has_cons (hv_str _) (has_cons (hv_str _) (has_cons (hv_str _) (has_cons (hv_str _) (has_cons (hv_str _) (has_cons (hv_str _) has_nil))))))) (Nat.le_of_ble_eq_true rfl))) (hv_mod (hv_intI (hv_at 0 (hs_of (hv_var (x := draws_2) rfl s15.im.1)) (hv_add (hv_int 4) (hv_vI rfl)) (by first | omega | decide +kernel | (simp only [List.length_cons, List.length_nil]; omega)) (by first | omega | decide +kernel | (simp only [List.length_cons, List.length_nil]; omega)))) (hv_int 7) (by first | omega | decide +kernel | (simp only [List.length_cons, List.length_nil]; omega))) (by first | omega | decide +kernel | (simp only [List.length_cons, List.length_nil]; omega)) (by first | omega | decide +kernel | (simp only [List.length_cons, List.length_nil]; omega))) (by first | (refine Nat.le_trans (Nat.add_le_add_left (g_digs _) _) ?_; omega) | (rw [str_len_app, strAt_len]; refine Nat.le_trans (Nat.add_le_add_right (Nat.add_le_add_left (g_digs _) _) _) ?_; omega))) (hv_ixStr (hv_str _) (hv_mod (hv_intI (hv_at 0 (hs_of (hv_var (x := draws_2) rfl s15.im.1)) (hv_add (hv_int 8) (hv_vI rfl)) (by first | omega | decide +kernel | (simp only [List.length_cons, List.length_nil]; omega)) (by first | omega | decide +kernel | (simp only [List.length_cons, List.length_nil]; omega)))) (hv_int 4) (by first | omega | decide +kernel | (simp only [List.length_cons, List.length_nil]; omega))) (by have := l_dot; have := l_emp; have := l_abcB; first | omega | (simp only [str_len_app, mulS_len, strAt_len]; omega)) (by first | omega | decide +kernel | (simp only [List.length_cons, List.length_nil]; omega)) (by have := l_dot; have := l_emp; have := l_abcB; first | omega | (simp only [str_len_app, mulS_len, strAt_len]; omega))) (by first | (refine Nat.le_trans (Nat.add_le_add_left (g_digs _) _) ?_; omega) | (rw [str_len_app, strAt_len]; refine Nat.le_trans (Nat.add_le_add_right (Nat.add_le_add_left (g_digs _) _) _) ?_; omega))) fun text_22 htext_22 Hs21 s21 => ?_
        try dsimp only at htext_22
        have lttext_22 : text_22.length = _ := (congrArg Str.length htext_22).trans (str_len_app _ _)
        try simp only [str_len_app, strAt_len] at lttext_22
        have ltext_22 : text_22.length ≤ text_10.length + 3 := by rw [htext_22, str_len_app, str_len_app, strAt_len]; have := g_digs (Int.toNat ((List.getD draws_2 (Int.toNat (4 + x17)) 0) % 7)); omega
        have hf23 : (m_law_entry_l0 draws_2) text_10 x17 = text_22 := (by subst htext_22; subst htext_9; subst hdraws_2; first | (simp only [m_law_entry_l0, hb4, if_true, if_false, Bool.false_eq_true, decide_true, decide_false, Option.getD_some, Option.isNone_none, Option.isNone_some, Bool.not_true, Bool.not_false, ↓reduceIte]; done) | (rfl; done) | (exfalso; simp at hb4; done))
        exact ⟨text_22, _, he13.trans ((loopN_step hi19).trans (by rw [← hx18, hf23])), (by first | trivial | omega | (simp_all; done) | (simp_all; omega)), rfl, s21.keep fun _ h => ⟨h.1, True.intro⟩⟩
      · obtain ⟨text_24, o25, he27, hg28, rfl, s26⟩ := hP
        rw [loopN_end] at he27
        have hF29 : m_law_entry cell_ = (text_24 ++ ([(PySem.Str.ofString "1"), (PySem.Str.ofString "."), (PySem.Str.ofString "5.")].getD (Int.toNat ((draws_2.getD (Int.toNat (12 : Int)) 0) % (3 : Int))) (PySem.Str.ofString ""))) := (by subst htext_9; subst hdraws_2; first | (simp only [m_law_entry, hb4, he27, if_true, if_false, Bool.false_eq_true, decide_true, decide_false, Option.getD_some, Option.isNone_none, Option.isNone_some, Bool.not_true, Bool.not_false, ↓reduceIte]; done) | (rfl; done) | (exfalso; simp at hb4; done))
        exact zq_ret s26 (hv_addS (hv_vS rfl) (hv_at (PySem.Str.ofString "") (hs_of (hv_lst (has_cons (hv_str _) (has_cons (hv_str _) (has_cons (hv_str _) has_nil))) (Nat.le_of_ble_eq_true rfl))) (hv_mod (hv_intI (hv_at 0 (hs_of (hv_var (x := draws_2) rfl s26.im.1)) (hv_int 12) (by first | omega | decide +kernel | (simp only [List.length_cons, List.length_nil]; omega)) (by first | omega | decide +kernel | (simp only [List.length_cons, List.length_nil]; omega)))) (hv_int 3) (by first | omega | decide +kernel | (simp only [List.length_cons, List.length_nil]; omega))) (by first | omega | decide +kernel | (simp only [List.length_cons, List.length_nil]; omega)) (by first | omega | decide +kernel | (simp only [List.length_cons, List.length_nil]; omega))) (by refine Nat.le_trans (Nat.add_le_add_left (g_end _) _) ?_; omega)) fun v H' e d => q v H' e (by rw [hF29]; exact d)
def NoDash (s : PySem.Str) : Prop := 45 ∉ cps s
theorem nd_app {a b : PySem.Str} (ha : NoDash a) (hb : NoDash b) : NoDash (a ++ b) := by
  unfold NoDash
  rw [cps_app, List.mem_append]
  exact fun h => h.elim ha hb
theorem nd_at {i : Int} : NoDash (Ly.strAt (PySem.Str.ofString "abcB") (Int.toNat (i % 4))) := fun h => by
  have := abc_at 45 h
  omega
theorem entry_run (ds : List Int) (n : Nat) (s : PySem.Str) (h1 : NoDash s) (h2 : s.length ≤ 2) : NoDash (loopN (m_law_entry_l0 ds) n 0 s) ∧ (loopN (m_law_entry_l0 ds) n 0 s).length ≤ 2 + 3 * n := by
  have key := loopN_keep (f := m_law_entry_l0 ds) (fun s j => NoDash s ∧ s.length ≤ 2 + 3 * j) (fun s k j h => by
    unfold m_law_entry_l0
    dsimp only
    refine ⟨nd_app (nd_app h.1 (getD_P (P := NoDash) (by unfold NoDash; decide +kernel) (by unfold NoDash; decide +kernel) _)) nd_at, ?_⟩
    rw [str_len_app, str_len_app, strAt_len]
    have := g_digs (Int.toNat ((List.getD ds (Int.toNat (4 + k)) 0) % 7))
    omega) n 0 s 0 ⟨h1, by omega⟩
  rw [Nat.zero_add] at key
  exact key
theorem entry_ok (c : Int) : (m_law_entry c = PySem.Str.ofString "ab-ca" ∨ NoDash (m_law_entry c)) ∧ (m_law_entry c).length ≤ 16 := by
  unfold m_law_entry
  dsimp only
  split
  · exact getD_P (P := fun (s : PySem.Str) => (s = PySem.Str.ofString "ab-ca" ∨ NoDash s) ∧ s.length ≤ 16) (by unfold NoDash; decide +kernel) (by unfold NoDash; decide +kernel) _
  · have k := entry_run (m_law_draws c (14 : Int)) (Int.toNat ((1 : Int) + (((m_law_draws c (14 : Int)).getD (Int.toNat (3 : Int)) 0) % (4 : Int)))) (if (decide ((((m_law_draws c (14 : Int)).getD (Int.toNat (1 : Int)) 0) % (3 : Int)) = (0 : Int))) = true then ([(PySem.Str.ofString ""), (PySem.Str.ofString "."), (PySem.Str.ofString "3."), (PySem.Str.ofString ".4")].getD (Int.toNat (((m_law_draws c (14 : Int)).getD (Int.toNat (2 : Int)) 0) % (4 : Int))) (PySem.Str.ofString "")) else (PySem.Str.ofString ""))
      (by split; exact getD_P (P := NoDash) (by unfold NoDash; decide +kernel) (by unfold NoDash; decide +kernel) _; unfold NoDash; decide +kernel)
      (by split; exact g_pre _; decide +kernel)
    refine ⟨Or.inr (nd_app k.1 (getD_P (P := NoDash) (by unfold NoDash; decide +kernel) (by unfold NoDash; decide +kernel) _)), ?_⟩
    rw [str_len_app]
    have h1 := k.2
    have h2 := g_end (Int.toNat (((m_law_draws c (14 : Int)).getD (Int.toNat (12 : Int)) 0) % (3 : Int)))
    omega
theorem entry_len (c : Int) : (m_law_entry c).length ≤ 16 := (entry_ok c).2

def m_law_expected_l2 (start_ : Int) (given_ : (List Int)) (s_ : (List Int)) (x_ : Int) : (List Int) :=
  let best_ : (List Int) := s_
  let k_ : Int := x_
  let best_ : (List Int) := (List.set best_ (Int.toNat (start_ + k_)) (max (best_.getD (Int.toNat (start_ + k_)) 0) (given_.getD (Int.toNat k_) 0)))
  best_
def m_law_expected_l1 (signs_ : PySem.Str) (dotted_ : PySem.Str) (given_ : (List Int)) (s_ : (List Int)) (x_ : Int) : (List Int) :=
  let best_ : (List Int) := s_
  let start_ : Int := x_
  if (decide ((cutS dotted_ (some start_) (some (start_ + ((Str.length signs_ : Nat) : Int)))) = signs_)) = true then
    let r2_ : (List Int) := loopN (m_law_expected_l2 start_ given_) (Int.toNat ((given_).length : Int)) (0 : Int) best_
    let best_ : (List Int) := r2_
    best_
  else
    best_
def m_law_expected_l0 (dotted_ : PySem.Str) (s_ : (List Int)) (x_ : PySem.Str) : (List Int) :=
  let best_ : (List Int) := s_
  let text_ : PySem.Str := x_
  if ((!(inStr (PySem.Str.ofString "-") text_)) && (!(decide (text_ = (PySem.Str.ofString "abc")) || decide (text_ = (PySem.Str.ofString "a"))))) = true then
    let p72_ : (PySem.Str × (List Int)) := (m_law_pattern (Txt.lower text_))
    let signs_ : PySem.Str := p72_.1
    let given_ : (List Int) := p72_.2
    let r1_ : (List Int) := loopN (m_law_expected_l1 signs_ dotted_ given_) (Int.toNat ((((Str.length dotted_ : Nat) : Int) - ((Str.length signs_ : Nat) : Int)) + (1 : Int))) (0 : Int) best_
    let best_ : (List Int) := r1_
    best_
  else
    best_
def m_law_expected (entries_ : (List PySem.Str)) (word_ : PySem.Str) : (List Int) :=
  let dotted_ : PySem.Str := (((PySem.Str.ofString ".") ++ (Txt.lower word_)) ++ (PySem.Str.ofString "."))
  let best_ : (List Int) := (List.map (fun (c_ : Int) => (0 : Int)) (irng (0 : Int) (Int.toNat (((Str.length dotted_ : Nat) : Int) + (1 : Int)))))
  let r0_ : (List Int) := List.foldl (m_law_expected_l0 dotted_) best_ entries_
  let best_ : (List Int) := r0_
  (cutL best_ (some (2 : Int)) (some (((Str.length word_ : Nat) : Int) + (1 : Int))))
abbrev s_law_expected : Stmt := topS 11
theorem sc_law_expected : FnScope ["entries", "word", "dotted", "best", "k", "text", "signs", "given", "start"] ["entries", "word"] (defScope s_law_expected) := ⟨rfl, rfl, rfl, by decide +kernel, rfl, by decide +kernel, by decide +kernel⟩
abbrev sp_law_expected (K : PySem.W.Frag) : Sp := PrD K (fun c : (List PySem.Str) × PySem.Str => [Datum.toD c.1, Datum.toD c.2]) (fun c => c.2.length ≤ 24 ∧ c.1.length ≤ 20 ∧ ∀ e ∈ c.1, e.length ≤ 20) (fun c => (m_law_expected c.1 c.2 : (List Int)))
theorem ok_law_expected (T : Txt K mg) : FnOk P w K mg base CX0 2 T.f_law_expected T.d_law_expected ["entries", "word"] (sp_law_expected K) := by
  refine T.u_law_expected.ok sc_law_expected (fun vs H Q E h => ?_) (fun cdv A outer s H vs Q E hr h => ?_)
  · obtain ⟨Mc, c, mok, da, pre, q⟩ := h
    exact (dpa_len da)
  · obtain ⟨Mc, c, mok, da, pre, q⟩ := h
    obtain ⟨entries_, word_⟩ := c
    dsimp only at da pre q
    obtain ⟨v0, w0, rfl, d0, da0⟩ := dpa_inv da
    obtain ⟨v1, w1, rfl, d1, da1⟩ := dpa_inv da0
    cases dpa_inv0 da1
    cases (Dt.str d1)
    have s0 : Sg K Mc H H [(v0, Datum.toD entries_)] [] := Sg.enter mok ⟨d0, True.intro⟩
    refine ⟨_, (pss_cons (ps_set (i := 2) sc_law_expected.nd rfl (.inl rfl) (pe_op op_add_str (pe_op op_add_str pe_str (pe_lower (pv 1))) pe_str)) (pss_cons (ps_setLc (i := 3) rfl sc_law_expected.nd rfl rfl (sw_true rfl rfl rfl (by decide +kernel)) (own := [("k", 4)]) (g := gName 4) (pi_range1 (by rfl) T.n_range (pa_cons (pe_op op_add (pe_callB call_len (by rfl) T.n_len (by decide +kernel) (pa_cons (pv 2) pa_nil)) pe_int) pa_nil)) (blkOk_by (own := [("k", 4)]) (N := ["entries", "word", "dotted", "best", "k", "text", "signs", "given", "start"]) (sc := defScope s_law_expected) (by decide +kernel)) (fun _ _ _ _ _ => (pg_name (i := 4) sc_law_expected.nd rfl (Or.inl rfl) (.inr (by rfl)))) (fun _ _ _ _ _ => pts_nil) (fun _ _ _ _ _ => pe_int)) (pss_cons (ps_for PassesOwn.never rfl (pi_list (pv 0)) (pg_name (i := 5) sc_law_expected.nd rfl (.inl rfl)) (pss_cons (ps_if (PW.pt (pw_and (pt_cmpR op_notin_str pe_str (pv 5) (by rfl)) (pw_and1 (pt_cmpR op_notIn_seq (pv 5) (pe_tup (pa_cons pe_str (pa_cons pe_str pa_nil))) (by rfl))))) (pss_cons (ps_asg (pe_call (ok_law_pattern T) hr (by rfl) T.g_law_pattern T.u_law_pattern.kp T.b_law_pattern .nil pass0 (pa_cons (pe_lower (pv 5)) pa_nil)) (pg_tup rfl (pgs_cons (pg_name (i := 6) sc_law_expected.nd rfl (.inl rfl)) (pgs_cons (pg_name (i := 7) sc_law_expected.nd rfl (.inl rfl)) pgs_nil)))) (pss_cons (ps_for PassesOwn.never rfl (pi_range1 (by rfl) T.n_range (pa_cons (pe_op op_add (pe_op op_sub (pe_callB call_len (by rfl) T.n_len (by decide +kernel) (pa_cons (pv 2) pa_nil)) (pe_callB call_len (by rfl) T.n_len (by decide +kernel) (pa_cons (pv 6) pa_nil))) pe_int) pa_nil)) (pg_name (i := 8) sc_law_expected.nd rfl (.inl rfl)) (pss_cons (ps_if (pt_cmpR op_eq (pe_slice sl_str (pv 2) (po_some (pv 8)) (po_some (pe_op op_add (pv 8) (pe_callB call_len (by rfl) T.n_len (by decide +kernel) (pa_cons (pv 6) pa_nil))))) (pv 6) (nomark _)) (pss_cons (ps_for PassesOwn.never rfl (pi_range1 (by rfl) T.n_range (pa_cons (pe_callB call_len (by rfl) T.n_len (by decide +kernel) (pa_cons (pv 7) pa_nil)) pa_nil)) (pg_name (i := 4) sc_law_expected.nd rfl (.inl rfl)) (pss_cons (ps_asg (pe_callB (call_max2 rfl) (by rfl) T.n_max (by decide +kernel) (pa_cons (pe_ix ix_list (pv 3) (pe_op op_add (pv 8) (pv 4)) (fun _ _ => rfl)) (pa_cons (pe_ix ix_list (pv 7) (pv 4) (fun _ _ => rfl)) pa_nil))) (pg_sub (pv 3) (pe_op op_add (pv 8) (pv 4)) set_list)) pss_nil)) pss_nil) pss_nil) pss_nil)) pss_nil)) pss_nil) pss_nil)) (pss_cons (ps_ret (pe_slice sl_list (pv 3) (po_some pe_int) (po_some (pe_op op_add (pe_callB call_len (by rfl) T.n_len (by decide +kernel) (pa_cons (pv 1) pa_nil)) pe_int)))) pss_nil)))), ?_⟩
    refine z_asgSG s0 (hv_addS (hv_addS (hv_str _) (hv_lower (hv_vS rfl) (by omega)) (by have := PyProof.Rows.len_lower word_; simp only [l_dot, str_len_app]; omega)) (hv_str _) (by have := PyProof.Rows.len_lower word_; simp only [l_dot, str_len_app]; omega)) fun dotted_2 hdotted_2 Hs1 s1 => ?_
    try dsimp only at hdotted_2
    have ltdotted_2 : dotted_2.length = _ := (congrArg Str.length hdotted_2).trans (str_len_app _ _)
    try simp only [str_len_app, strAt_len] at ltdotted_2
    have lddotted_2 : dotted_2.length ≤ 74 := by rw [hdotted_2]; have := PyProof.Rows.len_lower word_; simp only [l_dot, str_len_app]; omega
    refine z_freshG s1 (hf_lcR0 s1 (fun (c_ : Int) => (0 : Int)) (hv_add (hv_lenS (hv_vS rfl) (by have := l_dot; have := l_emp; have := l_abcB; first | omega | (simp only [str_len_app, mulS_len, strAt_len]; omega))) (hv_int 1)) (by first | omega | decide +kernel | (simp only [List.length_cons, List.length_nil]; omega)) (fun D6 c7 ys9 Hs5 s5 hx11 Q k => by exact k _ rfl (hv_int 0))) fun best_4 hbest_4 ps3 Hs3 s3 => ?_
    try dsimp only at hbest_4
    have lbest_4 := congrArg List.length hbest_4
    try simp only [List.length_map, irng_len, List.length_flatten, List.map_replicate, List.sum_replicate_nat, List.length_cons, List.length_nil] at lbest_4
    refine zq_forG s3 (hv_var (x := entries_) rfl s3.im.1) (fun vsrc0 i σ' H' => ∃ (best_13 : (List Int)) (o14 : Option V) (o15 : Option V) (o16 : Option V) (o17 : Option V) (o18 : Option V), (List.foldl (m_law_expected_l0 dotted_2) best_4 entries_ : (List Int)) = (List.foldl (m_law_expected_l0 dotted_2) best_13 (List.drop i entries_) : (List Int)) ∧ (best_13.length = dotted_2.length + 1) ∧ σ' = [some v0, some (V.str word_), some (V.str dotted_2), some (.ref ps3), o14, o15, o16, o17, o18] ∧ Sg K Mc H H' [(vsrc0, Datum.toD entries_), (v0, Datum.toD entries_)] [(ps3, .lst (List.map Datum.toD best_13))]) (fun vsrc0 Hs19 s19 => ⟨best_4, _, _, _, _, _, rfl, (by first | trivial | omega | (simp; done) | simp_all), rfl, s19.keep fun _ h => ⟨h.1, ⟨h.2.1, True.intro⟩⟩⟩) (fun vsrc0 i σ' H' hP => by obtain ⟨best_13, o14, o15, o16, o17, o18, he, hg, hs, hS⟩ := hP; exact hS.im.1) (fun vsrc0 i23 x24 wx24 σ' Hs22 hi26 hP hx25 => ?_) (fun vsrc0 σ' Hs22 hP => ?_)
    · obtain ⟨best_13, o14, o15, o16, o17, o18, he20, hg21, rfl, s22⟩ := hP
      cases (Dt.str hx25)
      have hent := pre.2.2 _ (List.mem_of_getElem? hi26)
      have hlow := PyProof.Rows.len_lower x24
      refine z_ifx (b := ((!(inStr (PySem.Str.ofString "-") x24)) && (!(decide (x24 = (PySem.Str.ofString "abc")) || decide (x24 = (PySem.Str.ofString "a")))))) s22 (ht_and (ht_val (K := K) (hv_niStr (hv_str _) (hv_vS rfl))) (fun hb0 => (ht_val (K := K) ((hv_niTS (hv_vS rfl) (has_cons (hv_str _) (has_cons (hv_str _) has_nil)) (Nat.le_of_ble_eq_true rfl)).is (by simp))))) (fun hb28 Hs29 s29 => ?_) (fun hb28 Hs30 s30 => ?_)
      · have hb28P := hb28
        try simp only [decide_eq_true_eq, decide_eq_false_iff_not, Bool.not_eq_true', Bool.not_eq_false', Bool.and_eq_true, Bool.or_eq_true, Bool.or_eq_false_iff] at hb28P
        refine z_unp2 s29 (hv_call (Txt.lower x24) (hd_cons (hv_lower (hv_vS rfl) (by have := l_dot; have := l_emp; have := l_abcB; first | omega | (simp only [str_len_app, mulS_len, strAt_len]; omega))) hd_nil) (by exact Nat.le_trans (PyProof.Rows.len_lower _) (by omega))) fun signs_32 given_33 hp34 vsigns_32 vgiven_33 Hs31 s31 => ?_
        try dsimp only at hp34
        have f35 := pattern_len (Txt.lower x24)
        rw [← hp34] at f35
        dsimp only at f35
        cases (Dt.str s31.im.1)
        refine zq_forR1G s31 (hv_add (hv_sub (hv_lenS (hv_vS rfl) (by have := l_dot; have := l_emp; have := l_abcB; first | omega | (simp only [str_len_app, mulS_len, strAt_len]; omega))) (hv_lenS (hv_vS rfl) (by have := l_dot; have := l_emp; have := l_abcB; first | omega | (simp only [str_len_app, mulS_len, strAt_len]; omega)))) (hv_int 1)) (by first | omega | decide +kernel | (simp only [List.length_cons, List.length_nil]; omega)) (fun i σ' H' => ∃ (best_36 : (List Int)) (o37 : Option V) (o38 : Option V), (loopN (m_law_expected_l1 signs_32 dotted_2 given_33) (Int.toNat ((((Str.length dotted_2 : Nat) : Int) - ((Str.length signs_32 : Nat) : Int)) + (1 : Int))) (0 : Int) best_13 : (List Int)) = (loopN (m_law_expected_l1 signs_32 dotted_2 given_33) ((Int.toNat ((((Str.length dotted_2 : Nat) : Int) - ((Str.length signs_32 : Nat) : Int)) + (1 : Int))) - i) ((0 : Int) + (i : Int)) best_36 : (List Int)) ∧ (best_36.length = dotted_2.length + 1) ∧ σ' = [some v0, some (V.str word_), some (V.str dotted_2), some (.ref ps3), o37, some (V.str x24), some (V.str signs_32), some vgiven_33, o38] ∧ Sg K Mc H H' [(vgiven_33, Datum.toD given_33), (vsrc0, Datum.toD entries_), (v0, Datum.toD entries_)] [(ps3, .lst (List.map Datum.toD best_36))]) (fun Hs39 s39 => ⟨best_13, _, _, (by simp), (by first | trivial | omega | (simp; done) | simp_all), rfl, s39.keep fun _ h => ⟨h.2.1, ⟨h.2.2.1, ⟨h.2.2.2.1, True.intro⟩⟩⟩⟩) (fun i43 x44 σ' Hs42 hx45 hi46 hP => ?_) (fun σ' Hs42 hP => ?_)
        · obtain ⟨best_36, o37, o38, he40, hg41, rfl, s42⟩ := hP
          refine z_ifx (b := (decide ((cutS dotted_2 (some x44) (some (x44 + ((Str.length signs_32 : Nat) : Int)))) = signs_32))) s42 (ht_val (K := K) (hv_eqS (hv_sliceS (hv_vS rfl) (ho_some (K := K) (hv_vI rfl)) (ho_some (K := K) (hv_add (hv_vI rfl) (hv_lenS (hv_vS rfl) (by have := l_dot; have := l_emp; have := l_abcB; first | omega | (simp only [str_len_app, mulS_len, strAt_len]; omega))))) (by have := l_dot; have := l_emp; have := l_abcB; first | omega | (simp only [str_len_app, mulS_len, strAt_len]; omega))) (hv_vS rfl))) (fun hb48 Hs49 s49 => ?_) (fun hb48 Hs50 s50 => ?_)
          · have hb48P := hb48
            try simp only [decide_eq_true_eq, decide_eq_false_iff_not, Bool.not_eq_true', Bool.not_eq_false', Bool.and_eq_true, Bool.or_eq_true, Bool.or_eq_false_iff] at hb48P
            refine zq_forR1G s49 (hv_len (hs_of (hv_var (x := given_33) rfl s49.im.1))) (by first | omega | decide +kernel | (simp only [List.length_cons, List.length_nil]; omega)) (fun i σ' H' => ∃ (best_51 : (List Int)) (o52 : Option V), (loopN (m_law_expected_l2 x44 given_33) (Int.toNat ((given_33).length : Int)) (0 : Int) best_36 : (List Int)) = (loopN (m_law_expected_l2 x44 given_33) ((Int.toNat ((given_33).length : Int)) - i) ((0 : Int) + (i : Int)) best_51 : (List Int)) ∧ (best_51.length = dotted_2.length + 1) ∧ σ' = [some v0, some (V.str word_), some (V.str dotted_2), some (.ref ps3), o52, some (V.str x24), some (V.str signs_32), some vgiven_33, some (V.int x44)] ∧ Sg K Mc H H' [(vgiven_33, Datum.toD given_33), (vsrc0, Datum.toD entries_), (v0, Datum.toD entries_)] [(ps3, .lst (List.map Datum.toD best_51))]) (fun Hs53 s53 => ⟨best_36, _, (by simp), (by first | trivial | omega | (simp; done) | simp_all), rfl, s53.keep fun _ h => ⟨h.1, ⟨h.2.1, ⟨h.2.2.1, True.intro⟩⟩⟩⟩) (fun i57 x58 σ' Hs56 hx59 hi60 hP => ?_) (fun σ' Hs56 hP => ?_)
            · obtain ⟨best_51, o52, he54, hg55, rfl, s56⟩ := hP
              refine z_setG s56 (kk := 0) rfl (hv_max2 (hv_at 0 (hs_mut s56 (k := 0) rfl rfl) (hv_add (hv_vI rfl) (hv_vI rfl)) (by first | omega | decide +kernel | (simp only [List.length_cons, List.length_nil]; omega)) (by first | omega | decide +kernel | (simp only [List.length_cons, List.length_nil]; omega))) (hv_at 0 (hs_of (hv_var (x := given_33) rfl s56.im.1)) (hv_vI rfl) (by first | omega | decide +kernel | (simp only [List.length_cons, List.length_nil]; omega)) (by first | omega | decide +kernel | (simp only [List.length_cons, List.length_nil]; omega)))) (ev_var rfl) (hv_add (hv_vI rfl) (hv_vI rfl)) (by first | omega | decide +kernel | (simp only [List.length_cons, List.length_nil]; omega)) (by first | omega | decide +kernel | (simp only [List.length_cons, List.length_nil]; omega)) fun best_63 hbest_63 Hs62 s62 => ?_
              try dsimp only at hbest_63
              have lbest_63 : best_63.length = best_51.length := by rw [hbest_63, List.length_set]
              have s62 : Sg K Mc _ _ _ [(ps3, .lst (List.map Datum.toD best_63))] := s62
              have hf64 : (m_law_expected_l2 x44 given_33) best_51 x58 = best_63 := (by subst hbest_63; subst hbest_4; subst hdotted_2; first | (simp only [m_law_expected_l2, hb28, ← hp34, hb48, if_true, if_false, Bool.false_eq_true, decide_true, decide_false, Option.getD_some, Option.isNone_none, Option.isNone_some, Bool.not_true, Bool.not_false, ↓reduceIte]; done) | (rfl; done) | (exfalso; simp at hb48; done) | (exfalso; simp at hb28; done))
              exact ⟨best_63, _, he54.trans ((loopN_step hi60).trans (by rw [← hx59, hf64])), (by first | trivial | omega | (simp_all; done) | (simp_all; omega)), rfl, s62.keep fun _ h => ⟨h.1, ⟨h.2.1, ⟨h.2.2.1, True.intro⟩⟩⟩⟩
            · obtain ⟨best_65, o66, he68, hg69, rfl, s67⟩ := hP
              rw [loopN_end] at he68
              have hf70 : (m_law_expected_l1 signs_32 dotted_2 given_33) best_36 x44 = best_65 := (by subst hbest_4; subst hdotted_2; first | (simp only [m_law_expected_l1, hb28, ← hp34, hb48, he68, if_true, if_false, Bool.false_eq_true, decide_true, decide_false, Option.getD_some, Option.isNone_none, Option.isNone_some, Bool.not_true, Bool.not_false, ↓reduceIte]; done) | (rfl; done) | (exfalso; simp at hb48; done) | (exfalso; simp at hb28; done))
              exact ⟨best_65, _, _, he40.trans ((loopN_step hi46).trans (by rw [← hx45, hf70])), (by first | trivial | omega | (simp_all; done) | (simp_all; omega)), rfl, s67.keep fun _ h => ⟨h.1, ⟨h.2.1, ⟨h.2.2.1, True.intro⟩⟩⟩⟩
          · have hb48P := hb48
            try simp only [decide_eq_true_eq, decide_eq_false_iff_not, Bool.not_eq_true', Bool.not_eq_false', Bool.and_eq_true, Bool.or_eq_true, Bool.or_eq_false_iff] at hb48P
            have hf71 : (m_law_expected_l1 signs_32 dotted_2 given_33) best_36 x44 = best_36 := (by subst hbest_4; subst hdotted_2; first | (simp only [m_law_expected_l1, hb28, ← hp34, hb48, if_true, if_false, Bool.false_eq_true, decide_true, decide_false, Option.getD_some, Option.isNone_none, Option.isNone_some, Bool.not_true, Bool.not_false, ↓reduceIte]; done) | (rfl; done) | (exfalso; simp at hb48; done) | (exfalso; simp at hb28; done))
            exact ⟨best_36, _, _, he40.trans ((loopN_step hi46).trans (by rw [← hx45, hf71])), (by first | trivial | omega | (simp_all; done) | (simp_all; omega)), rfl, s50.keep fun _ h => ⟨h.1, ⟨h.2.1, ⟨h.2.2.1, True.intro⟩⟩⟩⟩
        · obtain ⟨best_72, o73, o74, he76, hg77, rfl, s75⟩ := hP
          rw [loopN_end] at he76
          have hf78 : (m_law_expected_l0 dotted_2) best_13 x24 = best_72 := (by subst hbest_4; subst hdotted_2; first | (simp only [m_law_expected_l0, hb28, ← hp34, he76, if_true, if_false, Bool.false_eq_true, decide_true, decide_false, Option.getD_some, Option.isNone_none, Option.isNone_some, Bool.not_true, Bool.not_false, ↓reduceIte]; done) | (rfl; done) | (exfalso; simp at hb28; done))
          exact ⟨best_72, _, _, _, _, _, he20.trans ((foldl_step hi26).trans (by rw [hf78])), (by first | trivial | omega | (simp_all; done) | (simp_all; omega)), rfl, s75.keep fun _ h => ⟨h.2.1, ⟨h.2.2.1, True.intro⟩⟩⟩
      · have hb28P := hb28
        try simp only [decide_eq_true_eq, decide_eq_false_iff_not, Bool.not_eq_true', Bool.not_eq_false', Bool.and_eq_true, Bool.or_eq_true, Bool.or_eq_false_iff] at hb28P
        have hf79 : (m_law_expected_l0 dotted_2) best_13 x24 = best_13 := (by subst hbest_4; subst hdotted_2; first | (simp only [m_law_expected_l0, hb28, if_true, if_false, Bool.false_eq_true, decide_true, decide_false, Option.getD_some, Option.isNone_none, Option.isNone_some, Bool.not_true, Bool.not_false, ↓reduceIte]; done) | (rfl; done) | (exfalso; simp at hb28; done))
        exact ⟨best_13, _, _, _, _, _, he20.trans ((foldl_step hi26).trans (by rw [hf79])), (by first | trivial | omega | (simp_all; done) | (simp_all; omega)), rfl, s30.keep fun _ h => ⟨h.1, ⟨h.2.1, True.intro⟩⟩⟩
    · obtain ⟨best_80, o81, o82, o83, o84, o85, he87, hg88, rfl, s86⟩ := hP
      rw [foldl_end] at he87
      have s89 := Sg.frz (xs := best_80) s86
      have hF90 : m_law_expected entries_ word_ = (cutL best_80 (some (2 : Int)) (some (((Str.length word_ : Nat) : Int) + (1 : Int)))) := (by subst hbest_4; subst hdotted_2; first | (simp only [m_law_expected, he87, if_true, if_false, Bool.false_eq_true, decide_true, decide_false, Option.getD_some, Option.isNone_none, Option.isNone_some, Bool.not_true, Bool.not_false, ↓reduceIte]; done) | (rfl; done))
      exact zq_ret s89 (hv_slice (hs_of (hv_var (x := best_80) rfl s89.im.1)) (ho_some (K := K) (hv_int 2)) (ho_some (K := K) (hv_add (hv_lenS (hv_vS rfl) (by have := l_dot; have := l_emp; have := l_abcB; first | omega | (simp only [str_len_app, mulS_len, strAt_len]; omega))) (hv_int 1)))) fun v H' e d => q v H' e (by rw [hF90]; exact d)
def m_levels_l1  (s_ : (List Int)) (x_ : (Int × Int)) : (List Int) :=
  let found_ : (List Int) := s_
  let at_ : Int := x_.1
  let level_ : Int := x_.2
  let found_ : (List Int) := (List.set found_ (Int.toNat at_) (max (found_.getD (Int.toNat at_) 0) level_))
  found_
def m_levels_l0 (dotted_ : PySem.Str) (s_ : (List Int)) (x_ : PySem.Str) : (List Int) :=
  let found_ : (List Int) := s_
  let entry_ : PySem.Str := x_
  let r1_ : (List Int) := List.foldl m_levels_l1 found_ (m_given_levels entry_ dotted_)
  let found_ : (List Int) := r1_
  found_
def m_levels (entries_ : (List PySem.Str)) (word_ : PySem.Str) : (List Int) :=
  let dotted_ : PySem.Str := (((PySem.Str.ofString ".") ++ (Txt.lower word_)) ++ (PySem.Str.ofString "."))
  let found_ : (List Int) := (List.flatten (List.replicate (Int.toNat (((Str.length dotted_ : Nat) : Int) + (1 : Int))) [(0 : Int)]))
  let r0_ : (List Int) := List.foldl (m_levels_l0 dotted_) found_ entries_
  let found_ : (List Int) := r0_
  (cutL found_ (some (2 : Int)) (some (-2 : Int)))
abbrev s_levels : Stmt := topS 2
theorem sc_levels : FnScope ["entries", "word", "dotted", "found", "entry", "at", "level"] ["entries", "word"] (defScope s_levels) := ⟨rfl, rfl, rfl, by decide +kernel, rfl, by decide +kernel, by decide +kernel⟩
abbrev sp_levels (K : PySem.W.Frag) : Sp := PrD K (fun c : (List PySem.Str) × PySem.Str => [Datum.toD c.1, Datum.toD c.2]) (fun c => c.2.length ≤ 24 ∧ c.1.length ≤ 20 ∧ ∀ e ∈ c.1, e.length ≤ 20) (fun c => (m_levels c.1 c.2 : (List Int)))
theorem ok_levels (T : Txt K mg) : FnOk P w K mg base CX0 3 T.f_levels T.d_levels ["entries", "word"] (sp_levels K) := by
  refine T.u_levels.ok sc_levels (fun vs H Q E h => ?_) (fun cdv A outer s H vs Q E hr h => ?_)
  · obtain ⟨Mc, c, mok, da, pre, q⟩ := h
    exact (dpa_len da)
  · obtain ⟨Mc, c, mok, da, pre, q⟩ := h
    obtain ⟨entries_, word_⟩ := c
    dsimp only at da pre q
    obtain ⟨v0, w0, rfl, d0, da0⟩ := dpa_inv da
    obtain ⟨v1, w1, rfl, d1, da1⟩ := dpa_inv da0
    cases dpa_inv0 da1
    cases (Dt.str d1)
    have s0 : Sg K Mc H H [(v0, Datum.toD entries_)] [] := Sg.enter mok ⟨d0, True.intro⟩
    refine ⟨_, (pss_cons (ps_set (i := 2) sc_levels.nd rfl (.inl rfl) (pe_op op_add_str (pe_op op_add_str pe_str (pe_lower (pv 1))) pe_str)) (pss_cons (ps_set (i := 3) sc_levels.nd rfl (.inl rfl) (pe_op op_rep (pe_lst (pa_cons pe_int pa_nil)) (pe_op op_add (pe_callB call_len (by rfl) T.n_len (by decide +kernel) (pa_cons (pv 2) pa_nil)) pe_int))) (pss_cons (ps_for PassesOwn.never rfl (pi_list (pv 0)) (pg_name (i := 4) sc_levels.nd rfl (.inl rfl)) (pss_cons (ps_for PassesOwn.never rfl (pi_list (pe_call (ok_given_levels T) hr (by rfl) T.g_given_levels T.u_given_levels.kp T.b_given_levels .nil pass0 (pa_cons (pv 4) (pa_cons (pv 2) pa_nil)))) (pg_tup rfl (pgs_cons (pg_name (i := 5) sc_levels.nd rfl (.inl rfl)) (pgs_cons (pg_name (i := 6) sc_levels.nd rfl (.inl rfl)) pgs_nil))) (pss_cons (ps_asg (pe_callB (call_max2 rfl) (by rfl) T.n_max (by decide +kernel) (pa_cons (pe_ix ix_list (pv 3) (pv 5) (fun _ _ => rfl)) (pa_cons (pv 6) pa_nil))) (pg_sub (pv 3) (pv 5) set_list)) pss_nil)) pss_nil)) (pss_cons (ps_ret (pe_slice sl_list (pv 3) (po_some pe_int) (po_some (pe_un un_neg pe_int)))) pss_nil)))), ?_⟩
    refine z_asgSG s0 (hv_addS (hv_addS (hv_str _) (hv_lower (hv_vS rfl) (by omega)) (by have := PyProof.Rows.len_lower word_; simp only [l_dot, str_len_app]; omega)) (hv_str _) (by have := PyProof.Rows.len_lower word_; simp only [l_dot, str_len_app]; omega)) fun dotted_2 hdotted_2 Hs1 s1 => ?_
    try dsimp only at hdotted_2
    have ltdotted_2 : dotted_2.length = _ := (congrArg Str.length hdotted_2).trans (str_len_app _ _)
    try simp only [str_len_app, strAt_len] at ltdotted_2
    have lddotted_2 : dotted_2.length ≤ 74 := by rw [hdotted_2]; have := PyProof.Rows.len_lower word_; simp only [l_dot, str_len_app]; omega
    refine z_freshG s1 (hf_rep (has_cons (hv_int 0) has_nil) (hv_add (hv_lenS (hv_vS rfl) (by have := l_dot; have := l_emp; have := l_abcB; first | omega | (simp only [str_len_app, mulS_len, strAt_len]; omega))) (hv_int 1)) (Nat.le_of_ble_eq_true rfl) (by first | omega | decide +kernel | (simp only [List.length_cons, List.length_nil]; omega)) (by simp only [List.length_cons, List.length_nil]; omega) (by first | omega | decide +kernel | (simp only [List.length_cons, List.length_nil]; omega))) fun found_4 hfound_4 ps3 Hs3 s3 => ?_
    try dsimp only at hfound_4
    have lfound_4 := congrArg List.length hfound_4
    try simp only [List.length_map, irng_len, List.length_flatten, List.map_replicate, List.sum_replicate_nat, List.length_cons, List.length_nil] at lfound_4
    refine zq_forG s3 (hv_var (x := entries_) rfl s3.im.1) (fun vsrc0 i σ' H' => ∃ (found_5 : (List Int)) (o6 : Option V) (o7 : Option V) (o8 : Option V), (List.foldl (m_levels_l0 dotted_2) found_4 entries_ : (List Int)) = (List.foldl (m_levels_l0 dotted_2) found_5 (List.drop i entries_) : (List Int)) ∧ (found_5.length = dotted_2.length + 1) ∧ σ' = [some v0, some (V.str word_), some (V.str dotted_2), some (.ref ps3), o6, o7, o8] ∧ Sg K Mc H H' [(vsrc0, Datum.toD entries_), (v0, Datum.toD entries_)] [(ps3, .lst (List.map Datum.toD found_5))]) (fun vsrc0 Hs9 s9 => ⟨found_4, _, _, _, rfl, (by first | trivial | omega | (simp; done) | simp_all), rfl, s9.keep fun _ h => ⟨h.1, ⟨h.2.1, True.intro⟩⟩⟩) (fun vsrc0 i σ' H' hP => by obtain ⟨found_5, o6, o7, o8, he, hg, hs, hS⟩ := hP; exact hS.im.1) (fun vsrc0 i13 x14 wx14 σ' Hs12 hi16 hP hx15 => ?_) (fun vsrc0 σ' Hs12 hP => ?_)
    · obtain ⟨found_5, o6, o7, o8, he10, hg11, rfl, s12⟩ := hP
      cases (Dt.str hx15)
      have hent := pre.2.2 _ (List.mem_of_getElem? hi16)
      refine zq_for s12 (hv_call (x14, dotted_2) (hd_cons (hv_vS rfl) (hd_cons (hv_vS rfl) hd_nil)) (by dsimp only; omega)) (fun vsrc1 i σ' H' => ∃ (found_18 : (List Int)) (o19 : Option V) (o20 : Option V), (List.foldl m_levels_l1 found_5 (m_given_levels x14 dotted_2) : (List Int)) = (List.foldl m_levels_l1 found_18 (List.drop i (m_given_levels x14 dotted_2)) : (List Int)) ∧ (found_18.length = dotted_2.length + 1) ∧ σ' = [some v0, some (V.str word_), some (V.str dotted_2), some (.ref ps3), some (V.str x14), o19, o20] ∧ Sg K Mc H H' [(vsrc1, Datum.toD (m_given_levels x14 dotted_2)), (vsrc0, Datum.toD entries_), (v0, Datum.toD entries_)] [(ps3, .lst (List.map Datum.toD found_18))]) (fun vsrc1 Hs21 s21 => ⟨found_5, _, _, rfl, (by first | trivial | omega | (simp; done) | simp_all), rfl, s21.keep fun _ h => ⟨h.1, ⟨h.2.1, ⟨h.2.2.1, True.intro⟩⟩⟩⟩) (fun vsrc1 i σ' H' hP => by obtain ⟨found_18, o19, o20, he, hg, hs, hS⟩ := hP; exact hS.im.1) (fun vsrc1 i25 x26 wx26 σ' Hs24 hi28 hP hx27 => ?_) (fun vsrc1 σ' Hs24 hP => ?_)
      · obtain ⟨found_18, o19, o20, he22, hg23, rfl, s24⟩ := hP
        obtain ⟨l34, u30, u31, rfl, st35, d32, d33⟩ := Dt.pair (p := x26) hx27
        have zd32 := Dt.int d32
        subst zd32
        have zd33 := Dt.int d33
        subst zd33
        refine ⟨_, _, rfl, ex_t msk_le st35, rfl, _, _, rfl, _, _, rfl, rfl, ?_⟩
        have hgi := given_in _ _ _ (List.mem_of_getElem? hi28)
        try dsimp only at hgi
        refine z_setG s24 (kk := 0) rfl (hv_max2 (hv_at 0 (hs_mut s24 (k := 0) rfl rfl) (hv_vI rfl) (by first | omega | decide +kernel | (simp only [List.length_cons, List.length_nil]; omega)) (by first | omega | decide +kernel | (simp only [List.length_cons, List.length_nil]; omega))) (hv_vI rfl)) (ev_var rfl) (hv_vI rfl) (by first | omega | decide +kernel | (simp only [List.length_cons, List.length_nil]; omega)) (by first | omega | decide +kernel | (simp only [List.length_cons, List.length_nil]; omega)) fun found_37 hfound_37 Hs36 s36 => ?_
        try dsimp only at hfound_37
        have lfound_37 : found_37.length = found_18.length := by rw [hfound_37, List.length_set]
        have s36 : Sg K Mc _ _ _ [(ps3, .lst (List.map Datum.toD found_37))] := s36
        have hf38 : m_levels_l1 found_18 x26 = found_37 := (by subst hfound_37; subst hfound_4; subst hdotted_2; first | (simp only [m_levels_l1, if_true, if_false, Bool.false_eq_true, decide_true, decide_false, Option.getD_some, Option.isNone_none, Option.isNone_some, Bool.not_true, Bool.not_false, ↓reduceIte]; done) | (rfl; done))
        exact ⟨found_37, _, _, he22.trans ((foldl_step hi28).trans (by rw [hf38])), (by first | trivial | omega | (simp_all; done) | (simp_all; omega)), rfl, s36.keep fun _ h => ⟨h.1, ⟨h.2.1, ⟨h.2.2.1, True.intro⟩⟩⟩⟩
      · obtain ⟨found_39, o40, o41, he43, hg44, rfl, s42⟩ := hP
        rw [foldl_end] at he43
        have hf45 : (m_levels_l0 dotted_2) found_5 x14 = found_39 := (by subst hfound_4; subst hdotted_2; first | (simp only [m_levels_l0, he43, if_true, if_false, Bool.false_eq_true, decide_true, decide_false, Option.getD_some, Option.isNone_none, Option.isNone_some, Bool.not_true, Bool.not_false, ↓reduceIte]; done) | (rfl; done))
        exact ⟨found_39, _, _, _, he10.trans ((foldl_step hi16).trans (by rw [hf45])), (by first | trivial | omega | (simp_all; done) | (simp_all; omega)), rfl, s42.keep fun _ h => ⟨h.2.1, ⟨h.2.2.1, True.intro⟩⟩⟩
    · obtain ⟨found_46, o47, o48, o49, he51, hg52, rfl, s50⟩ := hP
      rw [foldl_end] at he51
      have s53 := Sg.frz (xs := found_46) s50
      have hF54 : m_levels entries_ word_ = (cutL found_46 (some (2 : Int)) (some (-2 : Int))) := (by subst hfound_4; subst hdotted_2; first | (simp only [m_levels, he51, if_true, if_false, Bool.false_eq_true, decide_true, decide_false, Option.getD_some, Option.isNone_none, Option.isNone_some, Bool.not_true, Bool.not_false, ↓reduceIte]; done) | (rfl; done))
      exact zq_ret s53 (hv_slice (hs_of (hv_var (x := found_46) rfl s53.im.1)) (ho_some (K := K) (hv_int 2)) (ho_some (K := K) (hv_neg (hv_int 2)))) fun v H' e d => q v H' e (by rw [hF54]; exact d)
def m_law_l0 (actual_ : (List Int)) (expected_ : (List Int)) (s_ : Unit) (x_ : Int) : Lp Bool (Unit) :=
  let k_ : Int := x_
  if (!decide ((actual_.getD (Int.toNat k_) 0) = (expected_.getD (Int.toNat k_) 0))) = true then
    Lp.ret false
  else
    Lp.nxt ()
def m_law (script_ : (List Int)) : Bool :=
  let word_ : PySem.Str := (m_law_word (m_law_cell script_ (1 : Int)) ((1 : Int) + ((m_law_cell script_ (0 : Int)) % (24 : Int))))
  let entries_ : (List PySem.Str) := (List.map (fun (c_ : Int) => (m_law_entry (m_law_cell script_ ((3 : Int) + c_)))) (irng (0 : Int) (Int.toNat ((m_law_cell script_ (2 : Int)) % (13 : Int)))))
  let passed_ : (List PySem.Str) := entries_
  let actual_ : (List Int) := (m_levels passed_ word_)
  if (!decide (passed_ = entries_)) = true then
    false
  else
    let expected_ : (List Int) := (m_law_expected entries_ word_)
    if ((!decide (((actual_).length : Int) = (((Str.length word_ : Nat) : Int) - (1 : Int)))) || (!decide (((expected_).length : Int) = (((Str.length word_ : Nat) : Int) - (1 : Int))))) = true then
      false
    else
      match (loopNR (m_law_l0 actual_ expected_) (Int.toNat ((actual_).length : Int)) (0 : Int) () : Bool ⊕ (Unit)) with
      | .inl rr_ => rr_
      | .inr r0_ =>
        true
abbrev s_law : Stmt := topS 12
theorem sc_law : FnScope ["script", "word", "entries", "k", "passed", "actual", "expected"] ["script"] (defScope s_law) := ⟨rfl, rfl, rfl, by decide +kernel, rfl, by decide +kernel, by decide +kernel⟩
abbrev sp_law (K : PySem.W.Frag) : Sp := PrD K (fun c : (List Int) => [Datum.toD c]) (fun c => True) (fun c => (m_law c : Bool))
theorem ok_law (T : Txt K mg) : FnOk P w K mg base CX0 4 T.f_law T.d_law ["script"] (sp_law K) := by
  refine T.u_law.ok sc_law (fun vs H Q E h => ?_) (fun cdv A outer s H vs Q E hr h => ?_)
  · obtain ⟨Mc, c, mok, da, pre, q⟩ := h
    exact (dpa_len da)
  · obtain ⟨Mc, c, mok, da, pre, q⟩ := h
    obtain ⟨script_, rfl⟩ : ∃ z, z = c := ⟨c, rfl⟩
    dsimp only at da pre q
    obtain ⟨v0, w0, rfl, d0, da0⟩ := dpa_inv da
    cases dpa_inv0 da0
    have s0 : Sg K Mc H H [(v0, Datum.toD script_)] [] := Sg.enter mok ⟨d0, True.intro⟩
    refine ⟨_, (pss_cons (ps_set (i := 1) sc_law.nd rfl (.inl rfl) (pe_call (ok_law_word T) (hr.mono (by decide)) (by rfl) T.g_law_word T.u_law_word.kp T.b_law_word .nil pass0 (pa_cons (pe_call (ok_law_cell T) (hr.mono (by decide)) (by rfl) T.g_law_cell T.u_law_cell.kp T.b_law_cell .nil pass0 (pa_cons (pv 0) (pa_cons pe_int pa_nil))) (pa_cons (pe_op op_add pe_int (pe_op op_mod (pe_call (ok_law_cell T) (hr.mono (by decide)) (by rfl) T.g_law_cell T.u_law_cell.kp T.b_law_cell .nil pass0 (pa_cons (pv 0) (pa_cons pe_int pa_nil))) pe_int)) pa_nil)))) (pss_cons (ps_setLc (i := 2) rfl sc_law.nd rfl rfl (sw_true rfl rfl rfl (by decide +kernel)) (own := [("k", 3)]) (g := gName 3) (pi_range1 (by rfl) T.n_range (pa_cons (pe_op op_mod (pe_call (ok_law_cell T) (hr.mono (by decide)) (by rfl) T.g_law_cell T.u_law_cell.kp T.b_law_cell .nil pass0 (pa_cons (pv 0) (pa_cons pe_int pa_nil))) pe_int) pa_nil)) (blkOk_by (own := [("k", 3)]) (N := ["script", "word", "entries", "k", "passed", "actual", "expected"]) (sc := defScope s_law) (by decide +kernel)) (fun _ _ _ _ _ => (pg_name (i := 3) sc_law.nd rfl (Or.inl rfl) (.inr (by rfl)))) (fun _ _ _ _ _ => pts_nil) (fun _ _ _ _ _ => (pe_call (ok_law_entry T) (hr.mono (by decide)) (by rfl) T.g_law_entry T.u_law_entry.kp T.b_law_entry .nil pass0 (pa_cons (pe_call (ok_law_cell T) (hr.mono (by decide)) (by rfl) T.g_law_cell T.u_law_cell.kp T.b_law_cell .nil pass0 (pa_cons (pv 0) (pa_cons (pe_op op_add pe_int (pv 3)) pa_nil))) pa_nil)))) (pss_cons (ps_set (i := 4) sc_law.nd rfl (.inl rfl) (pe_callTy call_list_of (by rfl) T.n_list (by decide +kernel) (pa_cons (pv 2) pa_nil))) (pss_cons (ps_set (i := 5) sc_law.nd rfl (.inl rfl) (pe_call (ok_levels T) hr (by rfl) T.g_levels T.u_levels.kp T.b_levels .nil pass0 (pa_cons (pv 4) (pa_cons (pv 1) pa_nil)))) (pss_cons (ps_if (PW.pt (pw_or (pt_cmpR (op_neT (α := (List PySem.Str)) (hud hr (by decide +kernel))) (pv 4) (pv 2) (nomark _)) (pw_or1 (pt_not (pt_val (pe_callB call_isi (by rfl) T.n_isinstance (by decide +kernel) (pa_cons (pv 5) (pa_cons (pe_bltn (v := .ty "list") (by rfl) T.n_list (by decide +kernel) rfl) pa_nil)))))))) (pss_cons (ps_ret pe_bl) pss_nil) pss_nil) (pss_cons (ps_set (i := 6) sc_law.nd rfl (.inl rfl) (pe_call (ok_law_expected T) (hr.mono (by decide)) (by rfl) T.g_law_expected T.u_law_expected.kp T.b_law_expected .nil pass0 (pa_cons (pv 2) (pa_cons (pv 1) pa_nil)))) (pss_cons (ps_if (PW.pt (pw_or (pt_cmpR op_ne (pe_callB call_len (by rfl) T.n_len (by decide +kernel) (pa_cons (pv 5) pa_nil)) (pe_op op_sub (pe_callB call_len (by rfl) T.n_len (by decide +kernel) (pa_cons (pv 1) pa_nil)) pe_int) (nomark _)) (pw_or1 (pt_cmpR op_ne (pe_callB call_len (by rfl) T.n_len (by decide +kernel) (pa_cons (pv 6) pa_nil)) (pe_op op_sub (pe_callB call_len (by rfl) T.n_len (by decide +kernel) (pa_cons (pv 1) pa_nil)) pe_int) (nomark _))))) (pss_cons (ps_ret pe_bl) pss_nil) pss_nil) (pss_cons (ps_for PassesOwn.never rfl (pi_range1 (by rfl) T.n_range (pa_cons (pe_callB call_len (by rfl) T.n_len (by decide +kernel) (pa_cons (pv 5) pa_nil)) pa_nil)) (pg_name (i := 3) sc_law.nd rfl (.inl rfl)) (pss_cons (ps_if (PW.pt (pw_or (pt_not (pt_val (pe_callB call_isi (by rfl) T.n_isinstance (by decide +kernel) (pa_cons (pe_ix ix_list (pv 5) (pv 3) (fun _ _ => rfl)) (pa_cons (pe_bltn (v := .ty "int") (by rfl) T.n_int (by decide +kernel) rfl) pa_nil))))) (pw_or (pt_val (pe_callB call_isi (by rfl) T.n_isinstance (by decide +kernel) (pa_cons (pe_ix ix_list (pv 5) (pv 3) (fun _ _ => rfl)) (pa_cons (pe_bltn (v := .ty "bool") (by rfl) T.n_bool (by decide +kernel) rfl) pa_nil)))) (pw_or1 (pt_cmpR op_ne (pe_ix ix_list (pv 5) (pv 3) (fun _ _ => rfl)) (pe_ix ix_list (pv 6) (pv 3) (fun _ _ => rfl)) (nomark _)))))) (pss_cons (ps_ret pe_bl) pss_nil) pss_nil) pss_nil)) (pss_cons (ps_ret pe_bl) pss_nil))))))))), ?_⟩
    refine z_asgSG s0 (hv_call ((m_law_cell script_ (1 : Int)), ((1 : Int) + ((m_law_cell script_ (0 : Int)) % (24 : Int)))) (hd_cons (hv_call (script_, (1 : Int)) (hd_cons (hv_var (x := script_) rfl s0.im.1) (hd_cons (hv_int 1) hd_nil)) (by first | omega | (subst_vars; omega) | decide +kernel)) (hd_cons (hv_add (hv_int 1) (hv_mod (hv_call (script_, (0 : Int)) (hd_cons (hv_var (x := script_) rfl s0.im.1) (hd_cons (hv_int 0) hd_nil)) (by first | omega | (subst_vars; omega) | decide +kernel)) (hv_int 24) (by first | omega | decide +kernel | (simp only [List.length_cons, List.length_nil]; omega)))) hd_nil)) (by first | omega | (subst_vars; omega) | decide +kernel)) fun word_2 hword_2 Hs1 s1 => ?_
    try dsimp only at hword_2
    have lword : word_2.length ≤ 24 := by rw [hword_2]; exact word_len _ _ ⟨by omega, by omega⟩
    refine z_asgG s1 (hv_lcR0 s1 (fun (c_ : Int) => (m_law_entry (m_law_cell script_ ((3 : Int) + c_)))) (hv_mod (hv_call (script_, (2 : Int)) (hd_cons (hv_var (x := script_) rfl s1.im.1) (hd_cons (hv_int 2) hd_nil)) (by first | omega | (subst_vars; omega) | decide +kernel)) (hv_int 13) (by first | omega | decide +kernel | (simp only [List.length_cons, List.length_nil]; omega))) (by first | omega | decide +kernel | (simp only [List.length_cons, List.length_nil]; omega)) (fun D6 c7 ys9 Hs5 s5 hx11 Q k => by exact k _ rfl (hv_call (m_law_cell script_ ((3 : Int) + c7)) (hd_cons (hv_call (script_, ((3 : Int) + c7)) (hd_cons (hv_var (x := script_) rfl s5.im.1) (hd_cons (hv_add (hv_int 3) (hv_vI rfl)) hd_nil)) (by first | omega | (subst_vars; omega) | decide +kernel)) hd_nil) True.intro))) fun entries_4 hentries_4 ventries_4 Hs3 s3 => ?_
    try dsimp only at hentries_4
    have lent : entries_4.length ≤ 20 ∧ ∀ e ∈ entries_4, e.length ≤ 20 := by rw [hentries_4]; refine ⟨by rw [List.length_map, irng_len]; omega, fun e he => ?_⟩; obtain ⟨c, _, rfl⟩ := List.mem_map.mp he; exact Nat.le_trans (entry_len _) (by decide)
    refine z_asgG s3 (hv_listOf (hs_of (hv_var (x := entries_4) rfl s3.im.1))) fun passed_14 hpassed_14 vpassed_14 Hs13 s13 => ?_
    try dsimp only at hpassed_14
    have lpas : passed_14.length ≤ 20 ∧ ∀ e ∈ passed_14, e.length ≤ 20 := by rw [hpassed_14]; exact lent
    refine z_asgG s13 (hv_call (passed_14, word_2) (hd_cons (hv_var (x := passed_14) rfl s13.im.1) (hd_cons (hv_vS rfl) hd_nil)) (by exact ⟨lword, lpas.1, lpas.2⟩)) fun actual_16 hactual_16 vactual_16 Hs15 s15 => ?_
    try dsimp only at hactual_16
    refine z_ifx (b := (!decide (passed_14 = entries_4))) s15 (HT.is (ht_or (ht_val (K := K) (hv_neT (hv_whole s15 (hv_var (x := passed_14) rfl s15.im.2.1)) (hv_whole s15 (hv_var (x := entries_4) rfl s15.im.2.2.1)))) (fun hb0 => (HT.is (ht_not (ht_B (K := K) (hv_isi (b := true) (hv_var (x := actual_16) rfl s15.im.1) (by decide +kernel)))) (show _ = false by first | rfl | decide | simp)))) (show _ = (!decide (passed_14 = entries_4)) by first | rfl | decide | simp)) (fun hb17 Hs18 s18 => ?_) (fun hb17 Hs19 s19 => ?_)
    · have hb17P := hb17
      try simp only [decide_eq_true_eq, decide_eq_false_iff_not, Bool.not_eq_true', Bool.not_eq_false', Bool.and_eq_true, Bool.or_eq_true, Bool.or_eq_false_iff] at hb17P
      have hF20 : m_law script_ = false := (by subst hactual_16; subst hpassed_14; subst hentries_4; subst hword_2; first | (simp only [m_law, hb17, if_true, if_false, Bool.false_eq_true, decide_true, decide_false, Option.getD_some, Option.isNone_none, Option.isNone_some, Bool.not_true, Bool.not_false, ↓reduceIte]; done) | (rfl; done) | (exfalso; simp at hb17; done))
      exact zq_ret s18 (hv_bl false) fun v H' e d => q v H' e (by rw [hF20]; exact d)
    · have hb17P := hb17
      try simp only [decide_eq_true_eq, decide_eq_false_iff_not, Bool.not_eq_true', Bool.not_eq_false', Bool.and_eq_true, Bool.or_eq_true, Bool.or_eq_false_iff] at hb17P
      refine z_asgG s19 (hv_call (entries_4, word_2) (hd_cons (hv_var (x := entries_4) rfl s19.im.2.2.1) (hd_cons (hv_vS rfl) hd_nil)) (by exact ⟨lword, lent⟩)) fun expected_22 hexpected_22 vexpected_22 Hs21 s21 => ?_
      try dsimp only at hexpected_22
      refine z_ifx (b := ((!decide (((actual_16).length : Int) = (((Str.length word_2 : Nat) : Int) - (1 : Int)))) || (!decide (((expected_22).length : Int) = (((Str.length word_2 : Nat) : Int) - (1 : Int)))))) s21 (ht_or (ht_val (K := K) (hv_neI (hv_len (hs_of (hv_var (x := actual_16) rfl s21.im.2.1))) (hv_sub (hv_lenS (hv_vS rfl) (by have := l_dot; have := l_emp; have := l_abcB; first | omega | (simp only [str_len_app, mulS_len, strAt_len]; omega))) (hv_int 1)))) (fun hb0 => (ht_val (K := K) (hv_neI (hv_len (hs_of (hv_var (x := expected_22) rfl s21.im.1))) (hv_sub (hv_lenS (hv_vS rfl) (by have := l_dot; have := l_emp; have := l_abcB; first | omega | (simp only [str_len_app, mulS_len, strAt_len]; omega))) (hv_int 1)))))) (fun hb23 Hs24 s24 => ?_) (fun hb23 Hs25 s25 => ?_)
      · have hb23P := hb23
        try simp only [decide_eq_true_eq, decide_eq_false_iff_not, Bool.not_eq_true', Bool.not_eq_false', Bool.and_eq_true, Bool.or_eq_true, Bool.or_eq_false_iff] at hb23P
        have hF26 : m_law script_ = false := (by subst hexpected_22; subst hactual_16; subst hpassed_14; subst hentries_4; subst hword_2; first | (simp only [m_law, hb17, hb23, if_true, if_false, Bool.false_eq_true, decide_true, decide_false, Option.getD_some, Option.isNone_none, Option.isNone_some, Bool.not_true, Bool.not_false, ↓reduceIte]; done) | (rfl; done) | (exfalso; simp at hb23; done) | (exfalso; simp at hb17; done))
        exact zq_ret s24 (hv_bl false) fun v H' e d => q v H' e (by rw [hF26]; exact d)
      · have hb23P := hb23
        try simp only [decide_eq_true_eq, decide_eq_false_iff_not, Bool.not_eq_true', Bool.not_eq_false', Bool.and_eq_true, Bool.or_eq_true, Bool.or_eq_false_iff] at hb23P
        refine zq_forR1G s25 (hv_len (hs_of (hv_var (x := actual_16) rfl s25.im.2.1))) (by first | omega | decide +kernel | (simp only [List.length_cons, List.length_nil]; omega)) (fun i σ' H' => ∃ (o27 : Option V), (loopNR (m_law_l0 actual_16 expected_22) (Int.toNat ((actual_16).length : Int)) (0 : Int) () : Bool ⊕ (Unit)) = (loopNR (m_law_l0 actual_16 expected_22) ((Int.toNat ((actual_16).length : Int)) - i) ((0 : Int) + (i : Int)) () : Bool ⊕ (Unit)) ∧ True ∧ σ' = [some v0, some (V.str word_2), some ventries_4, o27, some vpassed_14, some vactual_16, some vexpected_22] ∧ Sg K Mc H H' [(vexpected_22, Datum.toD expected_22), (vactual_16, Datum.toD actual_16), (vpassed_14, Datum.toD passed_14), (ventries_4, Datum.toD entries_4), (v0, Datum.toD script_)] []) (fun Hs28 s28 => ⟨_, (by simp), (by first | trivial | omega | (simp; done) | simp_all), rfl, s28.keep fun _ h => ⟨h.1, ⟨h.2.1, ⟨h.2.2.1, ⟨h.2.2.2.1, ⟨h.2.2.2.2.1, True.intro⟩⟩⟩⟩⟩⟩) (fun i32 x33 σ' Hs31 hx34 hi35 hP => ?_) (fun σ' Hs31 hP => ?_)
        · obtain ⟨o27, he29, hg30, rfl, s31⟩ := hP
          refine z_ifx (b := (!decide ((actual_16.getD (Int.toNat x33) 0) = (expected_22.getD (Int.toNat x33) 0)))) s31 (HT.is (ht_or (HT.is (ht_not (ht_B (K := K) (hv_isi (b := true) (hv_at 0 (hs_of (hv_var (x := actual_16) rfl s31.im.2.1)) (hv_vI rfl) (by first | omega | decide +kernel | (simp only [List.length_cons, List.length_nil]; omega)) (by first | omega | decide +kernel | (simp only [List.length_cons, List.length_nil]; omega))) (by decide +kernel)))) (show _ = false by first | rfl | decide | simp)) (fun hb0 => (ht_or (ht_B (K := K) (hv_isi (b := false) (hv_at 0 (hs_of (hv_var (x := actual_16) rfl s31.im.2.1)) (hv_vI rfl) (by first | omega | decide +kernel | (simp only [List.length_cons, List.length_nil]; omega)) (by first | omega | decide +kernel | (simp only [List.length_cons, List.length_nil]; omega))) (by decide +kernel))) (fun hb1 => (ht_val (K := K) (hv_neI (hv_at 0 (hs_of (hv_var (x := actual_16) rfl s31.im.2.1)) (hv_vI rfl) (by first | omega | decide +kernel | (simp only [List.length_cons, List.length_nil]; omega)) (by first | omega | decide +kernel | (simp only [List.length_cons, List.length_nil]; omega))) (hv_at 0 (hs_of (hv_var (x := expected_22) rfl s31.im.1)) (hv_vI rfl) (by first | omega | decide +kernel | (simp only [List.length_cons, List.length_nil]; omega)) (by first | omega | decide +kernel | (simp only [List.length_cons, List.length_nil]; omega))))))))) (show _ = (!decide ((actual_16.getD (Int.toNat x33) 0) = (expected_22.getD (Int.toNat x33) 0))) by first | rfl | decide | simp)) (fun hb37 Hs38 s38 => ?_) (fun hb37 Hs39 s39 => ?_)
          · have hb37P := hb37
            try simp only [decide_eq_true_eq, decide_eq_false_iff_not, Bool.not_eq_true', Bool.not_eq_false', Bool.and_eq_true, Bool.or_eq_true, Bool.or_eq_false_iff] at hb37P
            have hf40 : (m_law_l0 actual_16 expected_22) () x33 = Lp.ret false := (by subst hexpected_22; subst hactual_16; subst hpassed_14; subst hentries_4; subst hword_2; first | (simp only [m_law_l0, hb17, hb23, hb37, if_true, if_false, Bool.false_eq_true, decide_true, decide_false, Option.getD_some, Option.isNone_none, Option.isNone_some, Bool.not_true, Bool.not_false, ↓reduceIte]; done) | (rfl; done) | (exfalso; simp at hb37; done) | (exfalso; simp at hb23; done) | (exfalso; simp at hb17; done))
            have hl41 := he29.trans (loopNR_ret hi35 (by rw [← hx34]; exact hf40))
            have hF42 : m_law script_ = false := (by subst hexpected_22; subst hactual_16; subst hpassed_14; subst hentries_4; subst hword_2; first | (simp only [m_law, hb17, hb23, hb37, hl41, if_true, if_false, Bool.false_eq_true, decide_true, decide_false, Option.getD_some, Option.isNone_none, Option.isNone_some, Bool.not_true, Bool.not_false, ↓reduceIte]; done) | (rfl; done) | (exfalso; simp at hb37; done) | (exfalso; simp at hb23; done) | (exfalso; simp at hb17; done))
            exact zq_ret s38 (hv_bl false) fun v H' e d => q v H' e (by rw [hF42]; exact d)
          · have hb37P := hb37
            try simp only [decide_eq_true_eq, decide_eq_false_iff_not, Bool.not_eq_true', Bool.not_eq_false', Bool.and_eq_true, Bool.or_eq_true, Bool.or_eq_false_iff] at hb37P
            have hf43 : (m_law_l0 actual_16 expected_22) () x33 = Lp.nxt () := (by subst hexpected_22; subst hactual_16; subst hpassed_14; subst hentries_4; subst hword_2; first | (simp only [m_law_l0, hb17, hb23, hb37, if_true, if_false, Bool.false_eq_true, decide_true, decide_false, Option.getD_some, Option.isNone_none, Option.isNone_some, Bool.not_true, Bool.not_false, ↓reduceIte]; done) | (rfl; done) | (exfalso; simp at hb37; done) | (exfalso; simp at hb23; done) | (exfalso; simp at hb17; done))
            exact ⟨_, he29.trans (loopNR_nxt hi35 (by rw [← hx34]; exact hf43)), (by first | trivial | omega | (simp_all; done) | (simp_all; omega)), rfl, s39.keep fun _ h => ⟨h.1, ⟨h.2.1, ⟨h.2.2.1, ⟨h.2.2.2.1, ⟨h.2.2.2.2.1, True.intro⟩⟩⟩⟩⟩⟩
        · obtain ⟨o44, he46, hg47, rfl, s45⟩ := hP
          rw [loopNR_end] at he46
          have hF48 : m_law script_ = true := (by subst hexpected_22; subst hactual_16; subst hpassed_14; subst hentries_4; subst hword_2; first | (simp only [m_law, hb17, hb23, he46, if_true, if_false, Bool.false_eq_true, decide_true, decide_false, Option.getD_some, Option.isNone_none, Option.isNone_some, Bool.not_true, Bool.not_false, ↓reduceIte]; done) | (rfl; done) | (exfalso; simp at hb23; done) | (exfalso; simp at hb17; done))
          exact zq_ret s45 (hv_bl true) fun v H' e d => q v H' e (by rw [hF48]; exact d)
end
def NN (s : List Int) : Prop := ∀ x ∈ s, (0 : Int) ≤ x
theorem l1_nn (s : List Int) (x : Int × Int) (h : NN s) : NN (m_levels_l1 s x) := by
  intro y hy
  unfold m_levels_l1 at hy
  dsimp only at hy
  rcases List.mem_or_eq_of_mem_set hy with hy | hy
  · exact h y hy
  · have := getD_nonneg h (Int.toNat x.1)
    rw [hy]; omega
theorem l1_len (s : List Int) (x : Int × Int) : (m_levels_l1 s x).length = s.length := by
  unfold m_levels_l1
  exact List.length_set
theorem l0_nn (d : PySem.Str) (s : List Int) (e : PySem.Str) (h : NN s) : NN (m_levels_l0 d s e) := by
  unfold m_levels_l0
  dsimp only
  exact foldl_inv NN _ s (fun s x _ h => l1_nn s x h) h
theorem l0_len (d : PySem.Str) (s : List Int) (e : PySem.Str) : (m_levels_l0 d s e).length = s.length := by
  unfold m_levels_l0
  dsimp only
  exact foldl_inv (fun t => t.length = s.length) _ s (fun t x _ h => (l1_len t x).trans h) rfl
/-- what adds no level changes nothing -/
theorem l0_zero (d : PySem.Str) (s : List Int) (e : PySem.Str) (h : NN s) (hz : ∀ m ∈ (m_split_pattern e).2, m = 0) : m_levels_l0 d s e = s := by
  unfold m_levels_l0
  dsimp only
  refine foldl_inv (fun t => t = s) _ s (fun t x hx ht => ?_) rfl
  have h0 := hz _ (given_from e d hx).2.2
  rw [ht]
  unfold m_levels_l1
  dsimp only
  refine set_same ?_
  have := getD_nonneg h (Int.toNat x.1)
  rw [h0]
  omega
theorem zero_of {e : PySem.Str} (h : e = PySem.Str.ofString "ab-ca" ∨ e = PySem.Str.ofString "abc" ∨ e = PySem.Str.ofString "a") : ∀ m ∈ (m_split_pattern e).2, m = 0 := by
  rcases h with h | h | h <;> (subst h; decide +kernel)
/-- the law's turn over one entry -/
theorem l0_pat (d : PySem.Str) (s : List Int) (e : PySem.Str) :
    loopN (m_law_expected_l1 (m_split_pattern e).1 d (m_split_pattern e).2) (Int.toNat ((((Str.length d : Nat) : Int) - ((Str.length (m_split_pattern e).1 : Nat) : Int)) + (1 : Int))) (0 : Int) s = m_levels_l0 d s e := by
  unfold m_levels_l0
  dsimp only
  rw [given_eq]
  generalize hc : (m_split_pattern e).1 = c
  generalize hm : (m_split_pattern e).2 = m
  generalize hn : (Int.toNat ((((Str.length d : Nat) : Int) - ((Str.length c : Nat) : Int)) + (1 : Int))) = n
  have e1 : gl (occ d c) (blkOf m) 0 (d.length + 1) = gl (occ d c) (blkOf m) 0 n := by
    rw [show d.length + 1 = n + (d.length + 1 - n) by omega, gl_split, gl_none (d.length + 1 - n) (0 + n) fun v h1 h2 => occ_no fun hat => by
      have := hat.1
      omega, List.append_nil]
  rw [e1]
  symm
  refine foldl_gl (f := m_levels_l1) (g := m_law_expected_l1 c d m) n 0 s fun v s h1 h2 => ?_
  unfold m_law_expected_l1
  dsimp only
  rw [cut_occ (by omega)]
  by_cases q : occ d c v = true
  · rw [if_pos q, if_pos q, Int.toNat_natCast]
    have k := loopN_enum (g := fun (b : List Int) (x : Int) (y : Int) => List.set b (Int.toNat ((v : Int) + x)) (max (b.getD (Int.toNat ((v : Int) + x)) 0) y)) (d := (0 : Int)) (xs := m) m.length 0 s (by omega)
    rw [List.drop_zero] at k
    refine Eq.trans (show _ = _ from k) ?_
    unfold blkOf
    rw [List.foldl_map]
    rfl
  · rw [if_neg q, if_neg q]
theorem l0_law (d : PySem.Str) (s : List Int) (e : PySem.Str) (h : NN s) (he : e = PySem.Str.ofString "ab-ca" ∨ NoDash e) : m_law_expected_l0 d s e = m_levels_l0 d s e := by
  unfold m_law_expected_l0
  dsimp only
  rw [pat_eq, l0_pat]
  split
  · rfl
  · rename_i q
    symm
    refine l0_zero d s e h (zero_of ?_)
    rcases he with he | he
    · exact Or.inl he
    · right
      have e1 : inStr (PySem.Str.ofString "-") e = false := by
        have e2 : PySem.Str.ofString "-" = ⟨#[45]⟩ := by decide +kernel
        rw [e2, inStr_one]
        exact decide_eq_false he
      rw [e1] at q
      by_cases q1 : e = PySem.Str.ofString "abc"
      · exact Or.inl q1
      · by_cases q2 : e = PySem.Str.ofString "a"
        · exact Or.inr q2
        · simp [q1, q2] at q
theorem run_law (d : PySem.Str) : ∀ (es : List PySem.Str) (s : List Int), NN s → (∀ e ∈ es, e = PySem.Str.ofString "ab-ca" ∨ NoDash e) → List.foldl (m_law_expected_l0 d) s es = List.foldl (m_levels_l0 d) s es
  | [], s, _, _ => rfl
  | e :: es, s, h, he => by
    rw [List.foldl_cons, List.foldl_cons, l0_law d s e h (he e List.mem_cons_self)]
    exact run_law d es _ (l0_nn d s e h) fun x hx => he x (List.mem_cons_of_mem _ hx)
theorem lower_len {w : PySem.Str} (h : Abc w) : (Txt.lower w).length = w.length := by
  have k := cps_lower (s := w) (fun c hc => by have := h c hc; omega)
  rw [len_cps, len_cps, k, List.length_map]
theorem levels_ok {es : List PySem.Str} {w : PySem.Str} (hw : Abc w) (h1 : 1 ≤ w.length) (he : ∀ e ∈ es, e = PySem.Str.ofString "ab-ca" ∨ NoDash e) :
    m_law_expected es w = m_levels es w ∧ ((m_levels es w).length : Int) = (w.length : Int) - 1 := by
  unfold m_law_expected m_levels
  dsimp only
  generalize hd : (((PySem.Str.ofString ".") ++ (Txt.lower w)) ++ (PySem.Str.ofString ".")) = d
  have ld : d.length = w.length + 2 := by
    rw [← hd, str_len_app, str_len_app, lower_len hw, l_dot]
    omega
  rw [zeros_eq, Int.toNat_natCast_add_one] <;> try skip
  have hz : NN ((irng 0 (d.length + 1)).map fun _ => (0 : Int)) := fun x hx => by
    obtain ⟨_, _, rfl⟩ := List.mem_map.mp hx
    exact Int.le_refl 0
  rw [run_law d es _ hz he]
  have hl : (List.foldl (m_levels_l0 d) ((irng 0 (d.length + 1)).map fun _ => (0 : Int)) es).length = d.length + 1 :=
    foldl_inv (fun t => t.length = d.length + 1) es _ (fun t x _ h => (l0_len d t x).trans h) (by rw [List.length_map, irng_len])
  generalize (List.foldl (m_levels_l0 d) ((irng 0 (d.length + 1)).map fun _ => (0 : Int)) es) = f at hl
  have e1 : cutL f (some (2 : Int)) (some (((Str.length w : Nat) : Int) + (1 : Int))) = (f.drop 2).take (w.length - 1) := by
    have k := cutL_in (xs := f) (a := 2) (b := w.length + 1)
    rw [show min 2 f.length = 2 by omega, show min (w.length + 1) f.length - 2 = w.length - 1 by omega] at k
    exact k
  have e2 : cutL f (some (2 : Int)) (some (-2 : Int)) = (f.drop 2).take (w.length - 1) := by
    unfold cutL
    have a1 : HT.sIx f.length 0 (some (2 : Int)) = 2 := by
      have := HT.sIx_nat f.length 0 2
      rw [show min 2 f.length = 2 by omega] at this
      exact this
    have a2 : HT.sIx f.length f.length (some (-2 : Int)) = w.length + 1 := by
      show (if (-2 : Int) < 0 then ((-2 : Int) + (f.length : Int)).toNat else min (-2 : Int).toNat f.length) = _
      rw [if_pos (by decide)]
      omega
    rw [a1, a2, show w.length + 1 - 2 = w.length - 1 by omega]
  rw [e1, e2]
  refine ⟨rfl, ?_⟩
  rw [List.length_take, List.length_drop]
  omega
theorem law_true (ns : List Int) (_ : ns.length ≤ 63) : m_law ns = true := by
  unfold m_law
  dsimp only
  have hb : 1 ≤ (1 : Int) + ((m_law_cell ns (0 : Int)) % (24 : Int)) ∧ (1 : Int) + ((m_law_cell ns (0 : Int)) % (24 : Int)) ≤ 24 := by omega
  have hw := word_ok (m_law_cell ns (1 : Int)) _ hb
  generalize (m_law_word (m_law_cell ns (1 : Int)) ((1 : Int) + ((m_law_cell ns (0 : Int)) % (24 : Int)))) = w at hw
  have k := levels_ok (es := (List.map (fun (c_ : Int) => (m_law_entry (m_law_cell ns ((3 : Int) + c_)))) (irng (0 : Int) (Int.toNat ((m_law_cell ns (2 : Int)) % (13 : Int)))))) hw.1 (by omega) (fun e he => by
    obtain ⟨c, _, rfl⟩ := List.mem_map.mp he
    exact (entry_ok _).1)
  rw [k.1]
  generalize (List.map (fun (c_ : Int) => (m_law_entry (m_law_cell ns ((3 : Int) + c_)))) (irng (0 : Int) (Int.toNat ((m_law_cell ns (2 : Int)) % (13 : Int))))) = es at k
  rw [show (!decide (es = es)) = false by simp, if_neg Bool.false_ne_true, k.2]
  rw [show ((!decide (((w.length : Int) - 1) = ((w.length : Int) - 1))) || (!decide (((w.length : Int) - 1) = ((w.length : Int) - 1)))) = false by simp, if_neg Bool.false_ne_true]
  rw [loopNR_all fun s k => by unfold m_law_l0; dsimp only; rw [if_neg (by simp)]]

theorem all_mk {w : World} {K : PySem.W.Frag} {h : Heap} {mg : Str → Option Value} {fa : Addr} (X : K.In h) (G : h.Ns mainGlobals mg) (hfa : mg "law" = some (.ref fa))
    {f_levels : Addr} {od_levels an_levels : Option Addr} {sl_levels : Array (Option Value)} {oc_levels kV_levels dc_levels pm_levels cd_levels ct_levels : Value}
    (a_levels : PySem.W.nsIn K mainGlobals "levels" = some (some (.ref f_levels))) (l_levels : K.lookup f_levels = some ⟨oc_levels, od_levels, .func (PySem.W.fnOf "levels" "levels" (defArgs (topS 2)) (defBody (topS 2)) (defScope (topS 2)) .none kV_levels dc_levels pm_levels an_levels cd_levels ct_levels), sl_levels⟩) (c_levels : PySem.W.codeIn K cd_levels "levels" = true) (k_levels : PySem.W.keepIn K (.ref f_levels) = true)
    {f_given_levels : Addr} {od_given_levels an_given_levels : Option Addr} {sl_given_levels : Array (Option Value)} {oc_given_levels kV_given_levels dc_given_levels pm_given_levels cd_given_levels ct_given_levels : Value}
    (a_given_levels : PySem.W.nsIn K mainGlobals "given_levels" = some (some (.ref f_given_levels))) (l_given_levels : K.lookup f_given_levels = some ⟨oc_given_levels, od_given_levels, .func (PySem.W.fnOf "given_levels" "given_levels" (defArgs (topS 3)) (defBody (topS 3)) (defScope (topS 3)) .none kV_given_levels dc_given_levels pm_given_levels an_given_levels cd_given_levels ct_given_levels), sl_given_levels⟩) (c_given_levels : PySem.W.codeIn K cd_given_levels "given_levels" = true) (k_given_levels : PySem.W.keepIn K (.ref f_given_levels) = true)
    {f_split_pattern : Addr} {od_split_pattern an_split_pattern : Option Addr} {sl_split_pattern : Array (Option Value)} {oc_split_pattern kV_split_pattern dc_split_pattern pm_split_pattern cd_split_pattern ct_split_pattern : Value}
    (a_split_pattern : PySem.W.nsIn K mainGlobals "split_pattern" = some (some (.ref f_split_pattern))) (l_split_pattern : K.lookup f_split_pattern = some ⟨oc_split_pattern, od_split_pattern, .func (PySem.W.fnOf "split_pattern" "split_pattern" (defArgs (topS 4)) (defBody (topS 4)) (defScope (topS 4)) .none kV_split_pattern dc_split_pattern pm_split_pattern an_split_pattern cd_split_pattern ct_split_pattern), sl_split_pattern⟩) (c_split_pattern : PySem.W.codeIn K cd_split_pattern "split_pattern" = true) (k_split_pattern : PySem.W.keepIn K (.ref f_split_pattern) = true)
    {f_law_cell : Addr} {od_law_cell an_law_cell : Option Addr} {sl_law_cell : Array (Option Value)} {oc_law_cell kV_law_cell dc_law_cell pm_law_cell cd_law_cell ct_law_cell : Value}
    (a_law_cell : PySem.W.nsIn K mainGlobals "_law_cell" = some (some (.ref f_law_cell))) (l_law_cell : K.lookup f_law_cell = some ⟨oc_law_cell, od_law_cell, .func (PySem.W.fnOf "_law_cell" "_law_cell" (defArgs (topS 6)) (defBody (topS 6)) (defScope (topS 6)) .none kV_law_cell dc_law_cell pm_law_cell an_law_cell cd_law_cell ct_law_cell), sl_law_cell⟩) (c_law_cell : PySem.W.codeIn K cd_law_cell "_law_cell" = true) (k_law_cell : PySem.W.keepIn K (.ref f_law_cell) = true)
    {f_law_draws : Addr} {od_law_draws an_law_draws : Option Addr} {sl_law_draws : Array (Option Value)} {oc_law_draws kV_law_draws dc_law_draws pm_law_draws cd_law_draws ct_law_draws : Value}
    (a_law_draws : PySem.W.nsIn K mainGlobals "_law_draws" = some (some (.ref f_law_draws))) (l_law_draws : K.lookup f_law_draws = some ⟨oc_law_draws, od_law_draws, .func (PySem.W.fnOf "_law_draws" "_law_draws" (defArgs (topS 7)) (defBody (topS 7)) (defScope (topS 7)) .none kV_law_draws dc_law_draws pm_law_draws an_law_draws cd_law_draws ct_law_draws), sl_law_draws⟩) (c_law_draws : PySem.W.codeIn K cd_law_draws "_law_draws" = true) (k_law_draws : PySem.W.keepIn K (.ref f_law_draws) = true)
    {f_law_word : Addr} {od_law_word an_law_word : Option Addr} {sl_law_word : Array (Option Value)} {oc_law_word kV_law_word dc_law_word pm_law_word cd_law_word ct_law_word : Value}
    (a_law_word : PySem.W.nsIn K mainGlobals "_law_word" = some (some (.ref f_law_word))) (l_law_word : K.lookup f_law_word = some ⟨oc_law_word, od_law_word, .func (PySem.W.fnOf "_law_word" "_law_word" (defArgs (topS 8)) (defBody (topS 8)) (defScope (topS 8)) .none kV_law_word dc_law_word pm_law_word an_law_word cd_law_word ct_law_word), sl_law_word⟩) (c_law_word : PySem.W.codeIn K cd_law_word "_law_word" = true) (k_law_word : PySem.W.keepIn K (.ref f_law_word) = true)
    {f_law_entry : Addr} {od_law_entry an_law_entry : Option Addr} {sl_law_entry : Array (Option Value)} {oc_law_entry kV_law_entry dc_law_entry pm_law_entry cd_law_entry ct_law_entry : Value}
    (a_law_entry : PySem.W.nsIn K mainGlobals "_law_entry" = some (some (.ref f_law_entry))) (l_law_entry : K.lookup f_law_entry = some ⟨oc_law_entry, od_law_entry, .func (PySem.W.fnOf "_law_entry" "_law_entry" (defArgs (topS 9)) (defBody (topS 9)) (defScope (topS 9)) .none kV_law_entry dc_law_entry pm_law_entry an_law_entry cd_law_entry ct_law_entry), sl_law_entry⟩) (c_law_entry : PySem.W.codeIn K cd_law_entry "_law_entry" = true) (k_law_entry : PySem.W.keepIn K (.ref f_law_entry) = true)
    {f_law_pattern : Addr} {od_law_pattern an_law_pattern : Option Addr} {sl_law_pattern : Array (Option Value)} {oc_law_pattern kV_law_pattern dc_law_pattern pm_law_pattern cd_law_pattern ct_law_pattern : Value}
    (a_law_pattern : PySem.W.nsIn K mainGlobals "_law_pattern" = some (some (.ref f_law_pattern))) (l_law_pattern : K.lookup f_law_pattern = some ⟨oc_law_pattern, od_law_pattern, .func (PySem.W.fnOf "_law_pattern" "_law_pattern" (defArgs (topS 10)) (defBody (topS 10)) (defScope (topS 10)) .none kV_law_pattern dc_law_pattern pm_law_pattern an_law_pattern cd_law_pattern ct_law_pattern), sl_law_pattern⟩) (c_law_pattern : PySem.W.codeIn K cd_law_pattern "_law_pattern" = true) (k_law_pattern : PySem.W.keepIn K (.ref f_law_pattern) = true)
    {f_law_expected : Addr} {od_law_expected an_law_expected : Option Addr} {sl_law_expected : Array (Option Value)} {oc_law_expected kV_law_expected dc_law_expected pm_law_expected cd_law_expected ct_law_expected : Value}
    (a_law_expected : PySem.W.nsIn K mainGlobals "_law_expected" = some (some (.ref f_law_expected))) (l_law_expected : K.lookup f_law_expected = some ⟨oc_law_expected, od_law_expected, .func (PySem.W.fnOf "_law_expected" "_law_expected" (defArgs (topS 11)) (defBody (topS 11)) (defScope (topS 11)) .none kV_law_expected dc_law_expected pm_law_expected an_law_expected cd_law_expected ct_law_expected), sl_law_expected⟩) (c_law_expected : PySem.W.codeIn K cd_law_expected "_law_expected" = true) (k_law_expected : PySem.W.keepIn K (.ref f_law_expected) = true)
    {f_law : Addr} {od_law an_law : Option Addr} {sl_law : Array (Option Value)} {oc_law kV_law dc_law pm_law cd_law ct_law : Value}
    (a_law : PySem.W.nsIn K mainGlobals "law" = some (some (.ref f_law))) (l_law : K.lookup f_law = some ⟨oc_law, od_law, .func (PySem.W.fnOf "law" "law" (defArgs (topS 12)) (defBody (topS 12)) (defScope (topS 12)) .none kV_law dc_law pm_law an_law cd_law ct_law), sl_law⟩) (c_law : PySem.W.codeIn K cd_law "law" = true) (k_law : PySem.W.keepIn K (.ref f_law) = true)
    (z_bool : PySem.W.nsIn K mainGlobals "bool" = some none)
    (z_enumerate : PySem.W.nsIn K mainGlobals "enumerate" = some none)
    (z_int : PySem.W.nsIn K mainGlobals "int" = some none)
    (z_isinstance : PySem.W.nsIn K mainGlobals "isinstance" = some none)
    (z_len : PySem.W.nsIn K mainGlobals "len" = some none)
    (z_list : PySem.W.nsIn K mainGlobals "list" = some none)
    (z_max : PySem.W.nsIn K mainGlobals "max" = some none)
    (z_range : PySem.W.nsIn K mainGlobals "range" = some none)
    {t_DIGITS : Tok} (y_DIGITS : PySem.W.nsIn K mainGlobals "DIGITS" = some (some (.str (PySem.Str.ofString "0123456789") t_DIGITS))) :
    ∃ fd : FuncData, (∀ (s : Shared) (v : Value), BindsTo s fd ⟨[v], []⟩ [("script", v)]) ∧ ∀ base : Heap, K.In base → base.Ns mainGlobals mg → FnOk PySem.Challenge.rw_folio_k10_levels.prog w K mg base CX0 4 fa fd ["script"] (sp_law K) := by
  have e := hfa.symm.trans (PySem.W.mg_of X G a_law)
  cases e
  have F_levels := fun_mk (st := topS 2) l_levels c_levels k_levels
  have B_levels := F_levels.binds (ps := ["entries", "word"]) fun _ _ _ _ _ _ us hl => match us, hl with | [_, _], _ => rfl
  have F_given_levels := fun_mk (st := topS 3) l_given_levels c_given_levels k_given_levels
  have B_given_levels := F_given_levels.binds (ps := ["pattern", "dotted"]) fun _ _ _ _ _ _ us hl => match us, hl with | [_, _], _ => rfl
  have F_split_pattern := fun_mk (st := topS 4) l_split_pattern c_split_pattern k_split_pattern
  have B_split_pattern := F_split_pattern.binds (ps := ["pattern"]) fun _ _ _ _ _ _ us hl => match us, hl with | [_], _ => rfl
  have F_law_cell := fun_mk (st := topS 6) l_law_cell c_law_cell k_law_cell
  have B_law_cell := F_law_cell.binds (ps := ["script", "k"]) fun _ _ _ _ _ _ us hl => match us, hl with | [_, _], _ => rfl
  have F_law_draws := fun_mk (st := topS 7) l_law_draws c_law_draws k_law_draws
  have B_law_draws := F_law_draws.binds (ps := ["cell", "count"]) fun _ _ _ _ _ _ us hl => match us, hl with | [_, _], _ => rfl
  have F_law_word := fun_mk (st := topS 8) l_law_word c_law_word k_law_word
  have B_law_word := F_law_word.binds (ps := ["cell", "size"]) fun _ _ _ _ _ _ us hl => match us, hl with | [_, _], _ => rfl
  have F_law_entry := fun_mk (st := topS 9) l_law_entry c_law_entry k_law_entry
  have B_law_entry := F_law_entry.binds (ps := ["cell"]) fun _ _ _ _ _ _ us hl => match us, hl with | [_], _ => rfl
  have F_law_pattern := fun_mk (st := topS 10) l_law_pattern c_law_pattern k_law_pattern
  have B_law_pattern := F_law_pattern.binds (ps := ["text"]) fun _ _ _ _ _ _ us hl => match us, hl with | [_], _ => rfl
  have F_law_expected := fun_mk (st := topS 11) l_law_expected c_law_expected k_law_expected
  have B_law_expected := F_law_expected.binds (ps := ["entries", "word"]) fun _ _ _ _ _ _ us hl => match us, hl with | [_, _], _ => rfl
  have F_law := fun_mk (st := topS 12) l_law c_law k_law
  have B_law := F_law.binds (ps := ["script"]) fun _ _ _ _ _ _ us hl => match us, hl with | [_], _ => rfl
  refine ⟨PySem.W.fnOf "law" "law" (defArgs (topS 12)) (defBody (topS 12)) (defScope (topS 12)) .none kV_law dc_law pm_law an_law cd_law ct_law, fun s v => .of_eq rfl, fun base _ _ => ?_⟩
  exact ok_law ⟨_, _, F_levels, B_levels, PySem.W.mg_of X G a_levels, _, _, F_given_levels, B_given_levels, PySem.W.mg_of X G a_given_levels, _, _, F_split_pattern, B_split_pattern, PySem.W.mg_of X G a_split_pattern, _, _, F_law_cell, B_law_cell, PySem.W.mg_of X G a_law_cell, _, _, F_law_draws, B_law_draws, PySem.W.mg_of X G a_law_draws, _, _, F_law_word, B_law_word, PySem.W.mg_of X G a_law_word, _, _, F_law_entry, B_law_entry, PySem.W.mg_of X G a_law_entry, _, _, F_law_pattern, B_law_pattern, PySem.W.mg_of X G a_law_pattern, _, _, F_law_expected, B_law_expected, PySem.W.mg_of X G a_law_expected, _, _, F_law, B_law, PySem.W.mg_of X G a_law, PySem.W.mg_none_of X G z_bool, PySem.W.mg_none_of X G z_enumerate, PySem.W.mg_none_of X G z_int, PySem.W.mg_none_of X G z_isinstance, PySem.W.mg_none_of X G z_len, PySem.W.mg_none_of X G z_list, PySem.W.mg_none_of X G z_max, PySem.W.mg_none_of X G z_range, _, PySem.W.mg_of X G y_DIGITS⟩
end My
open PySem PySem.W PyProof.Rows
set_option maxHeartbeats 0 in
theorem PySem.Challenge.cw_folio_k10_levels_holds : PySem.Challenge.rw_folio_k10_levels.Holds := by
  w_on; o_law; k_head; (case hw => w_witness2)
  k_fill
  refine L2.walk_of (l := PySem.Challenge.rw_folio_k10_levels) (n := 63) (k := 4) (x := "script") (CX := fun _ => L2.CX0) (sp := fun w => My.sp_law _) rfl (by decide) rfl ⟨rfl, by decide, by decide⟩ (fun w h Y => PySem.W.kIn_of Y) ?F (fun _ _ a ns hl _ hS => Ly.law_sp hS True.intro (My.law_true ns hl)) (fun _ _ _ _ _ h => h)
  case F =>
    intro w mg fa h KX G hmg
    refine' My.all_mk KX G hmg ?a_levels ?l_levels ?c_levels ?k_levels ?a_given_levels ?l_given_levels ?c_given_levels ?k_given_levels ?a_split_pattern ?l_split_pattern ?c_split_pattern ?k_split_pattern ?a_law_cell ?l_law_cell ?c_law_cell ?k_law_cell ?a_law_draws ?l_law_draws ?c_law_draws ?k_law_draws ?a_law_word ?l_law_word ?c_law_word ?k_law_word ?a_law_entry ?l_law_entry ?c_law_entry ?k_law_entry ?a_law_pattern ?l_law_pattern ?c_law_pattern ?k_law_pattern ?a_law_expected ?l_law_expected ?c_law_expected ?k_law_expected ?a_law ?l_law ?c_law ?k_law ?z_bool ?z_enumerate ?z_int ?z_isinstance ?z_len ?z_list ?z_max ?z_range ?y_DIGITS
    (case a_levels => k_is); (case l_levels => k_is); (case c_levels => k_is); (case k_levels => k_is); (case a_given_levels => k_is); (case l_given_levels => k_is); (case c_given_levels => k_is); (case k_given_levels => k_is); (case a_split_pattern => k_is); (case l_split_pattern => k_is); (case c_split_pattern => k_is); (case k_split_pattern => k_is); (case a_law_cell => k_is); (case l_law_cell => k_is); (case c_law_cell => k_is); (case k_law_cell => k_is); (case a_law_draws => k_is); (case l_law_draws => k_is); (case c_law_draws => k_is); (case k_law_draws => k_is); (case a_law_word => k_is); (case l_law_word => k_is); (case c_law_word => k_is); (case k_law_word => k_is); (case a_law_entry => k_is); (case l_law_entry => k_is); (case c_law_entry => k_is); (case k_law_entry => k_is); (case a_law_pattern => k_is); (case l_law_pattern => k_is); (case c_law_pattern => k_is); (case k_law_pattern => k_is); (case a_law_expected => k_is); (case l_law_expected => k_is); (case c_law_expected => k_is); (case k_law_expected => k_is); (case a_law => k_is); (case l_law => k_is); (case c_law => k_is); (case k_law => k_is); (case z_bool => k_is); (case z_enumerate => k_is); (case z_int => k_is); (case z_isinstance => k_is); (case z_len => k_is); (case z_list => k_is); (case z_max => k_is); (case z_range => k_is); (case y_DIGITS => k_is)
