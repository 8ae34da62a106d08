import PyProof.Rows.All
import Wide.All
import OpenK.AllK
import Wide.FinOn
import HandS.ForMost
import HandS.Evl
import HandS.IsInst
import HandS.EndBits
import HandS.Wide
import KE.DatumMoreOrd
import HandS.Walk
import HandS.StrMore
import PyProof.StrLawsFrom
import KE.IntTextLaws
import PyProof.Rows.RegStrFacts
import PyProof.Rows.StrCase
import HandS.Replace
import HandS.ReplaceLit
import HandS.ReplaceDef
import HandS.Words
import PyProof.Rows.StrStrike
import PySem.Challenge.RW_folio_k11_places
set_option Elab.async false
set_option linter.all false
set_option maxRecDepth 100000
set_option maxHeartbeats 4000000
set_option Elab.async false
namespace Ly
open PySem PySem.Spec PyProof.Rows L2 Evl
open PySem.W (Datum DatumOrd Tup T3 T4)

/-! ### data that is held, masks -/
mutual
theorem dp_mono {K : PySem.W.Frag} {H H' : Hp} (e : Ex H H') : ∀ {v : V} {d : PyData}, Dp K H v d → Dp K H' v d
  | _, _, .non => .non
  | _, _, .bl b => .bl b
  | _, _, .int i => .int i
  | _, _, .str x => .str x
  | _, _, .lst h a => .lst (ex_l e h) (dpa_mono e a)
  | _, _, .tup h a => .tup (ex_t e h) (dpa_mono e a)
theorem dpa_mono {K : PySem.W.Frag} {H H' : Hp} (e : Ex H H') : ∀ {vs : List V} {ds : List PyData}, DpAll K H vs ds → DpAll K H' vs ds
  | _, _, .nil => .nil
  | _, _, .cons a b => .cons (dp_mono e a) (dpa_mono e b)
end
theorem dpa_len {K : PySem.W.Frag} {H : Hp} : ∀ {vs : List V} {ds : List PyData}, DpAll K H vs ds → vs.length = ds.length
  | _, _, .nil => rfl
  | _, _, .cons _ b => by rw [List.length_cons, List.length_cons, dpa_len b]
theorem dpa_at {K : PySem.W.Frag} {H : Hp} : ∀ {vs : List V} {ds : List PyData} {i : Nat} {d : PyData}, DpAll K H vs ds → ds[i]? = some d → ∃ v, vs[i]? = some v ∧ Dp K H v d
  | _, _, i, d, .nil, e => by simp at e
  | _, _, 0, d, .cons a b, e => by simp at e; subst e; exact ⟨_, rfl, a⟩
  | _, _, i + 1, d, .cons a b, e => by
    obtain ⟨v, h1, h2⟩ := dpa_at (i := i) (d := d) b (by simpa using e)
    exact ⟨v, by simpa using h1, h2⟩
theorem dpa_app {K : PySem.W.Frag} {H : Hp} : ∀ {vs ws : List V} {ds es : List PyData}, DpAll K H vs ds → DpAll K H ws es → DpAll K H (vs ++ ws) (ds ++ es)
  | _, _, _, _, .nil, h => h
  | _, _, _, _, .cons a b, h => .cons a (dpa_app b h)

variable {K : PySem.W.Frag}
/-- v holds x -/
def Dt {α : Type} [DecidableEq α] [Datum α] (K : PySem.W.Frag) (H : Hp) (v : V) (x : α) : Prop := Dp K H v (Datum.toD x)
def Dts {α : Type} [DecidableEq α] [Datum α] (K : PySem.W.Frag) (H : Hp) (vs : List V) (xs : List α) : Prop := DpAll K H vs (xs.map Datum.toD)
/-- the heap without the objects of M -/
def msk (M : List Addr) (H : Hp) : Hp := fun a => if a ∈ M then none else H a
def MOk (M : List Addr) (H : Hp) : Prop := ∀ l ∈ M, H l ≠ none
section
variable {α : Type} [DecidableEq α] [Datum α] {H H1 H2 : Hp} {M N : List Addr} {v : V} {x : α}
theorem msk_in {a : Addr} (h : a ∈ M) : msk M H a = none := by unfold msk; rw [if_pos h]
theorem msk_out {a : Addr} (h : a ∉ M) : msk M H a = H a := by unfold msk; rw [if_neg h]
theorem msk_nil : msk [] H = H := by funext a; unfold msk; simp
theorem msk_ex (e : Ex H H1) : Ex (msk M H) (msk M H1) := fun a o h => by
  by_cases q : a ∈ M
  · rw [msk_in q] at h; cases h
  · rw [msk_out q] at h ⊢; exact e a o h
theorem msk_le : Ex (msk M H) H := fun a o h => by
  by_cases q : a ∈ M
  · rw [msk_in q] at h; cases h
  · rw [msk_out q] at h; exact h
theorem msk_sub (s : ∀ a ∈ N, a ∈ M) : Ex (msk M H) (msk N H) := fun a o h => by
  by_cases q : a ∈ M
  · rw [msk_in q] at h; cases h
  · rw [msk_out q] at h
    rw [msk_out fun z => q (s a z)]
    exact h
theorem msk_upd {l : Addr} {o : HO} (h : l ∈ M) : msk M (upd H l o) = msk M H := by
  funext a
  by_cases q : a ∈ M
  · rw [msk_in q, msk_in q]
  · rw [msk_out q, msk_out q, upd_ne (fun z => q (by rw [z]; exact h))]
theorem msk_new {p : Addr} {o : HO} (h : H p = none) : Ex (msk M H) (msk (p :: M) (upd H p o)) := fun a u e => by
  by_cases q : a ∈ M
  · rw [msk_in q] at e; cases e
  · rw [msk_out q] at e
    have n : a ≠ p := ne_of_none e h
    rw [msk_out (by simp [n, q]), upd_ne n]
    exact e
theorem MOk.ex (e : Ex H H1) (m : MOk M H) : MOk M H1 := fun l hl z => by
  have := m l hl
  cases q : H l with
  | none => exact this q
  | some o => rw [e l o q] at z; cases z
theorem MOk.nin {p : Addr} (m : MOk M H) (h : H p = none) : p ∉ M := fun z => m p z h
theorem msk_at {p : Addr} {o : HO} (m : MOk M H) (h : H p = none) : msk M (upd H p o) p = some o := by
  rw [msk_out (m.nin h), upd_same]
theorem Dt.mono (e : Ex H H1) (h : Dt K H v x) : Dt K H1 v x := dp_mono e h
theorem Dts.mono {vs : List V} {xs : List α} (e : Ex H H1) (h : Dts K H vs xs) : Dts K H1 vs xs := dpa_mono e h
theorem Dts.len {vs : List V} {xs : List α} (h : Dts K H vs xs) : vs.length = xs.length := by
  have := dpa_len h
  rwa [List.length_map] at this
theorem Dts.nil : Dts K H [] ([] : List α) := DpAll.nil
theorem Dts.cons {vs : List V} {xs : List α} (a : Dt K H v x) (b : Dts K H vs xs) : Dts K H (v :: vs) (x :: xs) := DpAll.cons a b
theorem Dts.app {vs ws : List V} {xs ys : List α} (a : Dts K H vs xs) (b : Dts K H ws ys) : Dts K H (vs ++ ws) (xs ++ ys) := by
  unfold Dts
  rw [List.map_append]
  exact dpa_app a b
theorem Dts.snoc {vs : List V} {xs : List α} (b : Dts K H vs xs) (a : Dt K H v x) : Dts K H (vs ++ [v]) (xs ++ [x]) := b.app (DpAll.cons a DpAll.nil)
theorem Dts.at {vs : List V} {xs : List α} {i : Nat} {x : α} (h : Dts K H vs xs) (e : xs[i]? = some x) : ∃ v, vs[i]? = some v ∧ Dt K H v x :=
  dpa_at h (by rw [List.getElem?_map, e]; rfl)
theorem Dt.int {i : Int} (h : Dt K H v i) : v = .int i := by
  cases (show Dp K H v (.int i) from h); rfl
theorem Dt.ofInt (i : Int) : Dt K H (.int i) i := Dp.int i
theorem Dt.bool {i : Bool} (h : Dt K H v i) : v = .bl i := by
  cases (show Dp K H v (.bool i) from h); rfl
theorem Dt.ofBool (i : Bool) : Dt K H (.bl i) i := Dp.bl i
theorem Dt.str {i : Str} (h : Dt K H v i) : v = .str i := by
  cases (show Dp K H v (.str i) from h); rfl
theorem Dt.ofStr (i : Str) : Dt K H (.str i) i := Dp.str i
theorem Dt.unit {i : Unit} (h : Dt K H v i) : v = .non := by
  cases (show Dp K H v .none from h); rfl
theorem Dt.list {xs : List α} (h : Dt K H v xs) : ∃ a vs, v = .ref a ∧ SqL K H a vs ∧ Dts K H vs xs := by
  cases (show Dp K H v (.list _) from h) with
  | lst a b => exact ⟨_, _, rfl, a, b⟩
theorem Dt.ofList {a : Addr} {vs : List V} {xs : List α} (h : SqL K H a vs) (d : Dts K H vs xs) : Dt K H (.ref a) xs := Dp.lst h d
theorem Dt.tupv {xs : Tup α} (h : Dt K H v xs) : ∃ a vs, v = .ref a ∧ SqT K H a vs ∧ Dts K H vs xs.items := by
  cases (show Dp K H v (.tuple _) from h) with
  | tup a b => exact ⟨_, _, rfl, a, b⟩
theorem Dt.ofTupv {a : Addr} {vs : List V} {xs : Tup α} (h : SqT K H a vs) (d : Dts K H vs xs.items) : Dt K H (.ref a) xs := Dp.tup h d
end
section
variable {α β γ δ : Type} [DecidableEq α] [Datum α] [DecidableEq β] [Datum β] [DecidableEq γ] [Datum γ] [DecidableEq δ] [Datum δ] {H H1 H2 : Hp} {v : V}
theorem Dt.pair {p : α × β} (h : Dt K H v p) : ∃ l a b, v = .ref l ∧ SqT K H l [a, b] ∧ Dt K H a p.1 ∧ Dt K H b p.2 := by
  cases (show Dp K H v (.tuple [_, _]) from h) with
  | tup s b =>
    cases b with
    | cons b1 b =>
      cases b with
      | cons b2 b =>
        cases b
        exact ⟨_, _, _, rfl, s, b1, b2⟩
theorem Dt.ofPair {l : Addr} {a b : V} {x : α} {y : β} (s : SqT K H l [a, b]) (ha : Dt K H a x) (hb : Dt K H b y) : Dt K H (.ref l) (x, y) := Dp.tup s (.cons ha (.cons hb .nil))
theorem Dt.t3 {p : T3 α β γ} (h : Dt K H v p) : ∃ l a b c, v = .ref l ∧ SqT K H l [a, b, c] ∧ Dt K H a p.a ∧ Dt K H b p.b ∧ Dt K H c p.c := by
  cases (show Dp K H v (.tuple [_, _, _]) from h) with
  | tup s b =>
    cases b with
    | cons b1 b =>
      cases b with
      | cons b2 b =>
        cases b with
        | cons b3 b =>
          cases b
          exact ⟨_, _, _, _, rfl, s, b1, b2, b3⟩
theorem Dt.ofT3 {l : Addr} {a b c : V} {x : α} {y : β} {z : γ} (s : SqT K H l [a, b, c]) (ha : Dt K H a x) (hb : Dt K H b y) (hc : Dt K H c z) : Dt K H (.ref l) (T3.mk x y z) := Dp.tup s (.cons ha (.cons hb (.cons hc .nil)))
theorem Dt.t4 {p : T4 α β γ δ} (h : Dt K H v p) : ∃ l a b c d, v = .ref l ∧ SqT K H l [a, b, c, d] ∧ Dt K H a p.a ∧ Dt K H b p.b ∧ Dt K H c p.c ∧ Dt K H d p.d := by
  cases (show Dp K H v (.tuple [_, _, _, _]) from h) with
  | tup s b =>
    cases b with
    | cons b1 b =>
      cases b with
      | cons b2 b =>
        cases b with
        | cons b3 b =>
          cases b with
          | cons b4 b =>
            cases b
            exact ⟨_, _, _, _, _, rfl, s, b1, b2, b3, b4⟩
theorem Dt.ofT4 {l : Addr} {a b c d : V} {x : α} {y : β} {z : γ} {u : δ} (s : SqT K H l [a, b, c, d]) (ha : Dt K H a x) (hb : Dt K H b y) (hc : Dt K H c z) (hd : Dt K H d u) : Dt K H (.ref l) (T4.mk x y z u) := Dp.tup s (.cons ha (.cons hb (.cons hc (.cons hd .nil))))
end
end Ly

namespace Ly
open PySem PySem.Spec PyProof.Rows L2 Evl
open PySem.W (Datum DatumOrd Tup T3 T4)

/-! ### what an expression gives -/
section
variable {K : PySem.W.Frag} {M : List Addr} {σ : L2.St} {H H' : Hp} {te ta tb tc td : TE} {tt tu : TT}
variable {α β γ δ ε : Type} [DecidableEq α] [Datum α] [DecidableEq β] [Datum β] [DecidableEq γ] [Datum γ] [DecidableEq δ] [Datum δ] [DecidableEq ε] [Datum ε]

def Hv (K : PySem.W.Frag) (M : List Addr) (te : TE) (σ : L2.St) (H : Hp) (x : α) : Prop :=
  ∀ H1, Ex H H1 → MOk M H1 → ∀ Q : VK, (∀ v H2, Ex H1 H2 → Dt K (msk M H2) v x → Q v H2) → te σ H1 Q
def HT (M : List Addr) (tt : TT) (σ : L2.St) (H : Hp) (b : Bool) : Prop :=
  ∀ H1, Ex H H1 → MOk M H1 → ∀ Q : Bool → Hp → Prop, (∀ H2, Ex H1 H2 → Q b H2) → tt σ H1 Q
/-- arguments: P of their values -/
def HA (M : List Addr) (ta : TA) (σ : L2.St) (H : Hp) (P : List V → Hp → Prop) : Prop :=
  ∀ H1, Ex H H1 → MOk M H1 → ∀ Q : List V → Hp → Prop, (∀ vs H2, Ex H1 H2 → P vs H2 → Q vs H2) → ta σ H1 Q
theorem Hv.mono {x : α} (e : Ex H H') (h : Hv K M te σ H x) : Hv K M te σ H' x := fun H1 a m Q q => h H1 (e.trans a) m Q q
theorem HT.mono {b : Bool} (e : Ex H H') (h : HT M tt σ H b) : HT M tt σ H' b := fun H1 a m Q q => h H1 (e.trans a) m Q q
theorem Hv.is {x y : α} (h : Hv K M te σ H x) (e : x = y) : Hv K M te σ H y := by rw [← e]; exact h
theorem HT.is {x y : Bool} (h : HT M tt σ H x) (e : x = y) : HT M tt σ H y := by rw [← e]; exact h
/-- a value that is told -/
theorem hv_ev {v : V} {x : α} (h : Ev te σ H v) (d : Dt K (msk M H) v x) : Hv K M te σ H x := fun H1 e m Q q =>
  h H1 e Q fun H2 e2 => q v H2 e2 (d.mono (msk_ex (e.trans e2)))
theorem hv_evI {x : Int} (h : Ev te σ H (.int x)) : Hv K M te σ H x := hv_ev h (Dt.ofInt x)
theorem hv_evB {x : Bool} (h : Ev te σ H (.bl x)) : Hv K M te σ H x := hv_ev h (Dt.ofBool x)
theorem hv_evS {x : Str} (h : Ev te σ H (.str x)) : Hv K M te σ H x := hv_ev h (Dt.ofStr x)
theorem ev_hvI {x : Int} (h : Hv K M te σ H x) (m : MOk M H) : Ev te σ H (.int x) := fun H1 e Q q =>
  h H1 e (m.ex e) Q fun v H2 e2 d => by rw [d.int]; exact q H2 e2
theorem ev_hvB {x : Bool} (h : Hv K M te σ H x) (m : MOk M H) : Ev te σ H (.bl x) := fun H1 e Q q =>
  h H1 e (m.ex e) Q fun v H2 e2 d => by rw [d.bool]; exact q H2 e2
theorem ev_hvS {x : Str} (h : Hv K M te σ H x) (m : MOk M H) : Ev te σ H (.str x) := fun H1 e Q q =>
  h H1 e (m.ex e) Q fun v H2 e2 d => by rw [d.str]; exact q H2 e2
theorem hv_var {i : Nat} {v : V} {x : α} (h : σ[i]? = some (some v)) (d : Dt K (msk M H) v x) : Hv K M (tVar i) σ H x := hv_ev (ev_var h) d
theorem hv_vI {i : Nat} {x : Int} (h : σ[i]? = some (some (.int x))) : Hv K M (tVar i) σ H x := hv_evI (ev_var h)
theorem hv_vB {i : Nat} {x : Bool} (h : σ[i]? = some (some (.bl x))) : Hv K M (tVar i) σ H x := hv_evB (ev_var h)
theorem hv_vS {i : Nat} {x : Str} (h : σ[i]? = some (some (.str x))) : Hv K M (tVar i) σ H x := hv_evS (ev_var h)
theorem hv_int (n : Int) : Hv K M (tC (.int n)) σ H n := hv_evI ev_c
theorem hv_bl (n : Bool) : Hv K M (tC (.bl n)) σ H n := hv_evB ev_c
theorem hv_str (n : Str) : Hv K M (tC (.str n)) σ H n := hv_evS ev_c
theorem hv_none [PySem.W.SomeDatum α] : Hv K M (tC .non) σ H (none : Option α) := hv_ev ev_c Dp.non
theorem hv_some [PySem.W.SomeDatum α] {x : α} (h : Hv K M te σ H x) : Hv K M te σ H (some x) := fun H1 e m Q q => h H1 e m Q fun v H2 e2 d => q v H2 e2 d

/-! ### whole numbers -/
theorem hv_op0 {g : Int → Int → Int} {i j : Int} (ha : Hv K M ta σ H i) (hb : Hv K M tb σ H j) : Hv K M (tOp (rI0 fun i j => .int (g i j)) ta tb) σ H (g i j) := fun H1 e m Q q =>
  ha H1 e m _ fun v H2 e2 d => hb H2 (e.trans e2) (m.ex e2) _ fun u H3 e3 d' => ⟨i, j, d.int, d'.int, q _ H3 (e2.trans e3) (Dt.ofInt _)⟩
theorem hv_opC {C : Int → Int → Prop} {g : Int → Int → Int} {i j : Int} (ha : Hv K M ta σ H i) (hb : Hv K M tb σ H j) (c : C i j) : Hv K M (tOp (rI C fun i j => .int (g i j)) ta tb) σ H (g i j) := fun H1 e m Q q =>
  ha H1 e m _ fun v H2 e2 d => hb H2 (e.trans e2) (m.ex e2) _ fun u H3 e3 d' => ⟨i, j, d.int, d'.int, c, q _ H3 (e2.trans e3) (Dt.ofInt _)⟩
theorem hv_cmp0 {g : Int → Int → Bool} {i j : Int} (ha : Hv K M ta σ H i) (hb : Hv K M tb σ H j) : Hv K M (tOp (rI0 fun i j => .bl (g i j)) ta tb) σ H (g i j) := fun H1 e m Q q =>
  ha H1 e m _ fun v H2 e2 d => hb H2 (e.trans e2) (m.ex e2) _ fun u H3 e3 d' => ⟨i, j, d.int, d'.int, q _ H3 (e2.trans e3) (Dt.ofBool _)⟩
theorem hv_neg {i : Int} (ha : Hv K M ta σ H i) : Hv K M (tUn (rU fun i => .int (-i)) ta) σ H (-i) := fun H1 e m Q q =>
  ha H1 e m _ fun v H2 e2 d => ⟨i, d.int, q _ H2 e2 (Dt.ofInt _)⟩
theorem hv_lt {i j : Int} (ha : Hv K M ta σ H i) (hb : Hv K M tb σ H j) : Hv K M (tOp (rI0 fun i j => .bl (decide (i < j))) ta tb) σ H (decide (i < j)) := hv_cmp0 (g := fun i j => decide (i < j)) ha hb
theorem hv_le {i j : Int} (ha : Hv K M ta σ H i) (hb : Hv K M tb σ H j) : Hv K M (tOp (rI0 fun i j => .bl (decide (i ≤ j))) ta tb) σ H (decide (i ≤ j)) := hv_cmp0 (g := fun i j => decide (i ≤ j)) ha hb
theorem hv_gt {i j : Int} (ha : Hv K M ta σ H i) (hb : Hv K M tb σ H j) : Hv K M (tOp (rI0 fun i j => .bl (decide (j < i))) ta tb) σ H (decide (j < i)) := hv_cmp0 (g := fun i j => decide (j < i)) ha hb
theorem hv_ge {i j : Int} (ha : Hv K M ta σ H i) (hb : Hv K M tb σ H j) : Hv K M (tOp (rI0 fun i j => .bl (decide (j ≤ i))) ta tb) σ H (decide (j ≤ i)) := hv_cmp0 (g := fun i j => decide (j ≤ i)) ha hb
theorem hv_add {i j : Int} (ha : Hv K M ta σ H i) (hb : Hv K M tb σ H j) : Hv K M (tOp (rI0 fun i j => .int (i + j)) ta tb) σ H (i + j) := hv_op0 (g := fun i j => i + j) ha hb
theorem hv_sub {i j : Int} (ha : Hv K M ta σ H i) (hb : Hv K M tb σ H j) : Hv K M (tOp (rI0 fun i j => .int (i - j)) ta tb) σ H (i - j) := hv_op0 (g := fun i j => i - j) ha hb
theorem hv_mul {i j : Int} (ha : Hv K M ta σ H i) (hb : Hv K M tb σ H j) (c : CMul i j) : Hv K M (tOp (rI CMul fun i j => .int (i * j)) ta tb) σ H (i * j) := hv_opC (g := fun i j => i * j) ha hb c
theorem hv_mod {i j : Int} (ha : Hv K M ta σ H i) (hb : Hv K M tb σ H j) (c : 0 < j) : Hv K M (tOp (rI (fun _ j => 0 < j) fun i j => .int (i % j)) ta tb) σ H (i % j) := hv_opC (C := fun _ j => 0 < j) (g := fun i j => i % j) ha hb c
theorem hv_div {i j : Int} (ha : Hv K M ta σ H i) (hb : Hv K M tb σ H j) (c : CDivW i j) : Hv K M (tOp (rI CDivW fun i j => .int (i / j)) ta tb) σ H (i / j) := hv_opC (g := fun i j => i / j) ha hb c
theorem hv_pow {i j : Int} (ha : Hv K M ta σ H i) (hb : Hv K M tb σ H j) (c : CPow i j) : Hv K M (tOp (rI CPow fun i j => .int (i ^ j.toNat)) ta tb) σ H (i ^ j.toNat) := hv_opC (g := fun i j => i ^ j.toNat) ha hb c
theorem hv_eqI {i j : Int} (ha : Hv K M ta σ H i) (hb : Hv K M tb σ H j) : Hv K M (tOp rEq ta tb) σ H (decide (i = j)) := fun H1 e m Q q =>
  ha H1 e m _ fun v H2 e2 d => hb H2 (e.trans e2) (m.ex e2) _ fun u H3 e3 d' => by
    rw [d.int, d'.int]
    exact ⟨rfl, q _ H3 (e2.trans e3) (by rw [show decide (V.int i = V.int j) = decide (i = j) from decide_eq_decide.mpr ⟨V.int.inj, fun z => by rw [z]⟩]; exact Dt.ofBool _)⟩
theorem hv_neI {i j : Int} (ha : Hv K M ta σ H i) (hb : Hv K M tb σ H j) : Hv K M (tOp rNe ta tb) σ H (!decide (i = j)) := fun H1 e m Q q =>
  ha H1 e m _ fun v H2 e2 d => hb H2 (e.trans e2) (m.ex e2) _ fun u H3 e3 d' => by
    rw [d.int, d'.int]
    exact ⟨rfl, q _ H3 (e2.trans e3) (by rw [show decide (V.int i = V.int j) = decide (i = j) from decide_eq_decide.mpr ⟨V.int.inj, fun z => by rw [z]⟩]; exact Dt.ofBool _)⟩
theorem hv_eqS {i j : Str} (ha : Hv K M ta σ H i) (hb : Hv K M tb σ H j) : Hv K M (tOp rEq ta tb) σ H (decide (i = j)) := fun H1 e m Q q =>
  ha H1 e m _ fun v H2 e2 d => hb H2 (e.trans e2) (m.ex e2) _ fun u H3 e3 d' => by
    rw [d.str, d'.str]
    exact ⟨rfl, q _ H3 (e2.trans e3) (by rw [show decide (V.str i = V.str j) = decide (i = j) from decide_eq_decide.mpr ⟨V.str.inj, fun z => by rw [z]⟩]; exact Dt.ofBool _)⟩
theorem hv_neS {i j : Str} (ha : Hv K M ta σ H i) (hb : Hv K M tb σ H j) : Hv K M (tOp rNe ta tb) σ H (!decide (i = j)) := fun H1 e m Q q =>
  ha H1 e m _ fun v H2 e2 d => hb H2 (e.trans e2) (m.ex e2) _ fun u H3 e3 d' => by
    rw [d.str, d'.str]
    exact ⟨rfl, q _ H3 (e2.trans e3) (by rw [show decide (V.str i = V.str j) = decide (i = j) from decide_eq_decide.mpr ⟨V.str.inj, fun z => by rw [z]⟩]; exact Dt.ofBool _)⟩
theorem hv_eqB {i j : Bool} (ha : Hv K M ta σ H i) (hb : Hv K M tb σ H j) : Hv K M (tOp rEq ta tb) σ H (decide (i = j)) := fun H1 e m Q q =>
  ha H1 e m _ fun v H2 e2 d => hb H2 (e.trans e2) (m.ex e2) _ fun u H3 e3 d' => by
    rw [d.bool, d'.bool]
    exact ⟨rfl, q _ H3 (e2.trans e3) (by rw [show decide (V.bl i = V.bl j) = decide (i = j) from decide_eq_decide.mpr ⟨V.bl.inj, fun z => by rw [z]⟩]; exact Dt.ofBool _)⟩

/-! ### tests -/
theorem ht_val {b : Bool} (h : Hv K M te σ H b) : HT M (tTest te) σ H b := fun H1 e m Q q => h H1 e m _ fun v H2 e2 d => ⟨b, d.bool, q H2 e2⟩
theorem ht_B {b : Bool} (h : Hv K M te σ H b) : HT M (tB te) σ H b := fun H1 e m Q q => h H1 e m _ fun v H2 e2 d => ⟨b, d.bool, q H2 e2⟩
theorem ht_and {a b : Bool} (h1 : HT M tt σ H a) (h2 : a = true → HT M tu σ H b) : HT M (tAnd tt tu) σ H (a && b) := fun H1 e m Q q => h1 H1 e m _ fun H2 e2 => by
  cases a with
  | true =>
    show tu σ H2 Q
    exact h2 rfl H2 (e.trans e2) (m.ex e2) Q fun H3 e3 => q H3 (e2.trans e3)
  | false =>
    show Q false H2
    exact q H2 e2
theorem ht_or {a b : Bool} (h1 : HT M tt σ H a) (h2 : a = false → HT M tu σ H b) : HT M (tOr tt tu) σ H (a || b) := fun H1 e m Q q => h1 H1 e m _ fun H2 e2 => by
  cases a with
  | true =>
    show Q true H2
    exact q H2 e2
  | false =>
    show tu σ H2 Q
    exact h2 rfl H2 (e.trans e2) (m.ex e2) Q fun H3 e3 => q H3 (e2.trans e3)
theorem ht_not {a : Bool} (h1 : HT M tt σ H a) : HT M (tNot tt) σ H (!a) := fun H1 e m _ q => h1 H1 e m _ fun H2 e2 => q H2 e2
theorem hv_and {a b : Bool} (h1 : Hv K M ta σ H a) (h2 : a = true → Hv K M tb σ H b) : Hv K M (tAndV ta tb) σ H (a && b) := fun H1 e m Q q => h1 H1 e m _ fun v H2 e2 d => ⟨a, d.bool, by
  cases a with
  | true =>
    show tb σ H2 Q
    exact h2 rfl H2 (e.trans e2) (m.ex e2) Q fun v H3 e3 => q v H3 (e2.trans e3)
  | false =>
    show Q (.bl false) H2
    exact q _ H2 e2 (Dt.ofBool _)⟩
theorem hv_or {a b : Bool} (h1 : Hv K M ta σ H a) (h2 : a = false → Hv K M tb σ H b) : Hv K M (tOrV ta tb) σ H (a || b) := fun H1 e m Q q => h1 H1 e m _ fun v H2 e2 d => ⟨a, d.bool, by
  cases a with
  | true =>
    show Q (.bl true) H2
    exact q _ H2 e2 (Dt.ofBool _)
  | false =>
    show tb σ H2 Q
    exact h2 rfl H2 (e.trans e2) (m.ex e2) Q fun v H3 e3 => q v H3 (e2.trans e3)⟩
theorem hv_not {a : Bool} (h1 : Hv K M ta σ H a) : Hv K M (tNotV ta) σ H (!a) := fun H1 e m _ q => h1 H1 e m _ fun v H2 e2 d => ⟨a, d.bool, q _ H2 e2 (Dt.ofBool _)⟩
theorem hv_ite {b : Bool} {x y : α} (h : HT M tt σ H b) (h1 : b = true → Hv K M ta σ H x) (h2 : b = false → Hv K M tb σ H y) : Hv K M (tIf tt ta tb) σ H (if b = true then x else y) := fun H1 e m Q q => h H1 e m _ fun H2 e2 => by
  cases b with
  | true =>
    show ta σ H2 Q
    exact h1 rfl H2 (e.trans e2) (m.ex e2) Q fun v H3 e3 => q v H3 (e2.trans e3)
  | false =>
    show tb σ H2 Q
    exact h2 rfl H2 (e.trans e2) (m.ex e2) Q fun v H3 e3 => q v H3 (e2.trans e3)

/-! ### tuples and lists that are written -/
theorem ha_nil : HA M tNil σ H (fun vs _ => vs = []) := fun H1 e m Q q => q [] H1 (Ex.refl H1) rfl
theorem ha_cons {tr : TA} {x : α} {P : List V → Hp → Prop} (h : Hv K M te σ H x) (hr : HA M tr σ H P) : HA M (tCons te tr) σ H (fun vs H => ∃ v r, vs = v :: r ∧ Dt K (msk M H) v x ∧ P r H) := fun H1 e m Q q =>
  h H1 e m _ fun v H2 e2 d => hr H2 (e.trans e2) (m.ex e2) _ fun vs H3 e3 p => q _ H3 (e2.trans e3) ⟨v, vs, rfl, d.mono (msk_ex e3), p⟩
/-- an argument whose value is told -/
theorem ha_consV {tr : TA} {v : V} {P : List V → Hp → Prop} (h : Ev te σ H v) (hr : HA M tr σ H P) : HA M (tCons te tr) σ H (fun vs H => ∃ r, vs = v :: r ∧ P r H) := fun H1 e m Q q =>
  h H1 e _ fun H2 e2 => hr H2 (e.trans e2) (m.ex e2) _ fun vs H3 e3 p => q _ H3 (e2.trans e3) ⟨vs, rfl, p⟩
theorem hv_tup2 {x : α} {y : β} (ha : Hv K M ta σ H x) (hb : Hv K M tb σ H y) : Hv K M (tTup (tCons ta (tCons tb tNil))) σ H (x, y) := fun H1 e m Q q =>
  ha H1 e m _ fun v H2 e2 d => hb H2 (e.trans e2) (m.ex e2) _ fun u H3 e3 d' => ⟨sz_of (by show 2 ≤ 100000; decide), fun p hp => by
    have m3 : MOk M H3 := m.ex (e2.trans e3)
    have e4 : Ex H3 (upd H3 p (.tup [v, u])) := Ex.new hp
    exact q _ _ ((e2.trans e3).trans e4) (Dt.ofPair (SqT.of (msk_at m3 hp)) (d.mono (msk_ex (e3.trans e4))) (d'.mono (msk_ex e4)))⟩
theorem hv_tup3 {x : α} {y : β} {z : γ} (ha : Hv K M ta σ H x) (hb : Hv K M tb σ H y) (hc : Hv K M tc σ H z) : Hv K M (tTup (tCons ta (tCons tb (tCons tc tNil)))) σ H (T3.mk x y z) := fun H1 e m Q q =>
  ha H1 e m _ fun v H2 e2 d => hb H2 (e.trans e2) (m.ex e2) _ fun u H3 e3 d' => hc H3 ((e.trans e2).trans e3) ((m.ex e2).ex e3) _ fun w H4 e4 d'' => ⟨sz_of (by show 3 ≤ 100000; decide), fun p hp => by
    have m4 : MOk M H4 := m.ex ((e2.trans e3).trans e4)
    have e5 : Ex H4 (upd H4 p (.tup [v, u, w])) := Ex.new hp
    exact q _ _ (((e2.trans e3).trans e4).trans e5) (Dt.ofT3 (SqT.of (msk_at m4 hp)) (d.mono (msk_ex ((e3.trans e4).trans e5))) (d'.mono (msk_ex (e4.trans e5))) (d''.mono (msk_ex e5)))⟩
theorem hv_tup4 {x : α} {y : β} {z : γ} {w : δ} (ha : Hv K M ta σ H x) (hb : Hv K M tb σ H y) (hc : Hv K M tc σ H z) (hd : Hv K M td σ H w) : Hv K M (tTup (tCons ta (tCons tb (tCons tc (tCons td tNil))))) σ H (T4.mk x y z w) := fun H1 e m Q q =>
  ha H1 e m _ fun v H2 e2 d => hb H2 (e.trans e2) (m.ex e2) _ fun u H3 e3 d' => hc H3 ((e.trans e2).trans e3) ((m.ex e2).ex e3) _ fun w H4 e4 d'' => hd H4 (((e.trans e2).trans e3).trans e4) (((m.ex e2).ex e3).ex e4) _ fun r H5 e5 d3 => ⟨sz_of (by show 4 ≤ 100000; decide), fun p hp => by
    have m4 : MOk M H5 := m.ex (((e2.trans e3).trans e4).trans e5)
    have e6 : Ex H5 (upd H5 p (.tup [v, u, w, r])) := Ex.new hp
    exact q _ _ ((((e2.trans e3).trans e4).trans e5).trans e6) (Dt.ofT4 (SqT.of (msk_at m4 hp)) (d.mono (msk_ex (((e3.trans e4).trans e5).trans e6))) (d'.mono (msk_ex ((e4.trans e5).trans e6))) (d''.mono (msk_ex (e5.trans e6))) (d3.mono (msk_ex e6)))⟩
/-- items of one type -/
def HAs (K : PySem.W.Frag) (M : List Addr) (ta : TA) (σ : L2.St) (H : Hp) (xs : List α) : Prop := HA M ta σ H (fun vs H => Dts K (msk M H) vs xs)
theorem has_nil : HAs K M tNil σ H ([] : List α) := fun H1 e m Q q => q [] H1 (Ex.refl H1) Dts.nil
theorem has_cons {tr : TA} {x : α} {xs : List α} (h : Hv K M te σ H x) (hr : HAs K M tr σ H xs) : HAs K M (tCons te tr) σ H (x :: xs) := fun H1 e m Q q =>
  h H1 e m _ fun v H2 e2 d => hr H2 (e.trans e2) (m.ex e2) _ fun vs H3 e3 p => q _ H3 (e2.trans e3) (Dts.cons (d.mono (msk_ex e3)) p)
theorem hv_lst {tr : TA} {xs : List α} (h : HAs K M tr σ H xs) (hl : xs.length ≤ 100000) : Hv K M (tLst tr) σ H xs := fun H1 e m Q q =>
  h H1 e m _ fun vs H2 e2 d => ⟨sz_of (by rw [d.len]; exact hl), fun p hp => by
    have e3 : Ex H2 (upd H2 p (.lst vs)) := Ex.new hp
    exact q _ _ (e2.trans e3) (Dt.ofList (SqL.of (msk_at (m.ex e2) hp)) (d.mono (msk_ex e3)))⟩
theorem hv_tupv {tr : TA} {xs : List α} (h : HAs K M tr σ H xs) (hl : xs.length ≤ 100000) : Hv K M (tTup tr) σ H (Tup.mk xs) := fun H1 e m Q q =>
  h H1 e m _ fun vs H2 e2 d => ⟨sz_of (by rw [d.len]; exact hl), fun p hp => by
    have e3 : Ex H2 (upd H2 p (.tup vs)) := Ex.new hp
    exact q _ _ (e2.trans e3) (Dt.ofTupv (SqT.of (msk_at (m.ex e2) hp)) (d.mono (msk_ex e3)))⟩

/-! ### items -/
theorem hv_ixL {xs : List α} {i : Int} {x : α} (ha : Hv K M ta σ H xs) (hb : Hv K M tb σ H i) (h0 : 0 ≤ i) (hx : xs[i.toNat]? = some x) : Hv K M (tOp (rIxL K) ta tb) σ H x := fun H1 e m Q q =>
  ha H1 e m _ fun v H2 e2 d => hb H2 (e.trans e2) (m.ex e2) _ fun u H3 e3 d' => by
    obtain ⟨a, vs, rfl, s, ds⟩ := d.list
    obtain ⟨w, h1, h2⟩ := ds.at hx
    exact ⟨a, vs, i, w, rfl, d'.int, ex_l (msk_le.trans e3) s, at_of (Int.toNat_of_nonneg h0).symm h1, q w H3 (e2.trans e3) (h2.mono (msk_ex e3))⟩
theorem hv_ixV {xs : Tup α} {i : Int} {x : α} (ha : Hv K M ta σ H xs) (hb : Hv K M tb σ H i) (h0 : 0 ≤ i) (hx : xs.items[i.toNat]? = some x) : Hv K M (tOp (rIxT K) ta tb) σ H x := fun H1 e m Q q =>
  ha H1 e m _ fun v H2 e2 d => hb H2 (e.trans e2) (m.ex e2) _ fun u H3 e3 d' => by
    obtain ⟨a, vs, rfl, s, ds⟩ := d.tupv
    obtain ⟨w, h1, h2⟩ := ds.at hx
    exact ⟨a, vs, i, w, rfl, d'.int, ex_t (msk_le.trans e3) s, at_of (Int.toNat_of_nonneg h0).symm h1, q w H3 (e2.trans e3) (h2.mono (msk_ex e3))⟩
theorem hv_p0 {p : α × β} (ha : Hv K M ta σ H p) : Hv K M (tOp (rIxT K) ta (tC (.int 0))) σ H p.1 := fun H1 e m Q q =>
  ha H1 e m _ fun v H2 e2 d => by
    obtain ⟨l, a, b, rfl, s, d1, d2⟩ := d.pair
    exact ⟨l, [a, b], 0, a, rfl, rfl, ex_t msk_le s, at_of (j := 0) rfl rfl, q a H2 e2 d1⟩
theorem hv_p1 {p : α × β} (ha : Hv K M ta σ H p) : Hv K M (tOp (rIxT K) ta (tC (.int 1))) σ H p.2 := fun H1 e m Q q =>
  ha H1 e m _ fun v H2 e2 d => by
    obtain ⟨l, a, b, rfl, s, d1, d2⟩ := d.pair
    exact ⟨l, [a, b], 1, b, rfl, rfl, ex_t msk_le s, at_of (j := 1) rfl rfl, q b H2 e2 d2⟩
theorem hv_t30 {p : T3 α β γ} (ha : Hv K M ta σ H p) : Hv K M (tOp (rIxT K) ta (tC (.int 0))) σ H p.a := fun H1 e m Q q =>
  ha H1 e m _ fun v H2 e2 d => by
    obtain ⟨l, a, b, c, rfl, s, d1, d2, d3⟩ := d.t3
    exact ⟨l, [a, b, c], 0, a, rfl, rfl, ex_t msk_le s, at_of (j := 0) rfl rfl, q a H2 e2 d1⟩
theorem hv_t31 {p : T3 α β γ} (ha : Hv K M ta σ H p) : Hv K M (tOp (rIxT K) ta (tC (.int 1))) σ H p.b := fun H1 e m Q q =>
  ha H1 e m _ fun v H2 e2 d => by
    obtain ⟨l, a, b, c, rfl, s, d1, d2, d3⟩ := d.t3
    exact ⟨l, [a, b, c], 1, b, rfl, rfl, ex_t msk_le s, at_of (j := 1) rfl rfl, q b H2 e2 d2⟩
theorem hv_t32 {p : T3 α β γ} (ha : Hv K M ta σ H p) : Hv K M (tOp (rIxT K) ta (tC (.int 2))) σ H p.c := fun H1 e m Q q =>
  ha H1 e m _ fun v H2 e2 d => by
    obtain ⟨l, a, b, c, rfl, s, d1, d2, d3⟩ := d.t3
    exact ⟨l, [a, b, c], 2, c, rfl, rfl, ex_t msk_le s, at_of (j := 2) rfl rfl, q c H2 e2 d3⟩
def T3.at {α : Type} (p : T3 α α α) (i : Int) : α := if i = 0 then p.a else if i = 1 then p.b else p.c
theorem hv_t3i {p : T3 α α α} {i : Int} (ha : Hv K M ta σ H p) (hb : Hv K M tb σ H i) (h0 : 0 ≤ i) (h3 : i < 3) : Hv K M (tOp (rIxT K) ta tb) σ H (Ly.T3.at p i) := fun H1 e m Q q =>
  ha H1 e m _ fun v H2 e2 d => hb H2 (e.trans e2) (m.ex e2) _ fun u H3 e3 d' => by
    obtain ⟨l, a, b, c, rfl, s, d1, d2, d3⟩ := d.t3
    have hh : i = 0 ∨ i = 1 ∨ i = 2 := by omega
    rcases hh with rfl | rfl | rfl
    · exact ⟨l, [a, b, c], 0, a, rfl, d'.int, ex_t (msk_le.trans e3) s, at_of (j := 0) rfl rfl, q a H3 (e2.trans e3) (d1.mono (msk_ex e3))⟩
    · exact ⟨l, [a, b, c], 1, b, rfl, d'.int, ex_t (msk_le.trans e3) s, at_of (j := 1) rfl rfl, q b H3 (e2.trans e3) (d2.mono (msk_ex e3))⟩
    · exact ⟨l, [a, b, c], 2, c, rfl, d'.int, ex_t (msk_le.trans e3) s, at_of (j := 2) rfl rfl, q c H3 (e2.trans e3) (d3.mono (msk_ex e3))⟩
end
end Ly

namespace Ly
open PySem PySem.Spec PyProof.Rows L2 Evl
open PySem.W (Datum DatumOrd Tup T3 T4)

/-! ### the state of a def: what its names hold -/
/-- what a thing that may still change holds -/
inductive Mv where
  | lst (ds : List PyData)
  | dic (kds : List (Key × PyData))
def MvOk (K : PySem.W.Frag) (H : Hp) (o : HO) : Mv → Prop
  | .lst ds => ∃ vs, o = .lst vs ∧ DpAll K H vs ds
  | .dic kds => ∃ kvs, o = .dK kvs ∧ kvs.map (·.1) = kds.map (·.1) ∧ DpAll K H (kvs.map (·.2)) (kds.map (·.2))
theorem MvOk.mono {K : PySem.W.Frag} {H H' : Hp} {o : HO} {m : Mv} (e : Ex H H') (h : MvOk K H o m) : MvOk K H' o m := by
  cases m with
  | lst ds => obtain ⟨vs, e1, e2⟩ := h; exact ⟨vs, e1, dpa_mono e e2⟩
  | dic kds => obtain ⟨vs, e1, e2, e3⟩ := h; exact ⟨vs, e1, e2, dpa_mono e e3⟩
abbrev Mus := List (Addr × Mv)
abbrev Ims := List (V × PyData)
def muA (mus : Mus) : List Addr := mus.map (·.1)
def Im (K : PySem.W.Frag) (H : Hp) : Ims → Prop
  | [] => True
  | (v, d) :: r => Dp K H v d ∧ Im K H r
def Mu (K : PySem.W.Frag) (Hm H : Hp) : Mus → Prop
  | [] => True
  | (l, m) :: r => (∃ o, H l = some o ∧ MvOk K Hm o m) ∧ Mu K Hm H r
theorem Im.mono {K : PySem.W.Frag} {H H' : Hp} (e : Ex H H') : ∀ {is : Ims}, Im K H is → Im K H' is
  | [], h => h
  | (_, _) :: _, h => ⟨dp_mono e h.1, Im.mono e h.2⟩
theorem Mu.mono {K : PySem.W.Frag} {Hm Hm' H H' : Hp} (e : Ex Hm Hm') (e' : Ex H H') : ∀ {ms : Mus}, Mu K Hm H ms → Mu K Hm' H' ms
  | [], h => h
  | (l, m) :: _, h => by
    obtain ⟨⟨o, h1, h2⟩, h3⟩ := h
    exact ⟨⟨o, e' l o h1, h2.mono e⟩, Mu.mono e e' h3⟩
theorem Mu.upd {K : PySem.W.Frag} {Hm H : Hp} {p : Addr} {o : HO} : ∀ {ms : Mus}, p ∉ muA ms → Mu K Hm H ms → Mu K Hm (upd H p o) ms
  | [], _, h => h
  | (l, m) :: r, n, h => by
    have n' : l ≠ p ∧ p ∉ muA r := by
      unfold muA at n
      simp only [List.map_cons, List.mem_cons, not_or] at n
      exact ⟨fun z => n.1 z.symm, n.2⟩
    obtain ⟨⟨o', h1, h2⟩, h3⟩ := h
    exact ⟨⟨o', by rw [upd_ne n'.1]; exact h1, h2⟩, Mu.upd n'.2 h3⟩
theorem Mu.get {K : PySem.W.Frag} {Hm H : Hp} : ∀ {ms : Mus} {k : Nat} {l : Addr} {m : Mv}, Mu K Hm H ms → ms[k]? = some (l, m) → ∃ o, H l = some o ∧ MvOk K Hm o m
  | [], k, _, _, _, e => by simp at e
  | (l, m) :: r, 0, _, _, h, e => by
    have e' : (l, m) = _ := Option.some.inj (show some (l, m) = some _ from e)
    cases e'
    exact h.1
  | (l, m) :: r, k + 1, _, _, h, e => Mu.get (ms := r) h.2 (by simpa using e)
theorem mem_muA {ms : Mus} {k : Nat} {l : Addr} {m : Mv} (e : ms[k]? = some (l, m)) : l ∈ muA ms := by
  have h : (l, m) ∈ ms := List.mem_of_getElem? e
  exact List.mem_map.mpr ⟨_, h, rfl⟩
theorem muA_set : ∀ {ms : Mus} {k : Nat} {l : Addr} {m m' : Mv}, ms[k]? = some (l, m) → muA (ms.set k (l, m')) = muA ms
  | [], k, _, _, _, e => by simp at e
  | (l, m) :: r, 0, _, _, _, e => by
    have e' : (l, m) = _ := Option.some.inj (show some (l, m) = some _ from e)
    cases e'
    rfl
  | (l, m) :: r, k + 1, l', m0, m', e => by
    have := muA_set (ms := r) (k := k) (m' := m') (show r[k]? = some (l', m0) by simpa using e)
    show l :: muA (r.set k (l', m')) = l :: muA r
    rw [this]
theorem Mu.set {K : PySem.W.Frag} {Hm H : Hp} {o : HO} {m' : Mv} : ∀ {ms : Mus} {k : Nat} {l : Addr} {m : Mv}, (muA ms).Nodup → ms[k]? = some (l, m) → MvOk K Hm o m' → Mu K Hm H ms → Mu K Hm (L2.upd H l o) (ms.set k (l, m'))
  | [], k, _, _, _, e, _, _ => by simp at e
  | (l, m) :: r, 0, _, _, nd, e, ok, h => by
    have e' : (l, m) = _ := Option.some.inj (show some (l, m) = some _ from e)
    cases e'
    have nd' : l ∉ muA r ∧ (muA r).Nodup := List.nodup_cons.mp nd
    exact ⟨⟨o, upd_same, ok⟩, Mu.upd nd'.1 h.2⟩
  | (l, m) :: r, k + 1, l', m0, nd, e, ok, h => by
    have nd' : l ∉ muA r ∧ (muA r).Nodup := List.nodup_cons.mp nd
    have e' : r[k]? = some (l', m0) := by simpa using e
    have ne : l ≠ l' := fun z => nd'.1 (z ▸ mem_muA e')
    obtain ⟨⟨o', h1, h2⟩, h3⟩ := h
    exact ⟨⟨o', by rw [upd_ne ne]; exact h1, h2⟩, Mu.set (ms := r) nd'.2 e' ok h3⟩

/-- Mc: what the caller may still change; He: the heap at the entry -/
structure Sg (K : PySem.W.Frag) (Mc : List Addr) (He H : Hp) (is : Ims) (ms : Mus) : Prop where
  ext : Ex He (msk (muA ms) H)
  okc : MOk Mc He
  nd : (muA ms).Nodup
  im : Im K (msk (muA ms ++ Mc) H) is
  mu : Mu K (msk (muA ms ++ Mc) H) H ms
section
variable {K : PySem.W.Frag} {Mc : List Addr} {He H H1 H2 : Hp} {is js : Ims} {ms : Mus} {σ : L2.St} {te ta tb tl : TE}
variable {α β : Type} [DecidableEq α] [Datum α] [DecidableEq β] [Datum β]
theorem Sg.enter (m : MOk Mc He) (im : Im K (msk Mc He) is) : Sg K Mc He He is [] := by
  refine ⟨?_, m, List.nodup_nil, im, True.intro⟩
  show Ex He (msk [] He)
  rw [msk_nil]
  exact Ex.refl He
theorem Sg.all (s : Sg K Mc He H is ms) : Ex He H := s.ext.trans msk_le
theorem Sg.mok (s : Sg K Mc He H is ms) : MOk (muA ms ++ Mc) H := fun l hl => by
  rcases List.mem_append.mp hl with h | h
  · obtain ⟨p, hp, e⟩ := List.mem_map.mp h
    obtain ⟨k, hk⟩ := List.getElem?_of_mem hp
    obtain ⟨o, ho, _⟩ := s.mu.get (k := k) (l := p.1) (m := p.2) hk
    rw [← e, ho]
    exact fun z => nomatch z
  · exact (s.okc.ex s.all) l h
theorem Sg.new_of (s : Sg K Mc He H is ms) {l : Addr} (h : l ∈ muA ms) : He l = none := by
  cases q : He l with
  | none => rfl
  | some o =>
    have := s.ext l o q
    rw [msk_in h] at this
    cases this
theorem Sg.notc (s : Sg K Mc He H is ms) {l : Addr} (h : l ∈ muA ms) : l ∉ Mc := fun z => s.okc l z (s.new_of h)
theorem Sg.ex (s : Sg K Mc He H is ms) (e : Ex H H1) : Sg K Mc He H1 is ms :=
  ⟨s.ext.trans (msk_ex e), s.okc, s.nd, s.im.mono (msk_ex e), s.mu.mono (msk_ex e) e⟩
theorem Sg.put (s : Sg K Mc He H is ms) {v : V} {x : α} (d : Dt K (msk (muA ms ++ Mc) H) v x) : Sg K Mc He H ((v, Datum.toD x) :: is) ms :=
  ⟨s.ext, s.okc, s.nd, ⟨d, s.im⟩, s.mu⟩
/-- a new thing that may change -/
theorem Sg.new (s : Sg K Mc He H is ms) {p : Addr} {o : HO} {m : Mv} (hp : H p = none) (ok : MvOk K (msk (p :: (muA ms ++ Mc)) (upd H p o)) o m) : Sg K Mc He (upd H p o) is ((p, m) :: ms) := by
  have np : p ∉ muA ms := fun z => by
    have := s.mok p (List.mem_append_left _ z)
    exact this hp
  refine ⟨s.ext.trans (msk_new hp), s.okc, List.nodup_cons.mpr ⟨np, s.nd⟩, ?_, ⟨⟨o, upd_same, ok⟩, ?_⟩⟩
  · exact s.im.mono (msk_new hp)
  · have h := s.mu.mono (msk_new (M := muA ms ++ Mc) (o := o) hp) (Ex.refl H)
    exact Mu.upd np h
/-- the k-th of what may change, changed -/
theorem Sg.set (s : Sg K Mc He H is ms) {k : Nat} {l : Addr} {m m' : Mv} {o : HO} (e : ms[k]? = some (l, m)) (ok : MvOk K (msk (muA ms ++ Mc) H) o m') : Sg K Mc He (upd H l o) is (ms.set k (l, m')) := by
  have hl : l ∈ muA ms := mem_muA e
  have ea := muA_set (m' := m') e
  have hl2 : l ∈ muA ms ++ Mc := List.mem_append_left _ hl
  refine ⟨?_, s.okc, by rw [ea]; exact s.nd, ?_, ?_⟩
  · rw [ea, msk_upd hl]; exact s.ext
  · rw [ea, msk_upd hl2]; exact s.im
  · rw [ea, msk_upd hl2]; exact Mu.set s.nd e ok s.mu
/-- no longer changed: the head of what may change, a list -/
theorem Sg.frz {l : Addr} {xs : List α} (s : Sg K Mc He H is ((l, .lst (xs.map Datum.toD)) :: ms)) : Sg K Mc He H ((.ref l, Datum.toD xs) :: is) ms := by
  have sub : Ex (msk (muA ((l, Mv.lst (xs.map Datum.toD)) :: ms) ++ Mc) H) (msk (muA ms ++ Mc) H) := msk_sub fun a ha => List.mem_cons_of_mem _ ha
  have nd := List.nodup_cons.mp s.nd
  obtain ⟨⟨o, h1, vs, e, h2⟩, h3⟩ := s.mu
  subst e
  have nl : l ∉ muA ms ++ Mc := fun z => (List.mem_append.mp z).elim nd.1 (s.notc List.mem_cons_self)
  refine ⟨s.ext.trans (msk_sub fun a ha => List.mem_cons_of_mem _ ha), s.okc, nd.2, ⟨?_, s.im.mono sub⟩, h3.mono sub (Ex.refl H)⟩
  exact Dt.ofList (SqL.of (by rw [msk_out nl]; exact h1)) (dpa_mono sub h2)
/-- what stands first moves behind -/
theorem Sg.rot {l l' : Addr} {m m' : Mv} (s : Sg K Mc He H is ((l, m) :: (l', m') :: ms)) : Sg K Mc He H is ((l', m') :: (l, m) :: ms) := by
  have ea : ∀ N : List Addr, msk (l :: l' :: N) H = msk (l' :: l :: N) H := fun N => by
    funext a
    unfold msk
    by_cases h : a ∈ l :: l' :: N
    · rw [if_pos h, if_pos (by simp only [List.mem_cons] at h ⊢; rcases h with h | h | h <;> simp [h])]
    · rw [if_neg h, if_neg (by simp only [List.mem_cons, not_or] at h ⊢; exact ⟨h.2.1, h.1, h.2.2⟩)]
  refine ⟨?_, s.okc, ?_, ?_, ?_⟩
  · have := s.ext
    show Ex He (msk (l' :: l :: muA ms) H)
    rw [← ea]; exact this
  · have nd : (l :: l' :: muA ms).Nodup := s.nd
    show (l' :: l :: muA ms).Nodup
    simp only [List.nodup_cons, List.mem_cons, not_or] at nd ⊢
    exact ⟨⟨fun z => nd.1.1 z.symm, nd.2.1⟩, nd.1.2, nd.2.2⟩
  · show Im K (msk (l' :: l :: (muA ms ++ Mc)) H) is
    rw [← ea]; exact s.im
  · have mu : (∃ o, H l = some o ∧ MvOk K (msk (l :: l' :: (muA ms ++ Mc)) H) o m) ∧ (∃ o, H l' = some o ∧ MvOk K (msk (l :: l' :: (muA ms ++ Mc)) H) o m') ∧ Mu K (msk (l :: l' :: (muA ms ++ Mc)) H) H ms := s.mu
    show (∃ o, H l' = some o ∧ MvOk K (msk (l' :: l :: (muA ms ++ Mc)) H) o m') ∧ (∃ o, H l = some o ∧ MvOk K (msk (l' :: l :: (muA ms ++ Mc)) H) o m) ∧ Mu K (msk (l' :: l :: (muA ms ++ Mc)) H) H ms
    rw [← ea]
    exact ⟨mu.2.1, mu.1, mu.2.2⟩
/-- forgetting what is known of names -/
theorem Sg.keep (s : Sg K Mc He H is ms) (h : ∀ Hm, Im K Hm is → Im K Hm js) : Sg K Mc He H js ms := ⟨s.ext, s.okc, s.nd, h _ s.im, s.mu⟩
theorem Sg.lst (s : Sg K Mc He H is ms) {k : Nat} {l : Addr} {xs : List α} (e : ms[k]? = some (l, .lst (xs.map Datum.toD))) : ∃ vs, H l = some (.lst vs) ∧ Dts K (msk (muA ms ++ Mc) H) vs xs := by
  obtain ⟨o, h1, vs, e1, h2⟩ := s.mu.get e
  subst e1
  exact ⟨vs, h1, h2⟩

/-! ### a list that may still change, read -/
def HS (K : PySem.W.Frag) (M : List Addr) (te : TE) (σ : L2.St) (H : Hp) (xs : List α) : Prop :=
  ∀ H1, Ex H H1 → MOk M H1 → ∀ Q : VK, (∀ a vs H2, Ex H1 H2 → SqL K H2 a vs → Dts K (msk M H2) vs xs → Q (.ref a) H2) → te σ H1 Q
theorem hs_of {M : List Addr} {xs : List α} (h : Hv K M te σ H xs) : HS K M te σ H xs := fun H1 e m Q q =>
  h H1 e m Q fun v H2 e2 d => by
    obtain ⟨a, vs, rfl, s, ds⟩ := d.list
    exact q a vs H2 e2 (ex_l msk_le s) ds
theorem hs_mut (s : Sg K Mc He H is ms) {k i : Nat} {l : Addr} {xs : List α} (e : ms[k]? = some (l, .lst (xs.map Datum.toD))) (h : σ[i]? = some (some (.ref l))) : HS K (muA ms ++ Mc) (tVar i) σ H xs := fun H1 e1 m Q q => by
  obtain ⟨vs, h1, h2⟩ := (s.ex e1).lst e
  exact ⟨_, h, q l vs H1 (Ex.refl H1) (SqL.of h1) h2⟩
/-- all of it, for a use that leaves nothing behind -/
theorem hv_mut (s : Sg K Mc He H is ms) {k i : Nat} {l : Addr} {xs : List α} (e : ms[k]? = some (l, .lst (xs.map Datum.toD))) (h : σ[i]? = some (some (.ref l))) : Hv K [] (tVar i) σ H xs := fun H1 e1 m Q q => by
  obtain ⟨vs, h1, h2⟩ := (s.ex e1).lst e
  refine ⟨_, h, q _ H1 (Ex.refl H1) ?_⟩
  rw [msk_nil]
  exact Dt.ofList (SqL.of h1) (h2.mono msk_le)
theorem hv_whole (s : Sg K Mc He H is ms) {x : α} (h : Hv K (muA ms ++ Mc) te σ H x) : Hv K [] te σ H x := fun H1 e m Q q =>
  h H1 e (s.mok.ex e) Q fun v H2 e2 d => q v H2 e2 (by rw [msk_nil]; exact d.mono msk_le)
theorem hv_wholeS (s : Sg K Mc He H is ms) {xs : List α} (h : HS K (muA ms ++ Mc) te σ H xs) : Hv K [] te σ H xs := fun H1 e m Q q =>
  h H1 e (s.mok.ex e) Q fun a vs H2 e2 s2 d => q _ H2 e2 (by rw [msk_nil]; exact Dt.ofList s2 (d.mono msk_le))
theorem hv_backI {M : List Addr} {x : Int} (h : Hv K [] te σ H x) : Hv K M te σ H x := fun H1 e m Q q =>
  h H1 e (fun _ z => nomatch z) Q fun v H2 e2 d => by rw [d.int]; exact q _ H2 e2 (Dt.ofInt x)
theorem hv_backB {M : List Addr} {x : Bool} (h : Hv K [] te σ H x) : Hv K M te σ H x := fun H1 e m Q q =>
  h H1 e (fun _ z => nomatch z) Q fun v H2 e2 d => by rw [d.bool]; exact q _ H2 e2 (Dt.ofBool x)
theorem hv_backS {M : List Addr} {x : Str} (h : Hv K [] te σ H x) : Hv K M te σ H x := fun H1 e m Q q =>
  h H1 e (fun _ z => nomatch z) Q fun v H2 e2 d => by rw [d.str]; exact q _ H2 e2 (Dt.ofStr x)
theorem hv_ixS {M : List Addr} {xs : List α} {i : Int} {x : α} (ha : HS K M ta σ H xs) (hb : Hv K M tb σ H i) (h0 : 0 ≤ i) (hx : xs[i.toNat]? = some x) : Hv K M (tOp (rIxL K) ta tb) σ H x := fun H1 e m Q q =>
  ha H1 e m _ fun a vs H2 e2 s ds => hb H2 (e.trans e2) (m.ex e2) _ fun u H3 e3 d' => by
    obtain ⟨w, h1, h2⟩ := ds.at hx
    exact ⟨a, vs, i, w, rfl, d'.int, ex_l e3 s, at_of (Int.toNat_of_nonneg h0).symm h1, q w H3 (e2.trans e3) (h2.mono (msk_ex e3))⟩

/-! ### statements -/
variable {D : Ends} {tz tu tw : TS} {tt : TT} {g : TG}
theorem z_asg {i : Nat} {x : α} (s : Sg K Mc He H is ms) (h : Hv K (muA ms ++ Mc) te σ H x) (k : ∀ v H1, Sg K Mc He H1 ((v, Datum.toD x) :: is) ms → tz D (σ.set i (some v)) H1) : tSeq (tAsg te (gName i)) tz D σ H :=
  h H (Ex.refl H) s.mok _ fun v H1 e d => k v H1 ((s.ex e).put d)
theorem z_asgI {i : Nat} {x : Int} (s : Sg K Mc He H is ms) (h : Hv K (muA ms ++ Mc) te σ H x) (k : ∀ H1, Sg K Mc He H1 is ms → tz D (σ.set i (some (.int x))) H1) : tSeq (tAsg te (gName i)) tz D σ H :=
  h H (Ex.refl H) s.mok _ fun v H1 e d => by rw [d.int]; exact k H1 (s.ex e)
theorem z_asgB {i : Nat} {x : Bool} (s : Sg K Mc He H is ms) (h : Hv K (muA ms ++ Mc) te σ H x) (k : ∀ H1, Sg K Mc He H1 is ms → tz D (σ.set i (some (.bl x))) H1) : tSeq (tAsg te (gName i)) tz D σ H :=
  h H (Ex.refl H) s.mok _ fun v H1 e d => by rw [d.bool]; exact k H1 (s.ex e)
theorem z_asgS {i : Nat} {x : Str} (s : Sg K Mc He H is ms) (h : Hv K (muA ms ++ Mc) te σ H x) (k : ∀ H1, Sg K Mc He H1 is ms → tz D (σ.set i (some (.str x))) H1) : tSeq (tAsg te (gName i)) tz D σ H :=
  h H (Ex.refl H) s.mok _ fun v H1 e d => by rw [d.str]; exact k H1 (s.ex e)
/-- x = [], to be filled -/
theorem z_nil {i : Nat} (s : Sg K Mc He H is ms) (k : ∀ p H1, Sg K Mc He H1 is ((p, .lst []) :: ms) → tz D (σ.set i (some (.ref p))) H1) : tSeq (tAsg (tLst tNil) (gName i)) tz D σ H :=
  ⟨Nat.zero_le _, fun p hp => k p _ (s.new hp ⟨[], rfl, .nil⟩)⟩
theorem z_if {b : Bool} (s : Sg K Mc He H is ms) (h : HT (muA ms ++ Mc) tt σ H b) (h1 : b = true → ∀ H1, Sg K Mc He H1 is ms → tu { D with nx := tz D } σ H1) (h2 : b = false → ∀ H1, Sg K Mc He H1 is ms → tw { D with nx := tz D } σ H1) :
    tSeq (tIfS tt tu tw) tz D σ H := h H (Ex.refl H) s.mok _ fun H1 e => by
  cases b with
  | true => exact h1 rfl H1 (s.ex e)
  | false => exact h2 rfl H1 (s.ex e)
theorem z_ifE {b : Bool} (s : Sg K Mc He H is ms) (h : HT (muA ms ++ Mc) tt σ H b) (h1 : b = true → ∀ H1, Sg K Mc He H1 is ms → tu D σ H1) (h2 : b = false → ∀ H1, Sg K Mc He H1 is ms → tw D σ H1) :
    tIfS tt tu tw D σ H := h H (Ex.refl H) s.mok _ fun H1 e => by
  cases b with
  | true => exact h1 rfl H1 (s.ex e)
  | false => exact h2 rfl H1 (s.ex e)
theorem z_ret {x : α} (s : Sg K Mc He H is ms) (h : Hv K (muA ms ++ Mc) te σ H x) (k : ∀ v H1, Ex He H1 → Dt K (msk Mc H1) v x → D.rt v H1) : tRet te D σ H :=
  h H (Ex.refl H) s.mok _ fun v H1 e d => k v H1 (s.ex e).all (d.mono (msk_sub fun a ha => List.mem_append_right _ ha))
/-- xs.append(e) -/
theorem z_app {kk : Nat} {l : Addr} {xs : List α} {x : α} (s : Sg K Mc He H is ms) (e : ms[kk]? = some (l, .lst (xs.map Datum.toD))) (hi : Ev ta σ H (.ref l)) (h : Hv K (muA ms ++ Mc) te σ H x) (hz : xs.length < 100000)
    (k : ∀ H1, Sg K Mc He H1 is (ms.set kk (l, .lst ((xs ++ [x]).map Datum.toD))) → D.nx σ H1) : tDrop (tBM K "list" rAppend ta (tCons te tNil)) D σ H := hi H (Ex.refl H) _ fun H1 e1 => by
  obtain ⟨vs, h1, h2⟩ := (s.ex e1).lst e
  refine ⟨Or.inl ⟨rfl, vs, sq_of h1⟩, h H1 e1 (s.mok.ex e1) _ fun v H2 e2 d => ?_⟩
  obtain ⟨vs', h3, h4⟩ := ((s.ex e1).ex e2).lst e
  refine ⟨l, vs', v, rfl, rfl, h3, sz_lt (by rw [h4.len]; exact hz), k _ (((s.ex e1).ex e2).set e ⟨_, rfl, ?_⟩)⟩
  rw [List.map_append]
  exact dpa_app h4 (.cons d .nil)
theorem zq_app {kk : Nat} {l : Addr} {xs : List α} {x : α} (s : Sg K Mc He H is ms) (e : ms[kk]? = some (l, .lst (xs.map Datum.toD))) (hi : Ev ta σ H (.ref l)) (h : Hv K (muA ms ++ Mc) te σ H x) (hz : xs.length < 100000)
    (k : ∀ H1, Sg K Mc He H1 is (ms.set kk (l, .lst ((xs ++ [x]).map Datum.toD))) → tz D σ H1) : tSeq (tDrop (tBM K "list" rAppend ta (tCons te tNil))) tz D σ H := z_app (D := { D with nx := tz D }) s e hi h hz k
/-- the same as last statements -/
theorem z_asgE {i : Nat} {x : α} (s : Sg K Mc He H is ms) (h : Hv K (muA ms ++ Mc) te σ H x) (k : ∀ v H1, Sg K Mc He H1 ((v, Datum.toD x) :: is) ms → D.nx (σ.set i (some v)) H1) : tAsg te (gName i) D σ H :=
  h H (Ex.refl H) s.mok _ fun v H1 e d => k v H1 ((s.ex e).put d)
theorem z_asgIE {i : Nat} {x : Int} (s : Sg K Mc He H is ms) (h : Hv K (muA ms ++ Mc) te σ H x) (k : ∀ H1, Sg K Mc He H1 is ms → D.nx (σ.set i (some (.int x))) H1) : tAsg te (gName i) D σ H :=
  h H (Ex.refl H) s.mok _ fun v H1 e d => by rw [d.int]; exact k H1 (s.ex e)
theorem z_asgBE {i : Nat} {x : Bool} (s : Sg K Mc He H is ms) (h : Hv K (muA ms ++ Mc) te σ H x) (k : ∀ H1, Sg K Mc He H1 is ms → D.nx (σ.set i (some (.bl x))) H1) : tAsg te (gName i) D σ H :=
  h H (Ex.refl H) s.mok _ fun v H1 e d => by rw [d.bool]; exact k H1 (s.ex e)
theorem z_asgSE {i : Nat} {x : Str} (s : Sg K Mc He H is ms) (h : Hv K (muA ms ++ Mc) te σ H x) (k : ∀ H1, Sg K Mc He H1 is ms → D.nx (σ.set i (some (.str x))) H1) : tAsg te (gName i) D σ H :=
  h H (Ex.refl H) s.mok _ fun v H1 e d => by rw [d.str]; exact k H1 (s.ex e)
theorem z_cut {N : L2.St → Hp → Prop} (h : tu { D with nx := N } σ H) (k : ∀ σ' H', N σ' H' → tz D σ' H') : tCut tu tz D σ H := ⟨N, h, k⟩

/-! ### loops -/
theorem for_listD {M : List Addr} {a : Addr} {xs : List α} (Pv : Nat → L2.St → Hp → Prop) (h0 : Pv 0 σ H) (hl : ∀ i σ' H', i ≤ xs.length → Pv i σ' H' → ∃ vs, SqL K H' a vs ∧ Dts K (msk M H') vs xs)
    (hs : ∀ i x w σ' H', xs[i]? = some x → Pv i σ' H' → Dt K (msk M H') w x → g w σ' H' fun σ2 H2 => tu { D with nx := Pv (i + 1), ct := Pv (i + 1), bk := D.nx } σ2 H2) (hd : ∀ σ' H', Pv xs.length σ' H' → D.nx σ' H') :
    ∃ W : Nat → Nat → L2.St → Hp → Prop, (∃ m, W 0 m σ H) ∧ ∀ i m σ H, W i m σ H →
      ((Itl K a).stop i H ∧ D.nx σ H) ∨ ((Itl K a).go i H ∧ ∃ N : L2.St → Hp → Prop, (∀ σ' H', N σ' H' → ∃ m', m' < m ∧ W (i + 1) m' σ' H') ∧ ∀ x H', (Itl K a).yld i H x H' → g x σ H' fun σ2 H2 => tu { D with nx := N, ct := N, bk := D.nx } σ2 H2) := by
  refine ⟨fun i m σ H => m = xs.length - i ∧ i ≤ xs.length ∧ Pv i σ H, ⟨xs.length, by simp, Nat.zero_le _, h0⟩, ?_⟩
  rintro i m σ H ⟨rfl, hi, p⟩
  obtain ⟨vs, q, ds⟩ := hl i σ H hi p
  have el := ds.len
  by_cases hlt : i < xs.length
  · refine .inr ⟨⟨vs, vs[i]'(by omega), q, by simp [show i < vs.length by omega]⟩, Pv (i + 1), fun σ' H' p' => ⟨xs.length - (i + 1), by omega, rfl, hlt, p'⟩, fun x H' y => ?_⟩
    obtain ⟨e, y⟩ := y
    subst e
    obtain ⟨w, h1, h2⟩ := ds.at (i := i) (x := xs[i]) (by simp [hlt])
    have e1 : x = w := Option.some.inj ((y vs q).symm.trans h1)
    subst e1
    exact hs i _ x σ _ (by simp [hlt]) p h2
  · have e : i = xs.length := by omega
    subst e
    exact .inl ⟨⟨vs, q, by omega⟩, hd σ H p⟩
/-- over a value -/
theorem z_for {xs : List α} (s : Sg K Mc He H is ms) (h : Hv K (muA ms ++ Mc) tl σ H xs) (Pv : V → Nat → L2.St → Hp → Prop) (h0 : ∀ v H1, Sg K Mc He H1 ((v, Datum.toD xs) :: is) ms → Pv v 0 σ H1)
    (hl : ∀ v i σ' H', Pv v i σ' H' → Dt K (msk (muA ms ++ Mc) H') v xs)
    (hs : ∀ v i x w σ' H', xs[i]? = some x → Pv v i σ' H' → Dt K (msk (muA ms ++ Mc) H') w x → g w σ' H' fun σ2 H2 => tu { D with nx := Pv v (i + 1), ct := Pv v (i + 1), bk := D.nx } σ2 H2)
    (hd : ∀ v σ' H', Pv v xs.length σ' H' → D.nx σ' H') : tFor (iList K tl) g tu D σ H :=
  h H (Ex.refl H) s.mok _ fun v H1 e d => by
    obtain ⟨a, vs, rfl, s1, ds⟩ := d.list
    refine ⟨a, rfl, ⟨vs, ex_l msk_le s1⟩, for_listD (Pv (.ref a)) (h0 _ H1 ((s.ex e).put d)) (fun i σ' H' _ p => ?_) (hs _) (hd _)⟩
    obtain ⟨a', vs', e', s2, ds'⟩ := (hl _ i σ' H' p).list
    cases e'
    exact ⟨vs', ex_l msk_le s2, ds'⟩
theorem zq_for {xs : List α} (s : Sg K Mc He H is ms) (h : Hv K (muA ms ++ Mc) tl σ H xs) (Pv : V → Nat → L2.St → Hp → Prop) (h0 : ∀ v H1, Sg K Mc He H1 ((v, Datum.toD xs) :: is) ms → Pv v 0 σ H1)
    (hl : ∀ v i σ' H', Pv v i σ' H' → Dt K (msk (muA ms ++ Mc) H') v xs)
    (hs : ∀ v i x w σ' H', xs[i]? = some x → Pv v i σ' H' → Dt K (msk (muA ms ++ Mc) H') w x → g w σ' H' fun σ2 H2 => tu { D with nx := Pv v (i + 1), ct := Pv v (i + 1), bk := tz D } σ2 H2)
    (hd : ∀ v σ' H', Pv v xs.length σ' H' → tz D σ' H') : tSeq (tFor (iList K tl) g tu) tz D σ H := z_for (D := { D with nx := tz D }) s h Pv h0 hl hs hd
/-- over the numbers 0 .. n - 1 -/
theorem z_forR {j : Nat} {n : Int} (s : Sg K Mc He H is ms) (h : Hv K (muA ms ++ Mc) te σ H n) (hn : -100000 ≤ n ∧ n ≤ 100000) (Pv : Nat → L2.St → Hp → Prop) (h0 : ∀ H1, Sg K Mc He H1 is ms → Pv 0 σ H1)
    (hs : ∀ (i : Nat) σ' H', (i : Int) < n → Pv i σ' H' → tu { D with nx := Pv (i + 1), ct := Pv (i + 1), bk := D.nx } (σ'.set j (some (.int (i : Int)))) H') (hd : ∀ σ' H', Pv n.toNat σ' H' → D.nx σ' H') : tFor (iRng1 (tCons te tNil)) (gName j) tu D σ H :=
  h H (Ex.refl H) s.mok _ fun v H1 e d => by
    refine ⟨n, by rw [d.int], by omega, by omega, for_range (lo := 0) (n := n.toNat) Pv (h0 H1 (s.ex e)) (fun i σ' H' hi p => ?_) hd⟩
    have e0 : (0 : Int) + (i : Int) = (i : Int) := Int.zero_add _
    show tu { D with nx := Pv (i + 1), ct := Pv (i + 1), bk := D.nx } (σ'.set j (some (.int ((0 : Int) + (i : Int))))) H'
    rw [e0]
    exact hs i σ' H' (by omega) p
theorem zq_forR {j : Nat} {n : Int} (s : Sg K Mc He H is ms) (h : Hv K (muA ms ++ Mc) te σ H n) (hn : -100000 ≤ n ∧ n ≤ 100000) (Pv : Nat → L2.St → Hp → Prop) (h0 : ∀ H1, Sg K Mc He H1 is ms → Pv 0 σ H1)
    (hs : ∀ (i : Nat) σ' H', (i : Int) < n → Pv i σ' H' → tu { D with nx := Pv (i + 1), ct := Pv (i + 1), bk := tz D } (σ'.set j (some (.int (i : Int)))) H') (hd : ∀ σ' H', Pv n.toNat σ' H' → tz D σ' H') : tSeq (tFor (iRng1 (tCons te tNil)) (gName j) tu) tz D σ H :=
  z_forR (D := { D with nx := tz D }) s h hn Pv h0 hs hd
theorem z_forR2 {j : Nat} {lo n : Int} (s : Sg K Mc He H is ms) (h1 : Hv K (muA ms ++ Mc) ta σ H lo) (h : Hv K (muA ms ++ Mc) te σ H n) (hn : -100000 ≤ lo ∧ lo ≤ 100000 ∧ -100000 ≤ n ∧ n ≤ 100000) (Pv : Nat → L2.St → Hp → Prop) (h0 : ∀ H1, Sg K Mc He H1 is ms → Pv 0 σ H1)
    (hs : ∀ (i : Nat) σ' H', lo + (i : Int) < n → Pv i σ' H' → tu { D with nx := Pv (i + 1), ct := Pv (i + 1), bk := D.nx } (σ'.set j (some (.int (lo + (i : Int))))) H') (hd : ∀ σ' H', Pv (n - lo).toNat σ' H' → D.nx σ' H') : tFor (iRng2 (tCons ta (tCons te tNil))) (gName j) tu D σ H :=
  h1 H (Ex.refl H) s.mok _ fun v H1 e d => h H1 e (s.mok.ex e) _ fun v' H2 e2 d' => by
    refine ⟨lo, n, by rw [d.int, d'.int], ⟨by omega, by omega, by omega, by omega⟩, for_range (lo := lo) (n := (n - lo).toNat) Pv (h0 H2 ((s.ex e).ex e2)) (fun i σ' H' hi p => hs i σ' H' (by omega) p) hd⟩
theorem zq_forR2 {j : Nat} {lo n : Int} (s : Sg K Mc He H is ms) (h1 : Hv K (muA ms ++ Mc) ta σ H lo) (h : Hv K (muA ms ++ Mc) te σ H n) (hn : -100000 ≤ lo ∧ lo ≤ 100000 ∧ -100000 ≤ n ∧ n ≤ 100000) (Pv : Nat → L2.St → Hp → Prop) (h0 : ∀ H1, Sg K Mc He H1 is ms → Pv 0 σ H1)
    (hs : ∀ (i : Nat) σ' H', lo + (i : Int) < n → Pv i σ' H' → tu { D with nx := Pv (i + 1), ct := Pv (i + 1), bk := tz D } (σ'.set j (some (.int (lo + (i : Int))))) H') (hd : ∀ σ' H', Pv (n - lo).toNat σ' H' → tz D σ' H') : tSeq (tFor (iRng2 (tCons ta (tCons te tNil))) (gName j) tu) tz D σ H :=
  z_forR2 (D := { D with nx := tz D }) s h1 h hn Pv h0 hs hd
end
end Ly

namespace Ly
open PySem PySem.Spec PyProof.Rows L2 Evl
open PySem.W (Datum DatumOrd Tup T3 T4)

/-! ### calls -/
section
variable {K : PySem.W.Frag} {Mc M : List Addr} {He H H1 H2 : Hp} {is js : Ims} {ms : Mus} {σ : L2.St} {te ta tb tl : TE}
variable {α β γ : Type} [DecidableEq α] [Datum α] [DecidableEq β] [Datum β]
/-- the promise of a def that changes nothing: its arguments hold what args tells of c, it gives F c -/
def PrD (K : PySem.W.Frag) (args : γ → List PyData) (pre : γ → Prop) (F : γ → β) : Sp := fun vs H Q _ =>
  ∃ (Mc : List Addr) (c : γ), MOk Mc H ∧ DpAll K (msk Mc H) vs (args c) ∧ pre c ∧ ∀ w H', Ex H H' → Dt K (msk Mc H') w (F c) → Q w H'
def HD (K : PySem.W.Frag) (M : List Addr) (ta : TA) (σ : L2.St) (H : Hp) (ds : List PyData) : Prop := HA M ta σ H (fun vs H => DpAll K (msk M H) vs ds)
theorem hd_nil : HD K M tNil σ H [] := fun H1 e m Q q => q [] H1 (Ex.refl H1) .nil
theorem hd_cons {tr : TA} {x : α} {ds : List PyData} (h : Hv K M te σ H x) (hr : HD K M tr σ H ds) : HD K M (tCons te tr) σ H (Datum.toD x :: ds) := fun H1 e m Q q =>
  h H1 e m _ fun v H2 e2 d => hr H2 (e.trans e2) (m.ex e2) _ fun vs H3 e3 p => q _ H3 (e2.trans e3) (.cons (dp_mono (msk_ex e3) d) p)
theorem hv_call {args : γ → List PyData} {pre : γ → Prop} {F : γ → β} {tr : TA} {E : XK} (c : γ) (h : HD K M tr σ H (args c)) (p : pre c) : Hv K M (tCall (PrD K args pre F) [] E tr) σ H (F c) := fun H1 e m Q q =>
  h H1 e m _ fun vs H2 e2 d => by
    show PrD K args pre F (vs ++ []) H2 Q E
    rw [List.append_nil]
    exact ⟨M, c, m.ex e2, d, p, fun w H3 e3 d3 => q w H3 (e2.trans e3) d3⟩
end

/-! ### loops, as functions -/
def loopN {S : Type} (f : S → Int → S) : Nat → Int → S → S
  | 0, _, s => s
  | n + 1, k, s => loopN f n (k + 1) (f s k)
theorem loopN_step {S : Type} {f : S → Int → S} {n i : Nat} {lo : Int} {s : S} (h : i < n) : loopN f (n - i) (lo + (i : Int)) s = loopN f (n - (i + 1)) (lo + ((i + 1 : Nat) : Int)) (f s (lo + (i : Int))) := by
  have e : n - i = (n - (i + 1)) + 1 := by omega
  rw [e]
  show loopN f (n - (i + 1)) (lo + (i : Int) + 1) _ = _
  rw [show lo + (i : Int) + 1 = lo + ((i + 1 : Nat) : Int) by omega]
theorem loopN_end {S : Type} {f : S → Int → S} {n : Nat} {lo : Int} {s : S} : loopN f (n - n) lo s = s := by rw [Nat.sub_self]; rfl
/-- a turn that may leave: a result, a break, or on -/
inductive Lp (ρ S : Type) where
  | ret (r : ρ)
  | brk (s : S)
  | nxt (s : S)
def loopNR {ρ S : Type} (f : S → Int → Lp ρ S) : Nat → Int → S → ρ ⊕ S
  | 0, _, s => .inr s
  | n + 1, k, s => match f s k with
    | .ret r => .inl r
    | .brk s' => .inr s'
    | .nxt s' => loopNR f n (k + 1) s'
theorem loopNR_nxt {ρ S : Type} {f : S → Int → Lp ρ S} {n i : Nat} {lo : Int} {s s' : S} (h : i < n) (e : f s (lo + (i : Int)) = .nxt s') : loopNR f (n - i) (lo + (i : Int)) s = loopNR f (n - (i + 1)) (lo + ((i + 1 : Nat) : Int)) s' := by
  have e1 : n - i = (n - (i + 1)) + 1 := by omega
  rw [e1]
  show (match f s (lo + (i : Int)) with | .ret r => Sum.inl r | .brk s' => Sum.inr s' | .nxt s' => loopNR f (n - (i + 1)) (lo + (i : Int) + 1) s') = _
  rw [e, show lo + (i : Int) + 1 = lo + ((i + 1 : Nat) : Int) by omega]
theorem loopNR_ret {ρ S : Type} {f : S → Int → Lp ρ S} {n i : Nat} {lo : Int} {s : S} {r : ρ} (h : i < n) (e : f s (lo + (i : Int)) = .ret r) : loopNR f (n - i) (lo + (i : Int)) s = .inl r := by
  have e1 : n - i = (n - (i + 1)) + 1 := by omega
  rw [e1]
  show (match f s (lo + (i : Int)) with | .ret r => Sum.inl r | .brk s' => Sum.inr s' | .nxt s' => loopNR f (n - (i + 1)) (lo + (i : Int) + 1) s') = _
  rw [e]
theorem loopNR_brk {ρ S : Type} {f : S → Int → Lp ρ S} {n i : Nat} {lo : Int} {s s' : S} (h : i < n) (e : f s (lo + (i : Int)) = .brk s') : loopNR f (n - i) (lo + (i : Int)) s = .inr s' := by
  have e1 : n - i = (n - (i + 1)) + 1 := by omega
  rw [e1]
  show (match f s (lo + (i : Int)) with | .ret r => Sum.inl r | .brk s' => Sum.inr s' | .nxt s' => loopNR f (n - (i + 1)) (lo + (i : Int) + 1) s') = _
  rw [e]
theorem loopNR_end {ρ S : Type} {f : S → Int → Lp ρ S} {n : Nat} {lo : Int} {s : S} : loopNR f (n - n) lo s = .inr s := by rw [Nat.sub_self]; rfl
theorem drop_at {α : Type} {xs : List α} {i : Nat} {x : α} (h : xs[i]? = some x) : xs.drop i = x :: xs.drop (i + 1) := by
  obtain ⟨h1, h2⟩ := List.getElem?_eq_some_iff.mp h
  rw [List.drop_eq_getElem_cons h1, h2]
theorem foldl_step {α S : Type} {f : S → α → S} {xs : List α} {i : Nat} {x : α} {s : S} (h : xs[i]? = some x) : (xs.drop i).foldl f s = (xs.drop (i + 1)).foldl f (f s x) := by
  rw [drop_at h]; rfl
theorem foldl_end {α S : Type} {f : S → α → S} {xs : List α} {s : S} : (xs.drop xs.length).foldl f s = s := by rw [List.drop_length]; rfl
def loopL {α ρ S : Type} (f : S → α → Lp ρ S) : List α → S → ρ ⊕ S
  | [], s => .inr s
  | x :: r, s => match f s x with
    | .ret r => .inl r
    | .brk s' => .inr s'
    | .nxt s' => loopL f r s'
theorem loopL_nxt {α ρ S : Type} {f : S → α → Lp ρ S} {xs : List α} {i : Nat} {x : α} {s s' : S} (h : xs[i]? = some x) (e : f s x = .nxt s') : loopL f (xs.drop i) s = loopL f (xs.drop (i + 1)) s' := by
  rw [drop_at h, loopL, e]
theorem loopL_ret {α ρ S : Type} {f : S → α → Lp ρ S} {xs : List α} {i : Nat} {x : α} {s : S} {r : ρ} (h : xs[i]? = some x) (e : f s x = .ret r) : loopL f (xs.drop i) s = .inl r := by
  rw [drop_at h, loopL, e]
theorem loopL_brk {α ρ S : Type} {f : S → α → Lp ρ S} {xs : List α} {i : Nat} {x : α} {s s' : S} (h : xs[i]? = some x) (e : f s x = .brk s') : loopL f (xs.drop i) s = .inr s' := by
  rw [drop_at h, loopL, e]
theorem loopL_end {α ρ S : Type} {f : S → α → Lp ρ S} {xs : List α} {s : S} : loopL f (xs.drop xs.length) s = .inr s := by rw [List.drop_length]; rfl

/-! ### items, lengths -/
section
variable {K : PySem.W.Frag} {Mc M : List Addr} {He H H1 H2 : Hp} {is js : Ims} {ms : Mus} {σ : L2.St} {te ta tb tl : TE}
variable {α β γ : Type} [DecidableEq α] [Datum α] [DecidableEq β] [Datum β] [DecidableEq γ] [Datum γ]
theorem getD_at {xs : List α} {i : Int} {d : α} (h0 : 0 ≤ i) (h : i < (xs.length : Int)) : xs[i.toNat]? = some (xs.getD i.toNat d) := by
  have h1 : i.toNat < xs.length := by omega
  rw [List.getD_eq_getElem?_getD, List.getElem?_eq_getElem h1]
  rfl
theorem hv_at {xs : List α} {i : Int} (d : α) (ha : HS K M ta σ H xs) (hb : Hv K M tb σ H i) (h0 : 0 ≤ i) (h : i < (xs.length : Int)) : Hv K M (tOp (rIxL K) ta tb) σ H (xs.getD i.toNat d) :=
  hv_ixS ha hb h0 (getD_at h0 h)
theorem hv_atV {xs : Tup α} {i : Int} (d : α) (ha : Hv K M ta σ H xs) (hb : Hv K M tb σ H i) (h0 : 0 ≤ i) (h : i < (xs.items.length : Int)) : Hv K M (tOp (rIxT K) ta tb) σ H (xs.items.getD i.toNat d) :=
  hv_ixV ha hb h0 (getD_at h0 h)
/-- len -/
theorem hv_len {xs : List α} (ha : HS K M ta σ H xs) : Hv K M (tCB (fun xs H Q => ∃ x n, xs = [x] ∧ LenV K x H n ∧ Q (.int n) H) (tCons ta tNil)) σ H (xs.length : Int) := fun H1 e m Q q =>
  ha H1 e m _ fun a vs H2 e2 s d => ⟨.ref a, vs.length, rfl, Or.inl ⟨vs, s, rfl⟩, q _ H2 e2 (by rw [d.len]; exact Dt.ofInt _)⟩
theorem hv_lenV {xs : Tup α} (ha : Hv K M ta σ H xs) : Hv K M (tCB (fun xs H Q => ∃ x n, xs = [x] ∧ LenV K x H n ∧ Q (.int n) H) (tCons ta tNil)) σ H (xs.items.length : Int) := fun H1 e m Q q =>
  ha H1 e m _ fun v H2 e2 d => by
    obtain ⟨a, vs, rfl, s, ds⟩ := d.tupv
    exact ⟨.ref a, vs.length, rfl, Or.inr ⟨vs, ex_t msk_le s, rfl⟩, q _ H2 e2 (by rw [ds.len]; exact Dt.ofInt _)⟩
theorem hv_len2 {x : α × β} (ha : Hv K M ta σ H x) : Hv K M (tCB (fun xs H Q => ∃ x n, xs = [x] ∧ LenV K x H n ∧ Q (.int n) H) (tCons ta tNil)) σ H (2 : Int) := fun H1 e m Q q =>
  ha H1 e m _ fun v H2 e2 d => by
    obtain ⟨a, u, w, rfl, s, _⟩ := d.pair
    exact ⟨.ref a, 2, rfl, Or.inr ⟨_, ex_t msk_le s, rfl⟩, q _ H2 e2 (Dt.ofInt _)⟩
theorem hv_len3 {x : T3 α β γ} (ha : Hv K M ta σ H x) : Hv K M (tCB (fun xs H Q => ∃ x n, xs = [x] ∧ LenV K x H n ∧ Q (.int n) H) (tCons ta tNil)) σ H (3 : Int) := fun H1 e m Q q =>
  ha H1 e m _ fun v H2 e2 d => by
    obtain ⟨a, u, w, z, rfl, s, _⟩ := d.t3
    exact ⟨.ref a, 3, rfl, Or.inr ⟨_, ex_t msk_le s, rfl⟩, q _ H2 e2 (Dt.ofInt _)⟩

/-! ### isinstance -/
/-- the built-in type of every value of α -/
class TyNm (α : Type) [DecidableEq α] [Datum α] where
  nm : String
  ty : ∀ {K : PySem.W.Frag} {H : Hp} {v : V} {x : α}, Dt K H v x → TyX K H v (.type nm)
theorem tyx_ex {K : PySem.W.Frag} {H H' : Hp} {v : V} {n : String} (e : Ex H H') (h : TyX K H v (.type n)) : TyX K H' v (.type n) := by
  cases h with
  | base h =>
    cases h with
    | non => exact .base .non
    | bl b => exact .base (.bl b)
    | int b => exact .base (.int b)
    | str b => exact .base (.str b)
    | flt b => exact .base (.flt b)
    | lst h => exact .base (.lst (e _ _ h))
    | frz h => exact .base (.frz (e _ _ h))
    | tup h => exact .base (.tup (e _ _ h))
    | dK h => exact .base (.dK (e _ _ h))
    | dT h => exact .base (.dT (e _ _ h))
  | byt y => exact .byt y
  | set h => exact .set (e _ _ h)
  | kList h c => exact .kList h c
  | kTuple h c => exact .kTuple h c
  | kDict h c => exact .kDict h c
  | fTuple h => exact .fTuple (e _ _ h)
  | fDict h => exact .fDict (e _ _ h)

instance : TyNm Int := ⟨"int", fun d => by cases d.int; exact .base (.int _)⟩
instance : TyNm Bool := ⟨"bool", fun d => by cases d.bool; exact .base (.bl _)⟩
instance : TyNm Str := ⟨"str", fun d => by cases d.str; exact .base (.str _)⟩
theorem tyx_L {K : PySem.W.Frag} {H : Hp} {a : Addr} {vs : List V} (h : SqL K H a vs) : TyX K H (.ref a) (.type "list") := by
  rcases h with (h | ⟨o, h⟩) | ⟨o, its, n, h, c, _⟩
  · exact .base (.lst h)
  · exact .base (.frz h)
  · exact .kList h c
theorem tyx_T {K : PySem.W.Frag} {H : Hp} {a : Addr} {vs : List V} (h : SqT K H a vs) : TyX K H (.ref a) (.type "tuple") := by
  rcases h with (h | ⟨o, h⟩) | ⟨o, its, n, h, c, _⟩
  · exact .base (.tup h)
  · exact .fTuple h
  · exact .kTuple h c
instance : TyNm (List α) := ⟨"list", fun d => by obtain ⟨a, vs, rfl, s, _⟩ := d.list; exact tyx_L s⟩
instance : TyNm (Tup α) := ⟨"tuple", fun d => by obtain ⟨a, vs, rfl, s, _⟩ := d.tupv; exact tyx_T s⟩
instance : TyNm (α × β) := ⟨"tuple", fun d => by obtain ⟨a, u, w, rfl, s, _⟩ := d.pair; exact tyx_T s⟩
instance : TyNm (T3 α β γ) := ⟨"tuple", fun d => by obtain ⟨a, u, w, z, rfl, s, _⟩ := d.t3; exact tyx_T s⟩
theorem hv_isi {x : α} [T : TyNm α] {n : String} {b : Bool} (ha : Hv K M ta σ H x) (h : kitB T.nm n = some b) : Hv K M (tCB (rIsi K) (tCons ta (tCons (tC (.ty n)) tNil))) σ H b := fun H1 e m Q q =>
  ha H1 e m _ fun v H2 e2 d => ⟨v, .ty n, .type T.nm, .type n, b, rfl, .ty n, tyx_ex msk_le (T.ty d), kit_ty h, q _ H2 e2 (Dt.ofBool b)⟩

/-! ### == and < of data -/
theorem dt_holds {X : Cx} {pins : List (Addr × Obj)} {s : Shared} {x : α} {v : V} {u : Value} (I : Inv X pins σ H s) (d : Dt X.K H v x) (r : RelV v u) : PySem.W.Holds s.heap u x := Dp.reads I _ v u d r
def rEqT (α : Type) [DecidableEq α] [Datum α] (K : PySem.W.Frag) : R2 := fun x y H Q => ∃ a b : α, Dt K H x a ∧ Dt K H y b ∧ Q (.bl (decide (a = b))) H
def rNeT (α : Type) [DecidableEq α] [Datum α] (K : PySem.W.Frag) : R2 := fun x y H Q => ∃ a b : α, Dt K H x a ∧ Dt K H y b ∧ Q (.bl (!decide (a = b))) H
theorem op_eqT {X : Cx} (hu : X.A.units + Datum.depth α < cLine) : OpR X (compareOp .Eq) (rEqT α X.K) := by
  intro pins s σ H x y v u Q I rx ry h
  obtain ⟨a, b, da, db, q⟩ := h
  exact PySem.W.eq_datum (dt_holds I da rx) (dt_holds I db ry) hu ⟨.bl _, H, I, rfl, q⟩
theorem op_neT {X : Cx} (hu : X.A.units + Datum.depth α < cLine) : OpR X (compareOp .NotEq) (rNeT α X.K) := by
  intro pins s σ H x y v u Q I rx ry h
  obtain ⟨a, b, da, db, q⟩ := h
  exact PySem.W.ne_datum (dt_holds I da rx) (dt_holds I db ry) hu ⟨.bl _, H, I, rfl, by rw [show decide (a ≠ b) = !decide (a = b) from decide_not]; exact q⟩
theorem hv_eqT {x y : α} (ha : Hv K [] ta σ H x) (hb : Hv K [] tb σ H y) : Hv K M (tOp (rEqT α K) ta tb) σ H (decide (x = y)) := fun H1 e m Q q =>
  ha H1 e (fun _ z => nomatch z) _ fun v H2 e2 d => hb H2 (e.trans e2) (fun _ z => nomatch z) _ fun u H3 e3 d' => by
    rw [msk_nil] at d d'
    exact ⟨x, y, d.mono e3, d', q _ H3 (e2.trans e3) (Dt.ofBool _)⟩
theorem hv_neT {x y : α} (ha : Hv K [] ta σ H x) (hb : Hv K [] tb σ H y) : Hv K M (tOp (rNeT α K) ta tb) σ H (!decide (x = y)) := fun H1 e m Q q =>
  ha H1 e (fun _ z => nomatch z) _ fun v H2 e2 d => hb H2 (e.trans e2) (fun _ z => nomatch z) _ fun u H3 e3 d' => by
    rw [msk_nil] at d d'
    exact ⟨x, y, d.mono e3, d', q _ H3 (e2.trans e3) (Dt.ofBool _)⟩
end
section
variable {K : PySem.W.Frag} {M : List Addr} {H H1 H2 : Hp} {σ : L2.St} {te ta tb tl : TE}
variable {α : Type} [DecidableEq α] [DatumOrd α]
def rLtT (α : Type) [DecidableEq α] [DatumOrd α] (K : PySem.W.Frag) : R2 := fun x y H Q => ∃ a b : α, Dt K H x a ∧ Dt K H y b ∧ Q (.bl (DatumOrd.lt a b)) H
theorem op_ltT {X : Cx} (hu : X.A.units + Datum.depth α < cLine) : OpR X (compareOp .Lt) (rLtT α X.K) := by
  intro pins s σ H x y v u Q I rx ry h
  obtain ⟨a, b, da, db, q⟩ := h
  exact PySem.W.lt_datum (dt_holds I da rx) (dt_holds I db ry) hu ⟨.bl _, H, I, rfl, q⟩
theorem hv_ltT {x y : α} (ha : Hv K [] ta σ H x) (hb : Hv K [] tb σ H y) : Hv K M (tOp (rLtT α K) ta tb) σ H (DatumOrd.lt x y) := fun H1 e m Q q =>
  ha H1 e (fun _ z => nomatch z) _ fun v H2 e2 d => hb H2 (e.trans e2) (fun _ z => nomatch z) _ fun u H3 e3 d' => by
    rw [msk_nil] at d d'
    exact ⟨x, y, d.mono e3, d', q _ H3 (e2.trans e3) (Dt.ofBool _)⟩
end
theorem hud {A : Around} {k d : Nat} (hr : Room k A) (h : d ≤ 64) : A.units + d < cLine := Nat.lt_of_le_of_lt (Nat.add_le_add_left h _) hr.units
end Ly

namespace Ly
open PySem PySem.Spec PyProof.Rows L2 Evl
open PySem.W (Datum DatumOrd Tup T3 T4)

theorem dpa_inv {K : PySem.W.Frag} {H : Hp} {vs : List V} {d : PyData} {ds : List PyData} (h : DpAll K H vs (d :: ds)) : ∃ v r, vs = v :: r ∧ Dp K H v d ∧ DpAll K H r ds := by
  cases h with
  | cons a b => exact ⟨_, _, rfl, a, b⟩
theorem dpa_inv0 {K : PySem.W.Frag} {H : Hp} {vs : List V} (h : DpAll K H vs []) : vs = [] := by cases h; rfl

section
variable {K : PySem.W.Frag} {Mc : List Addr} {He H H1 H2 : Hp} {is js : Ims} {ms : Mus} {σ : L2.St} {te ta tb tl : TE}
variable {α β : Type} [DecidableEq α] [Datum α] [DecidableEq β] [Datum β]
variable {D : Ends} {tz tu tw : TS} {tt : TT} {g : TG}
/-! ### statements that name what they store -/
theorem z_asgG {i : Nat} {x : α} (s : Sg K Mc He H is ms) (h : Hv K (muA ms ++ Mc) te σ H x) (k : ∀ y, y = x → ∀ v H1, Sg K Mc He H1 ((v, Datum.toD y) :: is) ms → tz D (σ.set i (some v)) H1) : tSeq (tAsg te (gName i)) tz D σ H :=
  z_asg s h (k x rfl)
theorem z_asgIG {i : Nat} {x : Int} (s : Sg K Mc He H is ms) (h : Hv K (muA ms ++ Mc) te σ H x) (k : ∀ y, y = x → ∀ H1, Sg K Mc He H1 is ms → tz D (σ.set i (some (.int y))) H1) : tSeq (tAsg te (gName i)) tz D σ H :=
  z_asgI s h (k x rfl)
theorem z_asgBG {i : Nat} {x : Bool} (s : Sg K Mc He H is ms) (h : Hv K (muA ms ++ Mc) te σ H x) (k : ∀ y, y = x → ∀ H1, Sg K Mc He H1 is ms → tz D (σ.set i (some (.bl y))) H1) : tSeq (tAsg te (gName i)) tz D σ H :=
  z_asgB s h (k x rfl)
theorem z_asgSG {i : Nat} {x : Str} (s : Sg K Mc He H is ms) (h : Hv K (muA ms ++ Mc) te σ H x) (k : ∀ y, y = x → ∀ H1, Sg K Mc He H1 is ms → tz D (σ.set i (some (.str y))) H1) : tSeq (tAsg te (gName i)) tz D σ H :=
  z_asgS s h (k x rfl)
theorem z_augG {i : Nat} {f : Int → Int → Int} {a b : Int} (s : Sg K Mc He H is ms) (hx : σ[i]? = some (some (.int a))) (h : Hv K (muA ms ++ Mc) te σ H b) (k : ∀ y, y = f a b → ∀ H1, Sg K Mc He H1 is ms → tz D (σ.set i (some (.int y))) H1) : tSeq (tAug i te (ipI f)) tz D σ H :=
  ⟨.int a, hx, h H (Ex.refl H) s.mok _ fun v H1 e d => ⟨a, b, rfl, d.int, k _ rfl H1 (s.ex e)⟩⟩
theorem z_nilG {i : Nat} (α : Type) [DecidableEq α] [Datum α] (s : Sg K Mc He H is ms) (k : ∀ y : List α, y = [] → ∀ p H1, Sg K Mc He H1 is ((p, .lst (y.map Datum.toD)) :: ms) → tz D (σ.set i (some (.ref p))) H1) : tSeq (tAsg (tLst tNil) (gName i)) tz D σ H :=
  z_nil s (k [] rfl)
theorem zq_appG {kk : Nat} {l : Addr} {xs : List α} {x : α} (s : Sg K Mc He H is ms) (e : ms[kk]? = some (l, .lst (xs.map Datum.toD))) (hi : Ev ta σ H (.ref l)) (h : Hv K (muA ms ++ Mc) te σ H x) (hz : xs.length < 100000)
    (k : ∀ y, y = xs ++ [x] → ∀ H1, Sg K Mc He H1 is (ms.set kk (l, .lst (y.map Datum.toD))) → tz D σ H1) : tSeq (tDrop (tBM K "list" rAppend ta (tCons te tNil))) tz D σ H := zq_app s e hi h hz (k _ rfl)
theorem zq_ret {x : α} (s : Sg K Mc He H is ms) (h : Hv K (muA ms ++ Mc) te σ H x) (k : ∀ v H1, Ex He H1 → Dt K (msk Mc H1) v x → D.rt v H1) : tSeq (tRet te) tz D σ H := z_ret (D := { D with nx := tz D }) s h k
/-- an if without else -/
theorem z_ifx {b : Bool} (s : Sg K Mc He H is ms) (h : HT (muA ms ++ Mc) tt σ H b) (h1 : b = true → ∀ H1, Sg K Mc He H1 is ms → tu { D with nx := tz D } σ H1) (h2 : b = false → ∀ H1, Sg K Mc He H1 is ms → tz D σ H1) :
    tSeq (tIfS tt tu tNext) tz D σ H := z_if s h h1 h2
/-- an if behind which both ways go on, N what they reach -/
theorem z_ifj {b : Bool} (N : L2.St → Hp → Prop) (s : Sg K Mc He H is ms) (h : HT (muA ms ++ Mc) tt σ H b) (h1 : b = true → ∀ H1, Sg K Mc He H1 is ms → tu { D with nx := N } σ H1) (h2 : b = false → ∀ H1, Sg K Mc He H1 is ms → tw { D with nx := N } σ H1)
    (k : ∀ σ' H', N σ' H' → tz D σ' H') : tCut (tIfS tt tu tw) tz D σ H := ⟨N, z_ifE (D := { D with nx := N }) s h h1 h2, k⟩

/-! ### loops that name their item -/
theorem zq_forR1G {j : Nat} {n : Int} (s : Sg K Mc He H is ms) (h : Hv K (muA ms ++ Mc) te σ H n) (hn : -100000 ≤ n ∧ n ≤ 100000) (Pv : Nat → L2.St → Hp → Prop) (h0 : ∀ H1, Sg K Mc He H1 is ms → Pv 0 σ H1)
    (hs : ∀ (i : Nat) (x : Int) σ' H', x = (0 : Int) + (i : Int) → i < n.toNat → Pv i σ' H' → tu { D with nx := Pv (i + 1), ct := Pv (i + 1), bk := tz D } (σ'.set j (some (.int x))) H') (hd : ∀ σ' H', Pv n.toNat σ' H' → tz D σ' H') : tSeq (tFor (iRng1 (tCons te tNil)) (gName j) tu) tz D σ H :=
  zq_forR s h hn Pv h0 (fun i σ' H' hi p => hs i _ σ' H' (Int.zero_add _).symm (by omega) p) hd
theorem zq_forR2G {j : Nat} {lo n : Int} (s : Sg K Mc He H is ms) (h1 : Hv K (muA ms ++ Mc) ta σ H lo) (h : Hv K (muA ms ++ Mc) te σ H n) (hn : -100000 ≤ lo ∧ lo ≤ 100000 ∧ -100000 ≤ n ∧ n ≤ 100000) (Pv : Nat → L2.St → Hp → Prop) (h0 : ∀ H1, Sg K Mc He H1 is ms → Pv 0 σ H1)
    (hs : ∀ (i : Nat) (x : Int) σ' H', x = lo + (i : Int) → i < (n - lo).toNat → Pv i σ' H' → tu { D with nx := Pv (i + 1), ct := Pv (i + 1), bk := tz D } (σ'.set j (some (.int x))) H') (hd : ∀ σ' H', Pv (n - lo).toNat σ' H' → tz D σ' H') : tSeq (tFor (iRng2 (tCons ta (tCons te tNil))) (gName j) tu) tz D σ H :=
  zq_forR2 s h1 h hn Pv h0 (fun i σ' H' hi p => hs i _ σ' H' rfl (by omega) p) hd
/-- over a list, the target a name; the item put among what is known -/
theorem zq_forG {xs : List α} {j : Nat} (s : Sg K Mc He H is ms) (h : Hv K (muA ms ++ Mc) tl σ H xs) (Pv : V → Nat → L2.St → Hp → Prop) (h0 : ∀ v H1, Sg K Mc He H1 ((v, Datum.toD xs) :: is) ms → Pv v 0 σ H1)
    (hl : ∀ v i σ' H', Pv v i σ' H' → Dt K (msk (muA ms ++ Mc) H') v xs)
    (hs : ∀ v i x w σ' H', xs[i]? = some x → Pv v i σ' H' → Dt K (msk (muA ms ++ Mc) H') w x → tu { D with nx := Pv v (i + 1), ct := Pv v (i + 1), bk := tz D } (σ'.set j (some w)) H')
    (hd : ∀ v σ' H', Pv v xs.length σ' H' → tz D σ' H') : tSeq (tFor (iList K tl) (gName j) tu) tz D σ H := zq_for s h Pv h0 hl hs hd
/-- over a list that may still change (not in the loop) -/
theorem zq_forM {xs : List α} {kk : Nat} {l : Addr} {ii : Nat} (s : Sg K Mc He H is ms) (e : ms[kk]? = some (l, .lst (xs.map Datum.toD))) (hi : σ[ii]? = some (some (.ref l))) (Pv : Nat → L2.St → Hp → Prop) (h0 : ∀ H1, Sg K Mc He H1 is ms → Pv 0 σ H1)
    (hl : ∀ i σ' H', Pv i σ' H' → ∃ vs, H' l = some (.lst vs) ∧ Dts K (msk (muA ms ++ Mc) H') vs xs)
    (hs : ∀ i x w σ' H', xs[i]? = some x → Pv i σ' H' → Dt K (msk (muA ms ++ Mc) H') w x → g w σ' H' fun σ2 H2 => tu { D with nx := Pv (i + 1), ct := Pv (i + 1), bk := tz D } σ2 H2)
    (hd : ∀ σ' H', Pv xs.length σ' H' → tz D σ' H') : tSeq (tFor (iList K (tVar ii)) g tu) tz D σ H := by
  obtain ⟨vs, h1, h2⟩ := s.lst e
  refine ⟨_, hi, l, rfl, ⟨vs, SqL.of h1⟩, for_listD (D := { D with nx := tz D }) (M := muA ms ++ Mc) Pv (h0 H s) (fun i σ' H' _ p => ?_) hs hd⟩
  obtain ⟨vs', h3, h4⟩ := hl i σ' H' p
  exact ⟨vs', SqL.of h3, h4⟩
end
end Ly

namespace Ly
open PySem PySem.Spec PyProof.Rows L2 Evl
open PySem.W (Datum DatumOrd Tup T3 T4)
theorem dts_ints {K : PySem.W.Frag} {H : Hp} : ∀ ns : List Int, Dts K H (ns.map V.int) ns
  | [] => Dts.nil
  | n :: r => Dts.cons (Dt.ofInt n) (dts_ints r)
/-- the law's promise is kept where its mirror is true -/
theorem law_sp {K : PySem.W.Frag} {F : List Int → Bool} {pre : List Int → Prop} {H : Hp} {a : Addr} {ns : List Int} {E : XK} (h : SqL K H a (ns.map V.int)) (p : pre ns) (t : F ns = true) :
    PrD K (fun c : List Int => [Datum.toD c]) pre F [.ref a] H (fun v _ => v = .bl true) E := by
  refine ⟨[], ns, (fun _ z => nomatch z), ?_, p, fun w H' e d => ?_⟩
  · rw [msk_nil]
    exact .cons (Dt.ofList h (dts_ints ns)) .nil
  · rw [d.bool, t]
end Ly

namespace Ly
open PySem PySem.Spec PyProof.Rows L2 Evl
open PySem.W (Datum DatumOrd Tup T3 T4)

section
variable {K : PySem.W.Frag} {Mc M : List Addr} {He H H1 H2 : Hp} {is js : Ims} {ms : Mus} {σ : L2.St} {te ta tb tl : TE} {tt : TT} {g : TG} {tlo thi : TO}
variable {α β γ δ : Type} [DecidableEq α] [Datum α] [DecidableEq β] [Datum β] [DecidableEq γ] [Datum γ] [DecidableEq δ] [Datum δ]
/-! ### parts of lists, copies -/
def HO' (M : List Addr) (to : TO) (σ : L2.St) (H : Hp) (o : Option Int) : Prop := ∀ H1, Ex H H1 → MOk M H1 → ∀ Q : Option Int → Hp → Prop, (∀ H2, Ex H1 H2 → Q o H2) → to σ H1 Q
theorem ho_none : HO' M tNoPart σ H none := fun H1 _ _ _ q => q H1 (Ex.refl H1)
theorem ho_some {i : Int} (h : Hv K M te σ H i) : HO' M (tPart te) σ H (some i) := fun H1 e m _ q => h H1 e m _ fun v H2 e2 d => ⟨i, d.int, q H2 e2⟩
def cutL {α : Type} (xs : List α) (lo hi : Option Int) : List α := (xs.drop (HT.sIx xs.length 0 lo)).take (HT.sIx xs.length xs.length hi - HT.sIx xs.length 0 lo)
theorem dpa_drop {H : Hp} : ∀ {vs : List V} {ds : List PyData} (n : Nat), DpAll K H vs ds → DpAll K H (vs.drop n) (ds.drop n)
  | _, _, 0, h => h
  | _, _, n + 1, .nil => .nil
  | _, _, n + 1, .cons a b => dpa_drop n b
theorem dpa_take {H : Hp} : ∀ {vs : List V} {ds : List PyData} (n : Nat), DpAll K H vs ds → DpAll K H (vs.take n) (ds.take n)
  | _, _, 0, h => by simpa using DpAll.nil
  | _, _, n + 1, .nil => .nil
  | _, _, n + 1, .cons a b => .cons a (dpa_take n b)
theorem Dts.cut {H : Hp} {vs : List V} {xs : List α} {lo hi : Option Int} (h : Dts K H vs xs) : Dts K H (cutV vs lo hi) (cutL xs lo hi) := by
  unfold cutV cutL Dts
  rw [h.len, List.map_take, List.map_drop]
  exact dpa_take _ (dpa_drop _ h)
theorem hv_slice {xs : List α} {lo hi : Option Int} (h : HS K M te σ H xs) (h1 : HO' M tlo σ H lo) (h2 : HO' M thi σ H hi) : Hv K M (tSl (rSlL K) te tlo thi) σ H (cutL xs lo hi) := fun H1 e m Q q =>
  h H1 e m _ fun a vs H2 e2 s d => h1 H2 (e.trans e2) (m.ex e2) _ fun H3 e3 => h2 H3 ((e.trans e2).trans e3) ((m.ex e2).ex e3) _ fun H4 e4 =>
    ⟨a, vs, rfl, ex_l (e3.trans e4) s, fun p hp => by
      have m4 := ((m.ex e2).ex e3).ex e4
      have e5 : Ex H4 (upd H4 p (.lst (cutV vs lo hi))) := Ex.new hp
      exact q _ _ (((e2.trans e3).trans e4).trans e5) (Dt.ofList (SqL.of (msk_at m4 hp)) ((d.mono (msk_ex ((e3.trans e4).trans e5))).cut))⟩
theorem hv_listOf {xs : List α} (h : HS K M te σ H xs) : Hv K M (tCB (fun xs H Q => ∃ p ys, xs = [.ref p] ∧ (SqL K H p ys ∨ SqT K H p ys) ∧ ∀ l, H l = none → Q (.ref l) (upd H l (.lst ys))) (tCons te tNil)) σ H xs := fun H1 e m Q q =>
  h H1 e m _ fun a vs H2 e2 s d => ⟨a, vs, rfl, Or.inl s, fun p hp => by
    have e3 : Ex H2 (upd H2 p (.lst vs)) := Ex.new hp
    exact q _ _ (e2.trans e3) (Dt.ofList (SqL.of (msk_at (m.ex e2) hp)) (d.mono (msk_ex e3)))⟩
theorem hv_listOfV {xs : Tup α} (h : Hv K M te σ H xs) : Hv K M (tCB (fun xs H Q => ∃ p ys, xs = [.ref p] ∧ (SqL K H p ys ∨ SqT K H p ys) ∧ ∀ l, H l = none → Q (.ref l) (upd H l (.lst ys))) (tCons te tNil)) σ H xs.items := fun H1 e m Q q =>
  h H1 e m _ fun v H2 e2 d => by
    obtain ⟨a, vs, rfl, s, ds⟩ := d.tupv
    refine ⟨a, vs, rfl, Or.inr (ex_t msk_le s), fun p hp => ?_⟩
    have e3 : Ex H2 (upd H2 p (.lst vs)) := Ex.new hp
    exact q _ _ (e2.trans e3) (Dt.ofList (SqL.of (msk_at (m.ex e2) hp)) (ds.mono (msk_ex e3)))
theorem hv_tupleOf {xs : List α} (h : HS K M te σ H xs) : Hv K M (tCB (fun xs H Q => ∃ p ys, xs = [.ref p] ∧ ((SqL K H p ys ∧ ∀ l, H l = none → Q (.ref l) (upd H l (.tup ys))) ∨ (SqT K H p ys ∧ Q (.ref p) H))) (tCons te tNil)) σ H (Tup.mk xs) := fun H1 e m Q q =>
  h H1 e m _ fun a vs H2 e2 s d => ⟨a, vs, rfl, Or.inl ⟨s, fun p hp => by
    have e3 : Ex H2 (upd H2 p (.tup vs)) := Ex.new hp
    exact q _ _ (e2.trans e3) (Dt.ofTupv (SqT.of (msk_at (m.ex e2) hp)) (d.mono (msk_ex e3)))⟩⟩
theorem hv_cat {xs ys : List α} (ha : HS K M ta σ H xs) (hb : HS K M tb σ H ys) (hz : xs.length + ys.length ≤ 100000) :
    Hv K M (tOp (fun x y H Q => ∃ a b xs ys, x = .ref a ∧ y = .ref b ∧ SqL K H a xs ∧ SqL K H b ys ∧ xs.length + ys.length ≤ sizeLine ∧ ∀ p, H p = none → Q (.ref p) (upd H p (.lst (xs ++ ys)))) ta tb) σ H (xs ++ ys) := fun H1 e m Q q =>
  ha H1 e m _ fun a vs H2 e2 s d => hb H2 (e.trans e2) (m.ex e2) _ fun b ws H3 e3 s' d' =>
    ⟨a, b, vs, ws, rfl, rfl, ex_l e3 s, s', sz_of (by rw [d.len, d'.len]; exact hz), fun p hp => by
      have m3 := (m.ex e2).ex e3
      have e4 : Ex H3 (upd H3 p (.lst (vs ++ ws))) := Ex.new hp
      exact q _ _ ((e2.trans e3).trans e4) (Dt.ofList (SqL.of (msk_at m3 hp)) ((d.mono (msk_ex (e3.trans e4))).app (d'.mono (msk_ex e4))))⟩
/-! ### truth, None -/
theorem ht_truL {xs : List α} (h : HS K M te σ H xs) : HT M (fun σ H Q => te σ H fun x H' => ∃ k, TruV K x H' k ∧ Q k H') σ H (!xs.isEmpty) := fun H1 e m Q q =>
  h H1 e m _ fun a vs H2 e2 s d => ⟨!vs.isEmpty, Or.inl ⟨vs, s, rfl⟩, by
    have : vs.isEmpty = xs.isEmpty := by
      have := d.len
      cases vs <;> cases xs <;> simp_all
    rw [this]
    exact q H2 e2⟩
theorem dt_none [PySem.W.SomeDatum α] {v : V} {x : Option α} (d : Dt K H v x) : decide (v = .non) = x.isNone := by
  cases x with
  | none => cases (show Dp K H v .none from d); rfl
  | some a =>
    have n := PySem.W.SomeDatum.left a
    have d' : Dp K H v (Datum.toD a) := d
    generalize Datum.toD a = z at n d'
    cases d' with
    | non => simp [PyData.eqv] at n
    | _ => rfl
theorem hv_isN [PySem.W.SomeDatum α] {x : Option α} (h : Hv K M ta σ H x) : Hv K M (tOp (fun x y H Q => y = .non ∧ Q (.bl (decide (x = .non))) H) ta (tC .non)) σ H x.isNone := fun H1 e m Q q =>
  h H1 e m _ fun v H2 e2 d => ⟨rfl, q _ H2 e2 (by rw [dt_none d]; exact Dt.ofBool _)⟩
theorem hv_notN [PySem.W.SomeDatum α] {x : Option α} (h : Hv K M ta σ H x) : Hv K M (tOp (fun x y H Q => y = .non ∧ Q (.bl (!decide (x = .non))) H) ta (tC .non)) σ H (!x.isNone) := fun H1 e m Q q =>
  h H1 e m _ fun v H2 e2 d => ⟨rfl, q _ H2 e2 (by rw [dt_none d]; exact Dt.ofBool _)⟩
theorem hv_un [PySem.W.SomeDatum α] {x : α} (h : Hv K M te σ H (some x)) : Hv K M te σ H x := fun H1 e m Q q => h H1 e m Q fun v H2 e2 d => q v H2 e2 d

/-! ### comprehensions -/
theorem take_snoc {xs : List α} {i : Nat} {x : α} (h : xs[i]? = some x) : xs.take (i + 1) = xs.take i ++ [x] := by
  rw [List.take_add_one, h]; rfl
theorem lc_listD {a : Addr} {xs : List α} {vs : List Nat} {D : Addr} {Qd : Hp → Prop} {M' : List Addr} (Pv : Nat → Hp → Prop) (h0 : Pv 0 (upd H1 D (.lst []))) (hl : ∀ i H', i ≤ xs.length → Pv i H' → ∃ us, SqL K H' a us ∧ Dts K (msk M' H') us xs)
    (hs : ∀ i x w H', xs[i]? = some x → Pv i H' → Dt K (msk M' H') w x → g w (wipe σ vs) H' fun σ2 H2 => wipe σ2 vs = wipe σ vs ∧ tt σ2 H2 fun b H3 =>
      if b = true then te σ2 H3 fun y H4 => ∃ acc, H4 D = some (.lst acc) ∧ acc.length < sizeLine ∧ Pv (i + 1) (upd H4 D (.lst (acc ++ [y]))) else Pv (i + 1) H3) (hd : ∀ H', Pv xs.length H' → Qd H') :
    ∃ W : Nat → Nat → Hp → Prop, (∃ m, W 0 m (upd H1 D (.lst []))) ∧ ∀ i m H, W i m H →
      ((Itl K a).stop i H ∧ Qd H) ∨ ((Itl K a).go i H ∧ ∃ Nx : Hp → Prop, (∀ H', Nx H' → ∃ m', m' < m ∧ W (i + 1) m' H') ∧ ∀ x H', (Itl K a).yld i H x H' → g x (wipe σ vs) H' fun σ2 H2 => wipe σ2 vs = wipe σ vs ∧ tt σ2 H2 fun b H3 =>
        if b = true then te σ2 H3 fun y H4 => ∃ acc, H4 D = some (.lst acc) ∧ acc.length < sizeLine ∧ Nx (upd H4 D (.lst (acc ++ [y]))) else Nx H3) := by
  refine ⟨fun i m H => m = xs.length - i ∧ i ≤ xs.length ∧ Pv i H, ⟨xs.length, by simp, Nat.zero_le _, h0⟩, ?_⟩
  rintro i m H ⟨rfl, hi, p⟩
  obtain ⟨us, q, ds⟩ := hl i H hi p
  have el := ds.len
  by_cases hlt : i < xs.length
  · refine .inr ⟨⟨us, us[i]'(by omega), q, by simp [show i < us.length by omega]⟩, Pv (i + 1), fun H' p' => ⟨xs.length - (i + 1), by omega, rfl, hlt, p'⟩, fun x H' y => ?_⟩
    obtain ⟨e, y⟩ := y
    subst e
    obtain ⟨w, h1, h2⟩ := ds.at (i := i) (x := xs[i]) (by simp [hlt])
    have e1 : x = w := Option.some.inj ((y us q).symm.trans h1)
    subst e1
    exact hs i _ x _ (by simp [hlt]) p h2
  · have e : i = xs.length := by omega
    subst e
    exact .inl ⟨⟨us, q, by omega⟩, hd H p⟩
/-- a turn's end: the item goes behind the others, or not -/
theorem lc_turn {D : Addr} {ys zs : List β} {b : Bool} {y : β} {σ2 : L2.St} (s : Sg K Mc He H is ((D, .lst (ys.map Datum.toD)) :: ms)) (hz : ys.length < 50000) (N : Hp → Prop)
    (ht : HT (muA ((D, Mv.lst (ys.map Datum.toD)) :: ms) ++ Mc) tt σ2 H b) (he : b = true → Hv K (muA ((D, Mv.lst (ys.map Datum.toD)) :: ms) ++ Mc) te σ2 H y)
    (hzs : zs = if b = true then ys ++ [y] else ys) (hN : ∀ H', (∃ H4, Ex H H4 ∧ (H' = H4 ∨ ∃ o, H' = upd H4 D o)) → Sg K Mc He H' is ((D, .lst (zs.map Datum.toD)) :: ms) → N H') :
    tt σ2 H fun b' H3 => if b' = true then te σ2 H3 fun v H4 => ∃ acc, H4 D = some (.lst acc) ∧ acc.length < sizeLine ∧ N (upd H4 D (.lst (acc ++ [v]))) else N H3 := by
  refine ht H (Ex.refl H) s.mok _ fun H3 e3 => ?_
  cases b with
  | false =>
    show N H3
    rw [if_neg Bool.false_ne_true] at hzs
    subst hzs
    exact hN H3 ⟨H3, e3, .inl rfl⟩ (s.ex e3)
  | true =>
    show te σ2 H3 fun v H4 => ∃ acc, H4 D = some (.lst acc) ∧ acc.length < sizeLine ∧ N (upd H4 D (.lst (acc ++ [v])))
    rw [if_pos rfl] at hzs
    subst hzs
    refine he rfl H3 e3 ((s.ex e3).mok) _ fun v H4 e4 d => ?_
    have s4 := (s.ex e3).ex e4
    obtain ⟨us, h1, h2⟩ := s4.lst (k := 0) rfl
    refine ⟨us, h1, sz_lt (by rw [h2.len]; omega), hN _ ⟨H4, e3.trans e4, .inr ⟨_, rfl⟩⟩ (s4.set (k := 0) (m' := .lst ((ys ++ [y]).map Datum.toD)) rfl ⟨_, rfl, ?_⟩)⟩
    rw [List.map_append]
    exact dpa_app h2 (.cons d .nil)
theorem filter_snoc {f : α → Bool} {ef : α → β} {xs : List α} {i : Nat} {x : α} (h : xs[i]? = some x) : ((xs.take (i + 1)).filter f).map ef = if f x = true then ((xs.take i).filter f).map ef ++ [ef x] else ((xs.take i).filter f).map ef := by
  rw [take_snoc h, List.filter_append, List.map_append]
  by_cases e : f x = true
  · rw [if_pos e]; simp [List.filter_cons, e]
  · rw [if_neg e]; simp [List.filter_cons, e]
theorem hv_lcL {vs : List Nat} (s : Sg K Mc He H is ms) {xs : List α} (f : α → Bool) (ef : α → β) (h : Hv K (muA ms ++ Mc) tl σ H xs) (hz : xs.length ≤ 40000)
    (hb : ∀ D src x w (ys : List β) H1, Sg K Mc He H1 ((w, Datum.toD x) :: (src, Datum.toD xs) :: is) ((D, .lst (ys.map Datum.toD)) :: ms) → x ∈ xs →
      ∀ Q : L2.St → Hp → Prop, (∀ σ2, wipe σ2 vs = wipe σ vs → HT (muA ((D, Mv.lst (ys.map Datum.toD)) :: ms) ++ Mc) tt σ2 H1 (f x) → (f x = true → Hv K (muA ((D, Mv.lst (ys.map Datum.toD)) :: ms) ++ Mc) te σ2 H1 (ef x)) → Q σ2 H1) → g w (wipe σ vs) H1 Q) :
    Hv K (muA ms ++ Mc) (tLc (iList K tl) g tt te vs) σ H ((xs.filter f).map ef) := fun H1 e m Q q =>
  h H1 e m _ fun v H2 e2 d => by
    obtain ⟨a, us, rfl, s1, ds⟩ := d.list
    refine ⟨a, rfl, ⟨us, ex_l msk_le s1⟩, fun D hD => ?_⟩
    have sA : Sg K Mc He H2 ((.ref a, Datum.toD xs) :: is) ms := ((s.ex e).ex e2).put d
    have sB : Sg K Mc He (upd H2 D (.lst [])) ((.ref a, Datum.toD xs) :: is) ((D, .lst (([] : List β).map Datum.toD)) :: ms) := sA.new hD ⟨[], rfl, .nil⟩
    refine lc_listD (xs := xs) (M' := D :: (muA ms ++ Mc)) (fun i H' => Ex H2 H' ∧ Sg K Mc He H' ((.ref a, Datum.toD xs) :: is) ((D, .lst ((((xs.take i).filter f).map ef).map Datum.toD)) :: ms)) ⟨Ex.new hD, sB⟩
      (fun i H' _ p => ?_) (fun i x w H' hx p dw => ?_) (fun H' p => ?_)
    · obtain ⟨a', us', e', s2, ds'⟩ := Dt.list (α := α) p.2.im.1
      cases e'
      exact ⟨us', ex_l msk_le s2, ds'⟩
    · have hi : i < xs.length := (List.getElem?_eq_some_iff.mp hx).1
      refine hb D (.ref a) x w _ H' (p.2.put dw) (List.mem_of_getElem? hx) _ fun σ2 hw ht he => ⟨hw, ?_⟩
      have hlen : (((xs.take i).filter f).map ef).length < 50000 := by
        rw [List.length_map]
        have := List.length_filter_le f (xs.take i)
        rw [List.length_take] at this
        omega
      have key := lc_turn (ms := ms) (zs := ((xs.take (i + 1)).filter f).map ef) p.2 hlen (fun H3 => Ex H2 H3 ∧ Sg K Mc He H3 ((.ref a, Datum.toD xs) :: is) ((D, .lst ((((xs.take (i + 1)).filter f).map ef).map Datum.toD)) :: ms)) ht he (filter_snoc hx) (fun H3 h4 s3 => ⟨by
        obtain ⟨H4, e4, e5⟩ := h4
        rcases e5 with e5 | ⟨o, e5⟩
        · rw [e5]; exact p.1.trans e4
        · rw [e5]; exact Ex.mut (p.1.trans e4) hD, s3⟩)
      exact key
    · have z := p.2
      rw [List.take_length] at z
      exact q _ H' (e2.trans p.1) (z.frz).im.1

/-- without a test -/
theorem hv_lcL0 {vs : List Nat} (s : Sg K Mc He H is ms) {xs : List α} (ef : α → β) (h : Hv K (muA ms ++ Mc) tl σ H xs) (hz : xs.length ≤ 40000)
    (hb : ∀ D src x w (ys : List β) H1, Sg K Mc He H1 ((w, Datum.toD x) :: (src, Datum.toD xs) :: is) ((D, .lst (ys.map Datum.toD)) :: ms) → x ∈ xs →
      ∀ Q : L2.St → Hp → Prop, (∀ σ2, wipe σ2 vs = wipe σ vs → Hv K (muA ((D, Mv.lst (ys.map Datum.toD)) :: ms) ++ Mc) te σ2 H1 (ef x) → Q σ2 H1) → g w (wipe σ vs) H1 Q) :
    Hv K (muA ms ++ Mc) (tLc (iList K tl) g tYes te vs) σ H (xs.map ef) := by
  have key := hv_lcL (g := g) (tt := tYes) (te := te) (vs := vs) s (fun _ => true) ef h hz (fun D src x w ys H1 s1 hx Q k => hb D src x w ys H1 s1 hx Q fun σ2 hw he => k σ2 hw (fun H2 _ _ _ q => q H2 (Ex.refl H2)) fun _ => he)
  exact key.is (by rw [List.filter_eq_self.mpr (fun _ _ => rfl)])
/-- 0, 1, .. below n -/
def irng (lo : Int) (n : Nat) : List Int := (List.range n).map fun (i : Nat) => lo + (i : Int)
theorem irng_get {lo : Int} {n i : Nat} (h : i < n) : (irng lo n)[i]? = some (lo + (i : Int)) := by
  unfold irng
  rw [List.getElem?_map, List.getElem?_range h]
  rfl
theorem irng_len {lo : Int} {n : Nat} : (irng lo n).length = n := by unfold irng; rw [List.length_map, List.length_range]
theorem hv_lcR {vs : List Nat} (s : Sg K Mc He H is ms) {n : Int} (f : Int → Bool) (ef : Int → β) (h : Hv K (muA ms ++ Mc) ta σ H n) (hz : -100000 ≤ n ∧ n ≤ 40000)
    (hb : ∀ D (x : Int) (ys : List β) H1, Sg K Mc He H1 is ((D, .lst (ys.map Datum.toD)) :: ms) → 0 ≤ x ∧ x < n →
      ∀ Q : L2.St → Hp → Prop, (∀ σ2, wipe σ2 vs = wipe σ vs → HT (muA ((D, Mv.lst (ys.map Datum.toD)) :: ms) ++ Mc) tt σ2 H1 (f x) → (f x = true → Hv K (muA ((D, Mv.lst (ys.map Datum.toD)) :: ms) ++ Mc) te σ2 H1 (ef x)) → Q σ2 H1) → g (.int x) (wipe σ vs) H1 Q) :
    Hv K (muA ms ++ Mc) (tLc (iRng1 (tCons ta tNil)) g tt te vs) σ H (((irng 0 n.toNat).filter f).map ef) := fun H1 e m Q q =>
  h H1 e m _ fun v H2 e2 d => by
    refine ⟨n, by rw [d.int], by omega, by omega, fun D hD => ?_⟩
    have sA : Sg K Mc He H2 is ms := (s.ex e).ex e2
    have sB : Sg K Mc He (upd H2 D (.lst [])) is ((D, .lst (([] : List β).map Datum.toD)) :: ms) := sA.new hD ⟨[], rfl, .nil⟩
    refine lc_range (lo := 0) (n := n.toNat) (fun i H' => Ex H2 H' ∧ Sg K Mc He H' is ((D, .lst (((((irng 0 n.toNat).take i).filter f).map ef).map Datum.toD)) :: ms)) ⟨Ex.new hD, sB⟩
      (fun i H' hi p => ?_) (fun H' p => ?_)
    · have hx : (irng 0 n.toNat)[i]? = some ((0 : Int) + (i : Int)) := irng_get hi
      refine hb D ((0 : Int) + (i : Int)) _ H' p.2 ⟨by omega, by omega⟩ _ fun σ2 hw ht he => ⟨hw, ?_⟩
      have hlen : ((((irng 0 n.toNat).take i).filter f).map ef).length < 50000 := by
        rw [List.length_map]
        have := List.length_filter_le f ((irng 0 n.toNat).take i)
        rw [List.length_take, irng_len] at this
        omega
      exact lc_turn (ms := ms) (zs := (((irng 0 n.toNat).take (i + 1)).filter f).map ef) p.2 hlen (fun H3 => Ex H2 H3 ∧ Sg K Mc He H3 is ((D, .lst (((((irng 0 n.toNat).take (i + 1)).filter f).map ef).map Datum.toD)) :: ms)) ht he (filter_snoc hx) (fun H3 h4 s3 => ⟨by
        obtain ⟨H4, e4, e5⟩ := h4
        rcases e5 with e5 | ⟨o, e5⟩
        · rw [e5]; exact p.1.trans e4
        · rw [e5]; exact Ex.mut (p.1.trans e4) hD, s3⟩)
    · have z := p.2
      have et : (irng 0 n.toNat).take n.toNat = irng 0 n.toNat := List.take_of_length_le (by rw [irng_len]; exact Nat.le_refl _)
      rw [et] at z
      exact q _ H' (e2.trans p.1) (z.frz).im.1
theorem hv_lcR0 {vs : List Nat} (s : Sg K Mc He H is ms) {n : Int} (ef : Int → β) (h : Hv K (muA ms ++ Mc) ta σ H n) (hz : -100000 ≤ n ∧ n ≤ 40000)
    (hb : ∀ D (x : Int) (ys : List β) H1, Sg K Mc He H1 is ((D, .lst (ys.map Datum.toD)) :: ms) → 0 ≤ x ∧ x < n →
      ∀ Q : L2.St → Hp → Prop, (∀ σ2, wipe σ2 vs = wipe σ vs → Hv K (muA ((D, Mv.lst (ys.map Datum.toD)) :: ms) ++ Mc) te σ2 H1 (ef x) → Q σ2 H1) → g (.int x) (wipe σ vs) H1 Q) :
    Hv K (muA ms ++ Mc) (tLc (iRng1 (tCons ta tNil)) g tYes te vs) σ H ((irng 0 n.toNat).map ef) := by
  have key := hv_lcR (g := g) (tt := tYes) (te := te) (vs := vs) s (fun _ => true) ef h hz (fun D x ys H1 s1 hx Q k => hb D x ys H1 s1 hx Q fun σ2 hw he => k σ2 hw (fun H2 _ _ _ q => q H2 (Ex.refl H2)) fun _ => he)
  exact key.is (by rw [List.filter_eq_self.mpr (fun _ _ => rfl)])
end
/-! ### the least of a list -/
section
variable {K : PySem.W.Frag} {M : List Addr} {σ : L2.St} {H : Hp} {te : TE}
variable {α : Type} [DecidableEq α] [DatumOrd α]
theorem toD_inj {a b : α} (h : Datum.toD a = Datum.toD b) : a = b := by
  have e := Datum.eqv a b
  rw [h, Datum.eqv b b] at e
  simpa using e.symm
theorem holds_inj {h : Heap} {v : Value} {a b : α} (x : PySem.W.Holds h v a) (y : PySem.W.Holds h v b) : a = b := by
  obtain ⟨as, r⟩ := x
  obtain ⟨bs, r'⟩ := y
  exact toD_inj (PySem.W.alike_unique _ _ _ _ _ (DatumOrd.alike a b) r r')
def minL (l : List α) (d : α) : α := match l with
  | [] => d
  | x :: r => PySem.W.minOf x r
def rMinT (α : Type) [DecidableEq α] [DatumOrd α] (K : PySem.W.Frag) : List V → Hp → VK → Prop := fun vs H Q => ∃ (a : Addr) (us : List V) (x : α) (xs : List α), vs = [V.ref a] ∧ SqL K H a us ∧ Dts K H us (x :: xs) ∧ ∀ (i : Nat) (v : V), us[i]? = some v → (x :: xs)[i]? = some (PySem.W.minOf x xs) → Q v H
theorem dts_holdAll {X : Cx} {pins : List (Addr × Obj)} {s : Shared} (I : L2.Inv X pins σ H s) {us : List V} {its : List Value} {xs : List α} (d : Dts X.K H us xs) (r : Vals us its) : PySem.W.HoldAll s.heap its xs := Dp.readsAll I _ us its d r
theorem call_minT {X : Cx} (hc : X.calm = true) (hu : X.A.units + 1 + Datum.depth α < cLine) : CallR X (.builtin "min") (rMinT α X.K) := by
  intro pins s σ H vs us Q I r h
  obtain ⟨a, ws, x, xs, rfl, hS, hD, q⟩ := h
  obtain ⟨u, rfl, rx⟩ := vals1 r
  cases rx
  obtain ⟨its, rv, pl, hz⟩ := I.list hS
  refine PySem.W.min_list_datum (I.ok.hd hc) pl.isList (dts_holdAll I hD rv) hu fun i v h' tk hi hold kk => ?_
  have hi' : its[i]? = some v := by simpa using hi
  have hlen := rv.length
  have hil : i < ws.length := by
    have := (List.getElem?_eq_some_iff.mp hi').1
    omega
  obtain ⟨u', e1, e2⟩ := rv.get (i := i) (x := ws[i]) (by simp [hil])
  rw [hi'] at e1
  cases e1
  have hx2 : ∃ z, (x :: xs)[i]? = some z := ⟨(x :: xs)[i]'(by rw [← hD.len]; exact hil), by simp [hD.len ▸ hil]⟩
  obtain ⟨z, hz2⟩ := hx2
  obtain ⟨w, w1, w2⟩ := hD.at hz2
  have ew : w = ws[i] := by
    rw [List.getElem?_eq_getElem hil] at w1
    exact (Option.some.inj w1).symm
  subst ew
  have I' : L2.Inv X pins σ H { s with heap := h', toks := tk } := I.kept kk
  have ez : z = PySem.W.minOf x xs := holds_inj (dt_holds I' w2 e2) hold
  exact ⟨_, H, I', e2, q i _ (by simp [hil]) (by rw [← ez]; exact hz2)⟩
theorem hv_min {xs : List α} (d : α) (h : HS K M te σ H xs) (hne : xs ≠ []) : Hv K M (tCB (rMinT α K) (tCons te tNil)) σ H (minL xs d) := fun H1 e m Q q =>
  h H1 e m _ fun a vs H2 e2 s ds => by
    cases xs with
    | nil => exact absurd rfl hne
    | cons x r =>
      refine ⟨a, vs, x, r, rfl, s, ds.mono msk_le, fun i v hv hx => ?_⟩
      obtain ⟨w, w1, w2⟩ := ds.at hx
      rw [hv] at w1
      cases w1
      exact q v H2 e2 w2
end
theorem hud1 {A : Around} {k d : Nat} (hr : Room k A) (h : 1 + d ≤ 64) : A.units + 1 + d < cLine := by
  have := hud hr h
  omega
/-! ### what a loop keeps -/
theorem loopN_keep {S : Type} {f : S → Int → S} (P : S → Nat → Prop) (h : ∀ s k j, P s j → P (f s k) (j + 1)) : ∀ (n : Nat) (k : Int) (s : S) (j : Nat), P s j → P (loopN f n k s) (j + n)
  | 0, _, _, _, p => p
  | n + 1, k, s, j, p => by
    have := loopN_keep P h n (k + 1) (f s k) (j + 1) (h s k j p)
    show P (loopN f n (k + 1) (f s k)) (j + (n + 1))
    rw [show j + (n + 1) = j + 1 + n by omega]
    exact this
theorem sIx_nn {n d : Nat} {i : Int} (h : 0 ≤ i) : HT.sIx n d (some i) = min i.toNat n := by
  have e : i = ((i.toNat : Nat) : Int) := (Int.toNat_of_nonneg h).symm
  rw [e]
  exact HT.sIx_nat n d i.toNat
theorem cutL_from {α : Type} {xs : List α} {i : Int} (h : 0 ≤ i) : cutL xs (some i) none = xs.drop i.toNat := by
  unfold cutL
  rw [sIx_nn h, HT.sIx_none]
  by_cases e : i.toNat ≤ xs.length
  · rw [Nat.min_eq_left e]
    exact List.take_of_length_le (by rw [List.length_drop]; exact Nat.le_refl _)
  · rw [Nat.min_eq_right (by omega), List.drop_eq_nil_of_le (Nat.le_refl _), List.drop_eq_nil_of_le (by omega)]
    exact List.take_nil
theorem cutL_to {α : Type} {xs : List α} {i : Int} (h : 0 ≤ i) : cutL xs none (some i) = xs.take i.toNat := by
  unfold cutL
  rw [sIx_nn h, HT.sIx_none, List.drop_zero, Nat.sub_zero, List.take_eq_take_iff]
  omega
end Ly

namespace Ly
open PySem PySem.Spec PyProof.Rows L2 Evl
open PySem.W (Datum DatumOrd Tup T3 T4 minOf)
section
variable {α : Type} [DecidableEq α] [DatumOrd α]
theorem lt_irrefl (a : α) : DatumOrd.lt a a = false := by
  rw [← DatumOrd.lt_eq]; exact PySem.W.dataLt_self _
theorem lt_trans {a b c : α} (h : DatumOrd.lt a b = true) (h' : DatumOrd.lt b c = true) : DatumOrd.lt a c = true := by
  rw [← DatumOrd.lt_eq] at h h' ⊢
  exact lex_trans _ _ _ h h'
theorem lt_total {a b : α} (h : DatumOrd.lt a b = false) (h' : DatumOrd.lt b a = false) : Datum.toD a = Datum.toD b ∨ PySem.W.keyToks (Datum.toD a) = PySem.W.keyToks (Datum.toD b) := by
  rw [← DatumOrd.lt_eq] at h h'
  exact .inr (lex_total _ _ h h')
theorem lt_neg {a b c : α} (h : DatumOrd.lt a c = true) : DatumOrd.lt a b = true ∨ DatumOrd.lt b c = true := by
  rw [← DatumOrd.lt_eq] at h
  rw [← DatumOrd.lt_eq, ← DatumOrd.lt_eq]
  exact lex_negTrans _ _ _ h
theorem minOf_spec : ∀ (xs : List α) (x : α), minOf x xs ∈ x :: xs ∧ ∀ y ∈ x :: xs, DatumOrd.lt y (minOf x xs) = false
  | [], x => ⟨List.mem_cons_self, fun y hy => by
    have e : y = x := by simpa using hy
    rw [e]; exact lt_irrefl x⟩
  | z :: r, x => by
    have e : minOf x (z :: r) = minOf (if DatumOrd.lt z x = true then z else x) r := rfl
    rw [e]
    by_cases h : DatumOrd.lt z x = true
    · rw [if_pos h]
      obtain ⟨h1, h2⟩ := minOf_spec r z
      refine ⟨?_, fun y hy => ?_⟩
      · rcases List.mem_cons.mp h1 with q | q
        · rw [q]; simp
        · simp [q]
      · rcases List.mem_cons.mp hy with q | q
        · subst q
          cases hq : DatumOrd.lt y (minOf z r) with
          | false => rfl
          | true => exact absurd (lt_trans h hq) (by rw [h2 z List.mem_cons_self]; decide)
        · exact h2 y q
    · rw [if_neg h]
      obtain ⟨h1, h2⟩ := minOf_spec r x
      refine ⟨?_, fun y hy => ?_⟩
      · rcases List.mem_cons.mp h1 with q | q
        · rw [q]; simp
        · simp [q]
      · rcases List.mem_cons.mp hy with q | q
        · subst q; exact h2 y List.mem_cons_self
        · rcases List.mem_cons.mp q with q | q
          · subst q
            cases hq : DatumOrd.lt y (minOf x r) with
            | false => rfl
            | true =>
              rcases lt_neg (b := x) hq with q2 | q2
              · exact absurd q2 h
              · exact absurd q2 (by rw [h2 x List.mem_cons_self]; decide)
          · exact h2 y (List.mem_cons_of_mem _ q)
end
end Ly

namespace Ly
open PySem PySem.Spec PyProof.Rows L2 Evl
open PySem.W (Datum DatumOrd Tup T3 T4 minOf)
section
variable {K : PySem.W.Frag} {Mc M : List Addr} {He H H1 H2 : Hp} {is js : Ims} {ms : Mus} {σ : L2.St} {te ta tb tl : TE} {tt : TT} {g : TG} {tlo thi : TO}
variable {D : Ends} {tz tu tw : TS}
/-! ### texts -/
theorem hv_addS {a b : Str} (ha : Hv K M ta σ H a) (hb : Hv K M tb σ H b) (hz : a.length + b.length ≤ 100000) :
    Hv K M (tOp (fun x y H Q => ∃ i j, x = .str i ∧ y = .str j ∧ i.length + j.length ≤ sizeLine ∧ Q (.str (i ++ j)) H) ta tb) σ H (a ++ b) := fun H1 e m Q q =>
  ha H1 e m _ fun v H2 e2 d => hb H2 (e.trans e2) (m.ex e2) _ fun u H3 e3 d' => ⟨a, b, d.str, d'.str, sz_of hz, q _ H3 (e2.trans e3) (Dt.ofStr _)⟩
theorem hv_lower {a : Str} (ha : Hv K M ta σ H a) (hz : a.length ≤ 100000) : Hv K M (tM0 (fun x xs H Q => ∃ a, x = .str a ∧ xs = [] ∧ a.length ≤ 5592405 ∧ Q (.str (Txt.lower a)) H) ta) σ H (Txt.lower a) := fun H1 e m Q q =>
  ha H1 e m _ fun v H2 e2 d => ⟨⟨a, d.str⟩, a, d.str, rfl, by omega, q _ H2 e2 (Dt.ofStr _)⟩
theorem hv_lenS {a : Str} (ha : Hv K M ta σ H a) (hz : a.length ≤ 100000) : Hv K M (tCB (fun xs H Q => ∃ x n, xs = [x] ∧ LenV K x H n ∧ Q (.int n) H) (tCons ta tNil)) σ H (a.length : Int) := fun H1 e m Q q =>
  ha H1 e m _ fun v H2 e2 d => ⟨v, a.length, rfl, by rw [d.str]; exact ⟨sz_of hz, rfl⟩, q _ H2 e2 (Dt.ofInt _)⟩
/-- the sign at a place -/
def strAt (s : Str) (i : Nat) : Str := ⟨#[s.cps.toList.getD i 0]⟩
theorem hv_ixStr {a : Str} {i : Int} (ha : Hv K M ta σ H a) (hb : Hv K M tb σ H i) (hz : a.length ≤ 100000) (h0 : 0 ≤ i) (h1 : i < (a.length : Int)) : Hv K M (tOp rIxS ta tb) σ H (strAt a i.toNat) := fun H1 e m Q q =>
  ha H1 e m _ fun v H2 e2 d => hb H2 (e.trans e2) (m.ex e2) _ fun u H3 e3 d' => by
    have hl : i.toNat < a.cps.toList.length := by
      have : a.length = a.cps.toList.length := by simp [Str.length]
      omega
    refine ⟨a, i, a.cps.toList.getD i.toNat 0, d.str, d'.int, sz_of hz, ?_, q _ H3 (e2.trans e3) (Dt.ofStr _)⟩
    rw [show i = ((i.toNat : Nat) : Int) from (Int.toNat_of_nonneg h0).symm]
    refine atI_nat ?_
    rw [List.getD_eq_getElem?_getD, Int.toNat_natCast, List.getElem?_eq_getElem hl]
    rfl
theorem hv_sliceS {a : Str} {lo hi : Option Int} (h : Hv K M te σ H a) (h1 : HO' M tlo σ H lo) (h2 : HO' M thi σ H hi) (hz : a.length ≤ 100000) : Hv K M (tSl rSlS te tlo thi) σ H (cutS a lo hi) := fun H1 e m Q q =>
  h H1 e m _ fun v H2 e2 d => h1 H2 (e.trans e2) (m.ex e2) _ fun H3 e3 => h2 H3 ((e.trans e2).trans e3) ((m.ex e2).ex e3) _ fun H4 e4 =>
    ⟨a, d.str, sz_of hz, q _ H4 ((e2.trans e3).trans e4) (Dt.ofStr _)⟩
def inStr (i j : Str) : Bool := !(Builtin.Str.occurrences j i 0 j.length 1).isEmpty
theorem hv_inStr {a b : Str} (ha : Hv K M ta σ H a) (hb : Hv K M tb σ H b) : Hv K M (tOp (fun x y H Q => ∃ i j, x = .str i ∧ y = .str j ∧ Q (.bl (!(Builtin.Str.occurrences j i 0 j.length 1).isEmpty)) H) ta tb) σ H (inStr a b) := fun H1 e m Q q =>
  ha H1 e m _ fun v H2 e2 d => hb H2 (e.trans e2) (m.ex e2) _ fun u H3 e3 d' => ⟨a, b, d.str, d'.str, q _ H3 (e2.trans e3) (Dt.ofBool _)⟩
theorem hv_niStr {a b : Str} (ha : Hv K M ta σ H a) (hb : Hv K M tb σ H b) : Hv K M (tOp (fun x y H Q => ∃ i j, x = .str i ∧ y = .str j ∧ Q (.bl (!(!(Builtin.Str.occurrences j i 0 j.length 1).isEmpty))) H) ta tb) σ H (!inStr a b) := fun H1 e m Q q =>
  ha H1 e m _ fun v H2 e2 d => hb H2 (e.trans e2) (m.ex e2) _ fun u H3 e3 d' => ⟨a, b, d.str, d'.str, q _ H3 (e2.trans e3) (Dt.ofBool _)⟩
theorem hv_find {a b : Str} (ha : Hv K M ta σ H a) (hb : Hv K M tb σ H b) : Hv K M (tM1 (fun x xs H Q => ∃ a b, x = .str a ∧ xs = [.str b] ∧ Q (.int (Txt.find a b)) H) ta tb) σ H (Txt.find a b) := fun H1 e m Q q =>
  ha H1 e m _ fun v H2 e2 d => ⟨⟨a, d.str⟩, hb H2 (e.trans e2) (m.ex e2) _ fun u H3 e3 d' => ⟨a, b, d.str, by rw [d'.str], q _ H3 (e2.trans e3) (Dt.ofInt _)⟩⟩
theorem hv_find3 {a b : Str} {i : Int} (ha : Hv K M ta σ H a) (hb : Hv K M tb σ H b) (hc : Hv K M te σ H i) :
    Hv K M (tBM K "str" (fun x xs H Q => ∃ (a b : Str) (i : Int), x = .str a ∧ xs = [.str b, .int i] ∧ Q (.int (Txt.find3 a b i)) H) ta (tCons tb (tCons te tNil))) σ H (Txt.find3 a b i) := fun H1 e m Q q =>
  ha H1 e m _ fun v H2 e2 d => ⟨by rw [d.str]; exact (rfl : ("str" : String) = "str"), hb H2 (e.trans e2) (m.ex e2) _ fun u H3 e3 d' => hc H3 ((e.trans e2).trans e3) ((m.ex e2).ex e3) _ fun z H4 e4 d'' =>
    ⟨a, b, i, d.str, by rw [d'.str, d''.int], q _ H4 ((e2.trans e3).trans e4) (Dt.ofInt _)⟩⟩
theorem dts_strs {H : Hp} : ∀ {vs : List V} {xs : List Str}, Dts K H vs xs → vs = xs.map V.str
  | [], [], _ => rfl
  | [], _ :: _, h => by cases h
  | _ :: _, [], h => by cases h
  | v :: vs, x :: xs, h => by
    cases h with
    | cons a b =>
      rw [List.map_cons, Dt.str (H := H) (K := K) (v := v) (i := x) a, dts_strs (vs := vs) (xs := xs) b]
theorem hv_join {a : Str} {xs : List Str} (ha : Hv K M ta σ H a) (hb : HS K M tb σ H xs) (hz : (xs.map (·.length)).sum + xs.length * a.length ≤ 100000) :
    Hv K M (tM1 (fun x xs H Q => ∃ a p, ∃ ys : List Str, x = .str a ∧ xs = [.ref p] ∧ (SqL K H p (ys.map V.str) ∨ SqT K H p (ys.map V.str)) ∧ (ys.map (·.length)).sum + ys.length * a.length ≤ 16777216 ∧ Q (.str (Txt.join a ys)) H) ta tb) σ H (Txt.join a xs) := fun H1 e m Q q =>
  ha H1 e m _ fun v H2 e2 d => ⟨⟨a, d.str⟩, hb H2 (e.trans e2) (m.ex e2) _ fun p vs H3 e3 s ds => ⟨a, p, xs, d.str, rfl, Or.inl (by rw [← dts_strs ds]; exact s), by omega, q _ H3 (e2.trans e3) (Dt.ofStr _)⟩⟩
theorem hv_intI {i : Int} (ha : Hv K M ta σ H i) : Hv K M (tCB (fun xs H Q => (∃ i, xs = [.int i] ∧ Q (.int i) H) ∨ ∃ k, xs = [.bl k] ∧ Q (.int (if k then 1 else 0)) H) (tCons ta tNil)) σ H i := fun H1 e m Q q =>
  ha H1 e m _ fun v H2 e2 d => Or.inl ⟨i, by rw [d.int], q _ H2 e2 (Dt.ofInt _)⟩
theorem hv_intS {a : Str} {n : Int} (ha : Hv K M ta σ H a) (hn : PySem.intText? a = some n) (hz : a.length ≤ 640) : Hv K M (tCB (fun xs H Q => ∃ a n, xs = [.str a] ∧ PySem.intText? a = some n ∧ a.length ≤ 640 ∧ Q (.int n) H) (tCons ta tNil)) σ H n := fun H1 e m Q q =>
  ha H1 e m _ fun v H2 e2 d => ⟨a, n, by rw [d.str], hn, hz, q _ H2 e2 (Dt.ofInt _)⟩
/-- a text, so often -/
def mulS (a : Str) (n : Int) : Str := ⟨(List.replicate n.toNat a.cps.toList).flatten.toArray⟩
theorem mulS_len (a : Str) (n : Int) : (mulS a n).length = a.length * n.toNat := by
  have h1 : (mulS a n).length = (List.replicate n.toNat a.cps.toList).flatten.length := by simp [mulS, Str.length]
  have h2 : a.length = a.cps.toList.length := by simp [Str.length]
  rw [h1, h2, List.length_flatten, List.map_replicate, List.sum_replicate_nat, Nat.mul_comm]
theorem foldl_app : ∀ (k : Nat) (x : Array Nat) (acc : Array Nat), ((List.replicate k x).foldl (· ++ ·) acc).toList = acc.toList ++ (List.replicate k x.toList).flatten
  | 0, x, acc => by simp
  | k + 1, x, acc => by
    rw [List.replicate_succ, List.foldl_cons, foldl_app k x (acc ++ x), List.replicate_succ, List.flatten_cons, Array.toList_append, List.append_assoc]
theorem op_mulS {X : Cx} : OpR X (binaryOp .Mult) (fun x y H Q => ∃ i n, x = .str i ∧ y = .int n ∧ 1 ≤ n ∧ i.length * n.toNat ≤ 100000 ∧ n ≤ 100000 ∧ Q (.str (mulS i n)) H) := by
  intro pins s σ H x y v u Q I rx ry h
  obtain ⟨i, n, rfl, rfl, h1, h2, h3, q⟩ := h
  obtain ⟨t, rfl⟩ := rx
  obtain ⟨t', rfl⟩ := ry
  have hc : ¬ n < 1 := by omega
  refine PySem.P.mul_str ?_ (fun _ hb => ?_) (fun _ _ => ?_) ?_
  · rw [decide_eq_false (by omega), decide_eq_false (by omega)]; rfl
  · have h4 : (i.length : Int) ≤ 100000 := by
      have : i.length * 1 ≤ i.length * n.toNat := Nat.mul_le_mul_left _ (by omega)
      omega
    have h5 : (100000 : Int) ≤ (2 ^ 63 - 1) / n := by
      refine Int.le_ediv_of_mul_le (by omega) ?_
      omega
    omega
  · have hs : sizeLine = 16777216 := sizeLine_eq
    show decide (i.length * n.toNat > sizeLine) = false
    exact decide_eq_false (by omega)
  · rw [if_neg hc]
    by_cases e : (n == 1 || i.length == 0) = true
    · rw [if_pos e]
      have em : mulS i n = i := by
        refine TL.ext_tl ?_
        show (List.replicate n.toNat i.cps.toList).flatten = i.cps.toList
        rcases Bool.or_eq_true _ _ |>.mp e with e1 | e1
        · have : n = 1 := by simpa using e1
          subst this
          simp
        · have : i.cps.toList = [] := by
            have : i.length = 0 := by simpa using e1
            have h9 : i.cps.toList.length = 0 := by simpa [Str.length] using this
            exact List.length_eq_zero_iff.mp h9
          rw [this]
          simp
      rw [em] at q
      exact ⟨.str i, H, I, ⟨t, rfl⟩, q⟩
    · rw [if_neg e]
      have em : (⟨(List.replicate n.toNat i.cps).foldl (· ++ ·) #[]⟩ : Str) = mulS i n := by
        refine TL.ext_tl ?_
        show ((List.replicate n.toNat i.cps).foldl (· ++ ·) #[]).toList = (List.replicate n.toNat i.cps.toList).flatten
        rw [foldl_app]
        rfl
      rw [em]
      exact ⟨by rw [mulS_len]; exact sz_of h2, .str _, H, I.tok _, ⟨_, rfl⟩, q⟩
theorem hv_mulS {a : Str} {n : Int} (ha : Hv K M ta σ H a) (hb : Hv K M tb σ H n) (h1 : 1 ≤ n) (h2 : a.length * n.toNat ≤ 100000) (h3 : n ≤ 100000) :
    Hv K M (tOp (fun x y H Q => ∃ i n, x = .str i ∧ y = .int n ∧ 1 ≤ n ∧ i.length * n.toNat ≤ 100000 ∧ n ≤ 100000 ∧ Q (.str (mulS i n)) H) ta tb) σ H (mulS a n) := fun H1 e m Q q =>
  ha H1 e m _ fun v H2 e2 d => hb H2 (e.trans e2) (m.ex e2) _ fun u H3 e3 d' => ⟨a, n, d.str, d'.int, h1, h2, h3, q _ H3 (e2.trans e3) (Dt.ofStr _)⟩
theorem hv_max2 {i j : Int} (ha : Hv K M ta σ H i) (hb : Hv K M tb σ H j) : Hv K M (tCB (fun xs H Q => ∃ i j, xs = [.int i, .int j] ∧ Q (.int (if j > i then j else i)) H) (tCons ta (tCons tb tNil))) σ H (max i j) := fun H1 e m Q q =>
  ha H1 e m _ fun v H2 e2 d => hb H2 (e.trans e2) (m.ex e2) _ fun u H3 e3 d' => ⟨i, j, by rw [d.int, d'.int], q _ H3 (e2.trans e3) (by
    rw [show (if j > i then j else i) = max i j by split <;> omega]; exact Dt.ofInt _)⟩
theorem hv_min2 {i j : Int} (ha : Hv K M ta σ H i) (hb : Hv K M tb σ H j) : Hv K M (tCB (fun xs H Q => ∃ i j, xs = [.int i, .int j] ∧ Q (.int (if j < i then j else i)) H) (tCons ta (tCons tb tNil))) σ H (min i j) := fun H1 e m Q q =>
  ha H1 e m _ fun v H2 e2 d => hb H2 (e.trans e2) (m.ex e2) _ fun u H3 e3 d' => ⟨i, j, by rw [d.int, d'.int], q _ H3 (e2.trans e3) (by
    rw [show (if j < i then j else i) = min i j by split <;> omega]; exact Dt.ofInt _)⟩
end
section
variable {K : PySem.W.Frag} {Mc M : List Addr} {He H H1 H2 : Hp} {is js : Ims} {ms : Mus} {σ : L2.St} {te ta tb tl : TE} {tt : TT} {g : TG} {tlo thi : TO}
variable {α β γ : Type} [DecidableEq α] [Datum α] [DecidableEq β] [Datum β] [DecidableEq γ] [Datum γ]
variable {D : Ends} {tz tu tw : TS}
theorem hv_chain {r r' : R2} {a b : Bool} {x : α} (h1 : ∀ H1, Ex H H1 → MOk M H1 → ∀ Q : V → V → Hp → Prop, (∀ y k H2, Ex H1 H2 → k = .bl a → Q y k H2) → ta σ H1 fun x H2 => tb σ H2 fun y H3 => r x y H3 fun z H4 => Q y z H4) : True := True.intro
/-- i < j < k and the like -/
theorem hv_chainI {g1 g2 : Int → Int → Bool} {i j k : Int} (ha : Hv K M ta σ H i) (hb : Hv K M tb σ H j) (hc : Hv K M te σ H k) :
    Hv K M (tChain (rI0 fun i j => .bl (g1 i j)) (rI0 fun i j => .bl (g2 i j)) ta tb te) σ H (g1 i j && g2 j k) := fun H1 e m Q q =>
  ha H1 e m _ fun v H2 e2 d => hb H2 (e.trans e2) (m.ex e2) _ fun u H3 e3 d' => ⟨i, j, d.int, d'.int, g1 i j, rfl, by
    cases hg : g1 i j with
    | false =>
      rw [if_neg Bool.false_ne_true]
      exact q _ H3 (e2.trans e3) (by rw [hg]; exact Dt.ofBool _)
    | true =>
      rw [if_pos rfl]
      refine hc H3 ((e.trans e2).trans e3) ((m.ex e2).ex e3) _ fun z H4 e4 d'' => ⟨j, k, d'.int, d''.int, q _ H4 ((e2.trans e3).trans e4) ?_⟩
      show Dt K _ (V.bl (g2 j k)) _
      rw [hg]
      exact Dt.ofBool _⟩
/-! ### new lists -/
/-- a new list, told apart from all else -/
def HF (K : PySem.W.Frag) (M : List Addr) (te : TE) (σ : L2.St) (H : Hp) (xs : List α) : Prop :=
  ∀ H1, Ex H H1 → MOk M H1 → ∀ Q : VK, (∀ p vs H3, H1 p = none → Ex H1 H3 → H3 p = some (.lst vs) → Dts K (msk (p :: M) H3) vs xs → Q (.ref p) H3) → te σ H1 Q
theorem hv_hf {xs : List α} (h : HF K M te σ H xs) : Hv K M te σ H xs := fun H1 e m Q q =>
  h H1 e m Q fun p vs H3 n e3 h3 d => q _ H3 e3 (Dt.ofList (SqL.of (by rw [msk_out (m.nin n)]; exact h3)) (d.mono (msk_sub fun a ha => List.mem_cons_of_mem _ ha)))
theorem Sg.newF (s : Sg K Mc He H is ms) {p : Addr} {vs : List V} {xs : List α} (n : H p = none) (e : Ex H H1) (h : H1 p = some (.lst vs)) (d : Dts K (msk (p :: (muA ms ++ Mc)) H1) vs xs) : Sg K Mc He H1 is ((p, .lst (xs.map Datum.toD)) :: ms) := by
  have np : p ∉ muA ms := fun z => s.mok p (List.mem_append_left _ z) n
  have sub : Ex (msk (muA ms ++ Mc) H) (msk (p :: (muA ms ++ Mc)) H1) := fun a o q => by
    by_cases z : a ∈ muA ms ++ Mc
    · rw [msk_in z] at q; cases q
    · rw [msk_out z] at q
      have na : a ≠ p := ne_of_none q n
      rw [msk_out (by simp only [List.mem_cons, not_or]; exact ⟨na, z⟩)]
      exact e a o q
  refine ⟨fun a o q => ?_, s.okc, List.nodup_cons.mpr ⟨np, s.nd⟩, s.im.mono sub, ⟨⟨.lst vs, h, vs, rfl, d⟩, ?_⟩⟩
  · have q' := s.ext a o q
    by_cases z : a ∈ muA ms
    · rw [msk_in z] at q'; cases q'
    · rw [msk_out z] at q'
      have na : a ≠ p := ne_of_none q' n
      show msk (p :: muA ms) H1 a = some o
      rw [msk_out (by simp only [List.mem_cons, not_or]; exact ⟨na, z⟩)]
      exact e a o q'
  · exact s.mu.mono sub e
theorem hf_lst {tr : TA} {xs : List α} (h : HAs K M tr σ H xs) (hl : xs.length ≤ 100000) : HF K M (tLst tr) σ H xs := fun H1 e m Q q =>
  h H1 e m _ fun vs H2 e2 d => ⟨sz_of (by rw [d.len]; exact hl), fun p hp => by
    have e3 : Ex H2 (upd H2 p (.lst vs)) := Ex.new hp
    exact q p vs _ (fresh_back e2 hp) (e2.trans e3) upd_same (d.mono (msk_new hp))⟩
theorem hf_rep {tr : TA} {xs : List α} {n : Int} (h : HAs K M tr σ H xs) (hb : Hv K M tb σ H n) (hl : xs.length ≤ 1000) (h0 : 0 ≤ n) (hn : xs.length * n.toNat ≤ 100000) (hn2 : n ≤ 100000) : HF K M (tOp rRep (tLst tr) tb) σ H (List.replicate n.toNat xs).flatten := fun H1 e m Q q =>
  h H1 e m _ fun vs H2 e2 d => ⟨sz_of (by rw [d.len]; omega), fun p hp => by
    have e3 : Ex H2 (upd H2 p (.lst vs)) := Ex.new hp
    refine hb _ ((e.trans e2).trans e3) ((m.ex e2).ex e3) _ fun u H4 e4 d' => ⟨p, n, vs, rfl, d'.int, e4 p _ upd_same, by omega, by omega, sz_of (by rw [d.len]; exact hn), fun l hl2 => ?_⟩
    have e5 : Ex H4 (upd H4 l (.lst (List.replicate n.toNat vs).flatten)) := Ex.new hl2
    refine q l _ _ (fresh_back ((e2.trans e3).trans e4) hl2) (((e2.trans e3).trans e4).trans e5) upd_same ?_
    have d2 : Dts K (msk M H2) vs xs := d
    have d3 : Dts K (msk (l :: M) (upd H4 l (.lst (List.replicate n.toNat vs).flatten))) vs xs := (d2.mono (msk_ex (e3.trans e4))).mono (msk_new hl2)
    have rep : ∀ k : Nat, Dts K (msk (l :: M) (upd H4 l (.lst (List.replicate n.toNat vs).flatten))) (List.replicate k vs).flatten (List.replicate k xs).flatten := fun k => by
      induction k with
      | zero => exact Dts.nil
      | succ k ih =>
        rw [List.replicate_succ, List.replicate_succ, List.flatten_cons, List.flatten_cons]
        exact d3.app ih
    exact rep _⟩
theorem hf_listOf {xs : List α} (h : HS K M te σ H xs) : HF K M (tCB (fun xs H Q => ∃ p ys, xs = [.ref p] ∧ (SqL K H p ys ∨ SqT K H p ys) ∧ ∀ l, H l = none → Q (.ref l) (upd H l (.lst ys))) (tCons te tNil)) σ H xs := fun H1 e m Q q =>
  h H1 e m _ fun a vs H2 e2 s d => ⟨a, vs, rfl, Or.inl s, fun p hp => by
    have e3 : Ex H2 (upd H2 p (.lst vs)) := Ex.new hp
    exact q p vs _ (fresh_back e2 hp) (e2.trans e3) upd_same (d.mono (msk_new hp))⟩
/-- x = a new list that is to be changed -/
theorem z_freshG {i : Nat} {x : List α} (s : Sg K Mc He H is ms) (h : HF K (muA ms ++ Mc) te σ H x) (k : ∀ y, y = x → ∀ p H1, Sg K Mc He H1 is ((p, .lst (y.map Datum.toD)) :: ms) → tz D (σ.set i (some (.ref p))) H1) : tSeq (tAsg te (gName i)) tz D σ H :=
  h H (Ex.refl H) s.mok _ fun p vs H3 n e3 h3 d => k x rfl p H3 (s.newF n e3 h3 d)
theorem dpa_set {H : Hp} : ∀ {vs : List V} {ds : List PyData} {j : Nat} {v : V} {d : PyData}, DpAll K H vs ds → Dp K H v d → DpAll K H (vs.set j v) (ds.set j d)
  | _, _, j, _, _, .nil, _ => .nil
  | _, _, 0, _, _, .cons a b, h => .cons h b
  | _, _, j + 1, _, _, .cons a b, h => .cons a (dpa_set b h)
/-- xs[i] = e -/
theorem z_setG {kk : Nat} {l : Addr} {xs : List α} {x : α} {i : Int} (s : Sg K Mc He H is ms) (e : ms[kk]? = some (l, .lst (xs.map Datum.toD))) (h : Hv K (muA ms ++ Mc) te σ H x) (ho : Ev ta σ H (.ref l)) (hi : Hv K (muA ms ++ Mc) tb σ H i) (h0 : 0 ≤ i) (h1 : i < (xs.length : Int))
    (k : ∀ y, y = xs.set i.toNat x → ∀ H1, Sg K Mc He H1 is (ms.set kk (l, .lst (y.map Datum.toD))) → tz D σ H1) : tSeq (tAsg te (gSub ta tb rSetL)) tz D σ H :=
  h H (Ex.refl H) s.mok _ fun v H2 e2 d => ho H2 e2 _ fun H3 e3 => hi H3 (e2.trans e3) (s.mok.ex (e2.trans e3)) _ fun u H4 e4 d' => by
    have s4 := ((s.ex e2).ex e3).ex e4
    obtain ⟨vs, h3, h4⟩ := s4.lst e
    have hn : i.toNat < vs.length := by rw [h4.len]; omega
    refine ⟨l, vs, i, i.toNat, rfl, d'.int, h3, ?_, k _ rfl _ (s4.set e ⟨_, rfl, ?_⟩)⟩
    · have := ixN_nat hn
      rwa [Int.toNat_of_nonneg h0] at this
    · rw [List.map_set]
      exact dpa_set h4 (dp_mono (msk_ex (e3.trans e4)) d)
/-- xs[-1] = e -/
theorem z_setLastG {kk : Nat} {l : Addr} {xs : List α} {x : α} (s : Sg K Mc He H is ms) (e : ms[kk]? = some (l, .lst (xs.map Datum.toD))) (h : Hv K (muA ms ++ Mc) te σ H x) (ho : Ev ta σ H (.ref l)) (h1 : 0 < xs.length)
    (k : ∀ y, y = xs.set (xs.length - 1) x → ∀ H1, Sg K Mc He H1 is (ms.set kk (l, .lst (y.map Datum.toD))) → tz D σ H1) : tSeq (tAsg te (gSub ta (tUn (rU fun i => .int (-i)) (tC (.int 1))) rSetL)) tz D σ H :=
  h H (Ex.refl H) s.mok _ fun v H2 e2 d => ho H2 e2 _ fun H3 e3 => ⟨1, rfl, by
    have s4 := (s.ex e2).ex e3
    obtain ⟨vs, h3, h4⟩ := s4.lst e
    have hn : vs.length = xs.length := h4.len
    refine ⟨l, vs, -1, xs.length - 1, rfl, rfl, h3, ?_, k _ rfl _ (s4.set e ⟨_, rfl, ?_⟩)⟩
    · unfold ixN
      rw [if_neg (by decide), if_pos (by omega)]
      show some _ = some _
      congr 1
      omega
    · rw [List.map_set]
      exact dpa_set h4 (dp_mono (msk_ex e3) d)⟩
/-- xs.extend(a new list) -/
theorem zq_extG {kk : Nat} {l : Addr} {xs ys : List α} (s : Sg K Mc He H is ms) (e : ms[kk]? = some (l, .lst (xs.map Datum.toD))) (hi : Ev ta σ H (.ref l)) (h : HF K (muA ms ++ Mc) te σ H ys) (hz : xs.length + ys.length ≤ 100000)
    (k : ∀ y, y = xs ++ ys → ∀ H1, Sg K Mc He H1 is (ms.set kk (l, .lst (y.map Datum.toD))) → tz D σ H1) : tSeq (tDrop (tBM K "list" rExtend ta (tCons te tNil))) tz D σ H := hi H (Ex.refl H) _ fun H1 e1 => by
  obtain ⟨vs, h1, h2⟩ := (s.ex e1).lst e
  refine ⟨Or.inl ⟨rfl, vs, sq_of h1⟩, h H1 e1 (s.mok.ex e1) _ fun p ws H3 n e3 h3 d => ?_⟩
  obtain ⟨vs', h4, h5⟩ := ((s.ex e1).ex e3).lst e
  refine ⟨l, p, vs', ws, rfl, rfl, h4, h3, sz_of (by rw [h5.len, d.len]; exact hz), k _ rfl _ (((s.ex e1).ex e3).set e ⟨_, rfl, ?_⟩)⟩
  rw [List.map_append]
  exact dpa_app h5 (dpa_mono (msk_sub fun a ha => List.mem_cons_of_mem _ ha) d)
/-! ### a, b = e -/
theorem z_unp2 {i j : Nat} {p : α × β} (s : Sg K Mc He H is ms) (h : Hv K (muA ms ++ Mc) te σ H p) (k : ∀ x y, (x, y) = p → ∀ v u H1, Sg K Mc He H1 ((v, Datum.toD x) :: (u, Datum.toD y) :: is) ms → tz D ((σ.set i (some v)).set j (some u)) H1) :
    tSeq (tAsg te (gTup K 2 (gCons (gName i) (gCons (gName j) gNil)))) tz D σ H :=
  h H (Ex.refl H) s.mok _ fun v H1 e d => by
    obtain ⟨l, a, b, rfl, st, d1, d2⟩ := d.pair
    exact ⟨l, [a, b], rfl, ex_t msk_le st, rfl, a, [b], rfl, b, [], rfl, rfl, k p.1 p.2 rfl a b H1 (((s.ex e).put d2).put d1)⟩
/-! ### for over a text -/
def chars (s : Str) : List Str := s.cps.toList.map fun c => ⟨#[c]⟩
theorem chars_len (s : Str) : (chars s).length = s.length := by simp [chars, Str.length]
theorem zq_forS {a : Str} {j : Nat} (s : Sg K Mc He H is ms) (h : Hv K (muA ms ++ Mc) te σ H a) (Pv : Nat → L2.St → Hp → Prop) (h0 : ∀ H1, Sg K Mc He H1 is ms → Pv 0 σ H1)
    (hs : ∀ i x σ' H', (chars a)[i]? = some x → Pv i σ' H' → tu { D with nx := Pv (i + 1), ct := Pv (i + 1), bk := tz D } (σ'.set j (some (.str x))) H')
    (hd : ∀ σ' H', Pv (chars a).length σ' H' → tz D σ' H') : tSeq (tFor (iStr te) (gName j) tu) tz D σ H :=
  h H (Ex.refl H) s.mok _ fun v H1 e d => ⟨a, d.str, by
    have hsz : a.cps.size = (chars a).length := by rw [chars_len]; rfl
    refine for_it (D := { D with nx := tz D }) (walk_str (z := a)) Pv (h0 H1 (s.ex e)) (fun _ _ _ _ _ => True.intro) (fun i x σ' H' H'' hi p y => ?_) (fun σ' H' p => hd σ' H' (by rw [← hsz]; exact p))
    obtain ⟨rfl, c, hc, rfl⟩ := y
    refine hs i _ σ' _ ?_ p
    unfold chars
    rw [List.getElem?_map]
    have : a.cps.toList[i]? = some c := by rw [Array.getElem?_toList]; exact hc
    rw [this]
    rfl⟩
/-! ### while -/
def loopW {S : Type} (c : S → Bool) (f : S → S) : Nat → S → S
  | 0, s => s
  | n + 1, s => if c s = true then loopW c f n (f s) else s
/-- R tells what a state is, μ falls -/
theorem zq_while {S : Type} (c : S → Bool) (f : S → S) (μ : S → Nat) (N : Nat) (s0 : S) (R : S → L2.St → Hp → Prop) (hN : μ s0 < N) (h0 : R s0 σ H)
    (hs : ∀ x σ' H', R x σ' H' → ∃ M', MOk M' H' ∧ HT M' tt σ' H' (c x) ∧
      (c x = true → ∀ H2, Ex H' H2 → tu { D with nx := fun σ2 H3 => ∃ y, y = f x ∧ μ y < μ x ∧ R y σ2 H3, ct := fun σ2 H3 => ∃ y, y = f x ∧ μ y < μ x ∧ R y σ2 H3, bk := tz D } σ' H2))
    (hd : ∀ x σ' H' H2, R x σ' H' → c x = false → Ex H' H2 → loopW c f N s0 = x → tz D σ' H2) : tSeq (tWhile tt tu) tz D σ H := by
  refine ⟨fun m σ' H' => ∃ x, μ x < m ∧ loopW c f N s0 = loopW c f m x ∧ R x σ' H', ⟨N, s0, hN, rfl, h0⟩, ?_⟩
  rintro m σ' H' ⟨x, hm, he, hR⟩
  obtain ⟨M', mo, ht, ht1⟩ := hs x σ' H' hR
  refine ht H' (Ex.refl H') mo _ fun H2 e2 => ?_
  obtain ⟨n, rfl⟩ : ∃ n, m = n + 1 := ⟨m - 1, by omega⟩
  cases hc : c x with
  | true =>
    refine ⟨fun σ2 H3 => ∃ y, y = f x ∧ μ y < μ x ∧ R y σ2 H3, fun σ2 H3 ⟨y, hy, hl, hR2⟩ => ⟨n, Nat.lt_succ_self _, y, by omega, ?_, hR2⟩, ht1 hc H2 e2⟩
    rw [he, hy]
    show (if c x = true then loopW c f n (f x) else x) = _
    rw [if_pos hc]
  | false =>
    refine hd x σ' H' H2 hR hc e2 ?_
    rw [he]
    show (if c x = true then loopW c f n (f x) else x) = x
    rw [if_neg (by rw [hc]; exact Bool.false_ne_true)]
/-! ### new lists by comprehensions -/
theorem hf_lcL0 {vs : List Nat} (s : Sg K Mc He H is ms) {xs : List α} (ef : α → β) (h : Hv K (muA ms ++ Mc) tl σ H xs) (hz : xs.length ≤ 40000)
    (hb : ∀ D src x w (ys : List β) H1, Sg K Mc He H1 ((w, Datum.toD x) :: (src, Datum.toD xs) :: is) ((D, .lst (ys.map Datum.toD)) :: ms) → x ∈ xs →
      ∀ Q : L2.St → Hp → Prop, (∀ σ2, wipe σ2 vs = wipe σ vs → Hv K (muA ((D, Mv.lst (ys.map Datum.toD)) :: ms) ++ Mc) te σ2 H1 (ef x) → Q σ2 H1) → g w (wipe σ vs) H1 Q) :
    HF K (muA ms ++ Mc) (tLc (iList K tl) g tYes te vs) σ H (xs.map ef) := fun H1 e m Q q =>
  h H1 e m _ fun v H2 e2 d => by
    obtain ⟨a, us, rfl, s1, ds⟩ := d.list
    refine ⟨a, rfl, ⟨us, ex_l msk_le s1⟩, fun D hD => ?_⟩
    have sA : Sg K Mc He H2 ((.ref a, Datum.toD xs) :: is) ms := ((s.ex e).ex e2).put d
    have sB : Sg K Mc He (upd H2 D (.lst [])) ((.ref a, Datum.toD xs) :: is) ((D, .lst (([] : List β).map Datum.toD)) :: ms) := sA.new hD ⟨[], rfl, .nil⟩
    refine lc_listD (xs := xs) (M' := D :: (muA ms ++ Mc)) (fun i H' => Ex H2 H' ∧ Sg K Mc He H' ((.ref a, Datum.toD xs) :: is) ((D, .lst (((xs.take i).map ef).map Datum.toD)) :: ms)) ⟨Ex.new hD, sB⟩
      (fun i H' _ p => ?_) (fun i x w H' hx p dw => ?_) (fun H' p => ?_)
    · obtain ⟨a', us', e', s2, ds'⟩ := Dt.list (α := α) p.2.im.1
      cases e'
      exact ⟨us', ex_l msk_le s2, ds'⟩
    · have hi : i < xs.length := (List.getElem?_eq_some_iff.mp hx).1
      refine hb D (.ref a) x w _ H' (p.2.put dw) (List.mem_of_getElem? hx) _ fun σ2 hw he => ⟨hw, ?_⟩
      have hlen : ((xs.take i).map ef).length < 50000 := by
        rw [List.length_map, List.length_take]
        omega
      exact lc_turn (ms := ms) (tt := tYes) (b := true) (zs := (xs.take (i + 1)).map ef) p.2 hlen (fun H3 => Ex H2 H3 ∧ Sg K Mc He H3 ((.ref a, Datum.toD xs) :: is) ((D, .lst (((xs.take (i + 1)).map ef).map Datum.toD)) :: ms)) (fun H2 _ _ _ q => q H2 (Ex.refl H2)) (fun _ => he) (by rw [if_pos rfl, take_snoc hx, List.map_append]; rfl) (fun H3 h4 s3 => ⟨by
        obtain ⟨H4, e4, e5⟩ := h4
        rcases e5 with e5 | ⟨o, e5⟩
        · rw [e5]; exact p.1.trans e4
        · rw [e5]; exact Ex.mut (p.1.trans e4) hD, s3⟩)
    · have z := p.2
      rw [List.take_length] at z
      obtain ⟨us2, h3, h4⟩ := z.lst (k := 0) rfl
      exact q D us2 H' (fresh_back e2 hD) (e2.trans p.1) h3 h4
theorem hf_lcR0 {vs : List Nat} (s : Sg K Mc He H is ms) {n : Int} (ef : Int → β) (h : Hv K (muA ms ++ Mc) ta σ H n) (hz : -100000 ≤ n ∧ n ≤ 40000)
    (hb : ∀ D (x : Int) (ys : List β) H1, Sg K Mc He H1 is ((D, .lst (ys.map Datum.toD)) :: ms) → 0 ≤ x ∧ x < n →
      ∀ Q : L2.St → Hp → Prop, (∀ σ2, wipe σ2 vs = wipe σ vs → Hv K (muA ((D, Mv.lst (ys.map Datum.toD)) :: ms) ++ Mc) te σ2 H1 (ef x) → Q σ2 H1) → g (.int x) (wipe σ vs) H1 Q) :
    HF K (muA ms ++ Mc) (tLc (iRng1 (tCons ta tNil)) g tYes te vs) σ H ((irng 0 n.toNat).map ef) := fun H1 e m Q q =>
  h H1 e m _ fun v H2 e2 d => by
    refine ⟨n, by rw [d.int], by omega, by omega, fun D hD => ?_⟩
    have sA : Sg K Mc He H2 is ms := (s.ex e).ex e2
    have sB : Sg K Mc He (upd H2 D (.lst [])) is ((D, .lst (([] : List β).map Datum.toD)) :: ms) := sA.new hD ⟨[], rfl, .nil⟩
    refine lc_range (lo := 0) (n := n.toNat) (fun i H' => Ex H2 H' ∧ Sg K Mc He H' is ((D, .lst ((((irng 0 n.toNat).take i).map ef).map Datum.toD)) :: ms)) ⟨Ex.new hD, sB⟩
      (fun i H' hi p => ?_) (fun H' p => ?_)
    · have hx : (irng 0 n.toNat)[i]? = some ((0 : Int) + (i : Int)) := irng_get hi
      refine hb D ((0 : Int) + (i : Int)) _ H' p.2 ⟨by omega, by omega⟩ _ fun σ2 hw he => ⟨hw, ?_⟩
      have hlen : (((irng 0 n.toNat).take i).map ef).length < 50000 := by
        rw [List.length_map, List.length_take, irng_len]
        omega
      exact lc_turn (ms := ms) (tt := tYes) (b := true) (zs := ((irng 0 n.toNat).take (i + 1)).map ef) p.2 hlen (fun H3 => Ex H2 H3 ∧ Sg K Mc He H3 is ((D, .lst ((((irng 0 n.toNat).take (i + 1)).map ef).map Datum.toD)) :: ms)) (fun H2 _ _ _ q => q H2 (Ex.refl H2)) (fun _ => he) (by rw [if_pos rfl, take_snoc hx, List.map_append]; rfl) (fun H3 h4 s3 => ⟨by
        obtain ⟨H4, e4, e5⟩ := h4
        rcases e5 with e5 | ⟨o, e5⟩
        · rw [e5]; exact p.1.trans e4
        · rw [e5]; exact Ex.mut (p.1.trans e4) hD, s3⟩)
    · have z := p.2
      have et : (irng 0 n.toNat).take n.toNat = irng 0 n.toNat := List.take_of_length_le (by rw [irng_len]; exact Nat.le_refl _)
      rw [et] at z
      obtain ⟨us2, h3, h4⟩ := z.lst (k := 0) rfl
      exact q D us2 H' (fresh_back e2 hD) (e2.trans p.1) h3 h4
/-- the items with their places -/
def enumL (xs : List α) : List (Int × α) := List.zipWith (fun (i : Nat) (x : α) => ((i : Int), x)) (List.range xs.length) xs
theorem enumL_len (xs : List α) : (enumL xs).length = xs.length := by unfold enumL; rw [List.length_zipWith, List.length_range, Nat.min_self]
theorem enumL_get {xs : List α} {i : Nat} {x : α} (h : xs[i]? = some x) : (enumL xs)[i]? = some ((i : Int), x) := by
  have hi : i < xs.length := (List.getElem?_eq_some_iff.mp h).1
  unfold enumL
  rw [List.getElem?_zipWith, List.getElem?_range hi, h]
/-- [.. for i, x in enumerate(xs)] -/
theorem hf_lcE0 {vs : List Nat} (s : Sg K Mc He H is ms) {xs : List α} (ef : Int × α → β) (h : Hv K (muA ms ++ Mc) tl σ H xs) (hz : xs.length ≤ 40000)
    (hb : ∀ D src (x : Int × α) w (ys : List β) H1, Sg K Mc He H1 ((w, Datum.toD x) :: (src, Datum.toD xs) :: is) ((D, .lst (ys.map Datum.toD)) :: ms) → x ∈ enumL xs →
      ∀ Q : L2.St → Hp → Prop, (∀ σ2, wipe σ2 vs = wipe σ vs → Hv K (muA ((D, Mv.lst (ys.map Datum.toD)) :: ms) ++ Mc) te σ2 H1 (ef x) → Q σ2 H1) → g w (wipe σ vs) H1 Q) :
    HF K (muA ms ++ Mc) (tLc (iEnum K (tCons tl tNil)) g tYes te vs) σ H ((enumL xs).map ef) := fun H1 e m Q q =>
  h H1 e m _ fun v H2 e2 d => by
    obtain ⟨a, us, rfl, s1, ds⟩ := d.list
    have s1' : SqL K H2 a us := ex_l msk_le s1
    refine ⟨a, us, rfl, s1', fun D hD => ?_⟩
    have sA : Sg K Mc He H2 ((.ref a, Datum.toD xs) :: is) ms := ((s.ex e).ex e2).put d
    have sB : Sg K Mc He (upd H2 D (.lst [])) ((.ref a, Datum.toD xs) :: is) ((D, .lst (([] : List β).map Datum.toD)) :: ms) := sA.new hD ⟨[], rfl, .nil⟩
    have hlu : us.length = xs.length := ds.len
    refine lc_it (walk_enum (K := K) (a := a) (xs := us)) (fun i H' => Ex H2 H' ∧ Sg K Mc He H' ((.ref a, Datum.toD xs) :: is) ((D, .lst ((((enumL xs).take i).map ef).map Datum.toD)) :: ms)) ⟨Ex.new hD, sB⟩
      (fun i H' _ p => ex_l p.1 s1') (fun i x H' H'' hi p y => ?_) (fun H' p => ?_)
    · obtain ⟨T, x0, x1, rfl, nT, rfl, f1, f2⟩ := y
      have hix : i < xs.length := by rw [← hlu]; exact hi
      have gx : xs[i]? = some xs[i] := by simp [hix]
      have gE := enumL_get gx
      have e0 : x0 = .int (i : Int) := (Option.some.inj f1).symm
      subst e0
      have eT : Ex H' (upd H' T (.tup [.int (i : Int), x1])) := Ex.new nT
      have sT := p.2.ex eT
      have dm : Dt K (msk (D :: (muA ms ++ Mc)) (upd H' T (.tup [.int (i : Int), x1]))) x1 xs[i] := by
        have d2 : Dts K (msk (D :: (muA ms ++ Mc)) (upd H' T (.tup [.int (i : Int), x1]))) us xs := by
          have q1 : Dts K (msk (muA ms ++ Mc) H2) us xs := ds
          have q2 : Ex (msk (muA ms ++ Mc) H2) (msk (D :: (muA ms ++ Mc)) (upd H' T (.tup [.int (i : Int), x1]))) := fun b o hb' => by
            by_cases z : b ∈ muA ms ++ Mc
            · rw [msk_in z] at hb'; cases hb'
            · rw [msk_out z] at hb'
              have nb : b ≠ D := ne_of_none hb' hD
              rw [msk_out (by simp only [List.mem_cons, not_or]; exact ⟨nb, z⟩)]
              exact eT b o (p.1 b o hb')
          exact q1.mono q2
        obtain ⟨w, w1, w2⟩ := d2.at gx
        have : x1 = w := Option.some.inj (f2.symm.trans w1)
        subst this; exact w2
      have nTD : T ∉ D :: (muA ms ++ Mc) := fun z => (p.2.mok T z) nT
      have dw : Dt K (msk (D :: (muA ms ++ Mc)) (upd H' T (.tup [.int (i : Int), x1]))) (.ref T) ((i : Int), xs[i]) := Dt.ofPair (SqT.of (by rw [msk_out nTD]; exact upd_same)) (Dt.ofInt _) dm
      refine hb D (.ref a) ((i : Int), xs[i]) (.ref T) _ _ (sT.put dw) (List.mem_of_getElem? gE) _ fun σ2 hw he => ⟨hw, ?_⟩
      have hlen : (((enumL xs).take i).map ef).length < 50000 := by
        rw [List.length_map, List.length_take, enumL_len]
        omega
      exact lc_turn (ms := ms) (tt := tYes) (b := true) (zs := ((enumL xs).take (i + 1)).map ef) sT hlen (fun H3 => Ex H2 H3 ∧ Sg K Mc He H3 ((.ref a, Datum.toD xs) :: is) ((D, .lst ((((enumL xs).take (i + 1)).map ef).map Datum.toD)) :: ms)) (fun H2 _ _ _ q => q H2 (Ex.refl H2)) (fun _ => he) (by rw [if_pos rfl, take_snoc gE, List.map_append]; rfl) (fun H3 h4 s3 => ⟨by
        obtain ⟨H4, e4, e5⟩ := h4
        rcases e5 with e5 | ⟨o, e5⟩
        · rw [e5]; exact (p.1.trans eT).trans e4
        · rw [e5]; exact Ex.mut ((p.1.trans eT).trans e4) hD, s3⟩)
    · have z := p.2
      have et : (enumL xs).take us.length = enumL xs := List.take_of_length_le (by rw [enumL_len, hlu]; exact Nat.le_refl _)
      rw [et] at z
      obtain ⟨us2, h3, h4⟩ := z.lst (k := 0) rfl
      exact q D us2 H' (fresh_back e2 hD) (e2.trans p.1) h3 h4
theorem z_augSG {i : Nat} {a b : Str} (s : Sg K Mc He H is ms) (hx : σ[i]? = some (some (.str a))) (h : Hv K (muA ms ++ Mc) te σ H b) (hz : a.length + b.length ≤ 100000) (k : ∀ y, y = a ++ b → ∀ H1, Sg K Mc He H1 is ms → tz D (σ.set i (some (.str y))) H1) :
    tSeq (tAug i te (fun x y H Q => ∃ i j, x = .str i ∧ y = .str j ∧ i.length + j.length ≤ sizeLine ∧ Q (.str (i ++ j)) H)) tz D σ H :=
  ⟨.str a, hx, h H (Ex.refl H) s.mok _ fun v H1 e d => ⟨a, b, rfl, d.str, sz_of hz, k _ rfl H1 (s.ex e)⟩⟩
end
theorem str_len_app (a b : Str) : (a ++ b).length = a.length + b.length := by
  rw [TL.len_tl, TL.len_tl, TL.len_tl, TL.tl_append, List.length_append]
theorem chars_one {s x : Str} {i : Nat} (h : (chars s)[i]? = some x) : x.length = 1 := by
  unfold chars at h
  rw [List.getElem?_map] at h
  cases hc : s.cps.toList[i]? with
  | none => rw [hc] at h; cases h
  | some c =>
    rw [hc] at h
    cases h
    rfl
theorem strAt_len (s : Str) (i : Nat) : (strAt s i).length = 1 := rfl
end Ly

namespace Ly
open PySem PySem.Spec PyProof.Rows L2 Evl
open PySem.W (Datum DatumOrd Tup T3 T4 minOf)
section
variable {K : PySem.W.Frag} {Mc M : List Addr} {He H H1 H2 : Hp} {is js : Ims} {ms : Mus} {σ : L2.St} {te ta tb tl : TE} {tt : TT} {g : TG} {tlo thi : TO}
theorem inV_strs (a : Str) : ∀ xs : List Str, inV (.str a) (xs.map V.str) = decide (a ∈ xs)
  | [] => by simp [inV]
  | x :: xs => by
    have ih := inV_strs a xs
    unfold inV at ih ⊢
    rw [List.map_cons, List.any_cons, ih]
    show (x == a || _) = _
    by_cases h : x = a
    · subst h; simp
    · have h2 : ¬ a = x := fun z => h z.symm
      simp [h, h2]
theorem flat_strs : ∀ xs : List Str, (xs.map V.str).all flatV = true
  | [] => rfl
  | x :: xs => by rw [List.map_cons, List.all_cons, flat_strs xs]; rfl
theorem hv_memS {neg : Bool} {tr : TA} {a : Str} {xs : List Str} (ha : Hv K M ta σ H a) (hr : HAs K M tr σ H xs) (hl : xs.length ≤ 100000) : Hv K M (tOp (rIn K neg) ta (tTup tr)) σ H (if neg then !decide (a ∈ xs) else decide (a ∈ xs)) := fun H1 e m Q q =>
  ha H1 e m _ fun v H2 e2 d => hr H2 (e.trans e2) (m.ex e2) _ fun vs H3 e3 d' => ⟨sz_of (by rw [d'.len]; exact hl), fun p hp => by
    have e4 : Ex H3 (upd H3 p (.tup vs)) := Ex.new hp
    have hv := dts_strs d'
    refine ⟨p, vs, rfl, Or.inr (SqT.of upd_same), by rw [d.str]; rfl, by rw [hv]; exact flat_strs xs, ?_⟩
    have hb : inV v vs = decide (a ∈ xs) := by rw [d.str, hv]; exact inV_strs a xs
    rw [hb]
    exact q _ _ ((e2.trans e3).trans e4) (Dt.ofBool _)⟩
theorem hv_inTS {tr : TA} {a : Str} {xs : List Str} (ha : Hv K M ta σ H a) (hr : HAs K M tr σ H xs) (hl : xs.length ≤ 100000) : Hv K M (tOp (rIn K false) ta (tTup tr)) σ H (decide (a ∈ xs)) := hv_memS (neg := false) ha hr hl
theorem hv_niTS {tr : TA} {a : Str} {xs : List Str} (ha : Hv K M ta σ H a) (hr : HAs K M tr σ H xs) (hl : xs.length ≤ 100000) : Hv K M (tOp (rIn K true) ta (tTup tr)) σ H (!decide (a ∈ xs)) := hv_memS (neg := true) ha hr hl
end
/-! ### facts of texts -/
abbrev cps (s : Str) : List Nat := s.cps.toList
theorem len_cps (s : Str) : s.length = (cps s).length := by simp [Str.length, cps]
theorem cps_app (a b : Str) : cps (a ++ b) = cps a ++ cps b := by
  show (a ++ b).cps.toList = _
  rw [PySem.Str.cps_append, Array.toList_append]
theorem str_ext {a b : Str} (h : cps a = cps b) : a = b := by
  cases a; cases b
  congr 1
  exact Array.toList_inj.mp h
theorem cps_lower {s : Str} (h : ∀ c ∈ cps s, c < 128) : cps (Txt.lower s) = (cps s).map PyProof.Rows.lo1 := by
  rw [PyProof.Rows.lower_ascii h]
  show (Array.map _ _).toList = _
  rw [Array.toList_map]
theorem find3_cases (x y : Str) (i : Int) :
    (Txt.find3 x y i = -1 ∧ ∀ k, PySem.fromIndex x.length i ≤ k → ¬ StrLaws.At x y x.length k) ∨
    ∃ k : Nat, Txt.find3 x y i = (k : Int) ∧ PySem.fromIndex x.length i ≤ k ∧ StrLaws.At x y x.length k ∧ ∀ v, PySem.fromIndex x.length i ≤ v → v < k → ¬ StrLaws.At x y x.length v := by
  unfold Txt.find3
  rcases StrLaws.occ_head_from x y (PySem.fromIndex x.length i) 1 (Nat.le_refl 1) with ⟨h0, hn⟩ | ⟨k, r, h0, h1, h2, h3⟩
  · rw [h0]; exact .inl ⟨rfl, hn⟩
  · rw [h0]; exact .inr ⟨k, rfl, h1, h2, h3⟩
theorem from_nat (n : Nat) {i : Int} (h : 0 ≤ i) : PySem.fromIndex n i = i.toNat := by
  unfold PySem.fromIndex
  rw [if_neg (by omega)]
  omega
theorem inStr_one (c : Nat) (s : Str) : inStr ⟨#[c]⟩ s = decide (c ∈ cps s) := StrLaws.found_one s c
theorem chars_cps (s : Str) : chars s = (cps s).map fun c => ⟨#[c]⟩ := rfl
theorem mem_chars {s x : Str} {i : Nat} (h : (chars s)[i]? = some x) : ∃ c ∈ cps s, x = ⟨#[c]⟩ := by
  rw [chars_cps, List.getElem?_map] at h
  cases hc : (cps s)[i]? with
  | none => rw [hc] at h; cases h
  | some c =>
    rw [hc] at h
    exact ⟨c, List.mem_of_getElem? hc, (Option.some.inj h).symm⟩
abbrev DIG : Str := PySem.Str.ofString "0123456789"
theorem cps_dig : cps DIG = [48, 49, 50, 51, 52, 53, 54, 55, 56, 57] := by decide +kernel
theorem dig_iff (c : Nat) : inStr ⟨#[c]⟩ DIG = true ↔ 48 ≤ c ∧ c ≤ 57 := by
  rw [inStr_one, cps_dig, decide_eq_true_eq]
  simp only [List.mem_cons, List.not_mem_nil, or_false]
  omega
theorem int_dig {c : Nat} (h : 48 ≤ c ∧ c ≤ 57) : PySem.intText? ⟨#[c]⟩ = some ((c - 48 : Nat) : Int) := by
  obtain ⟨h1, h2⟩ := h
  have : c = 48 ∨ c = 49 ∨ c = 50 ∨ c = 51 ∨ c = 52 ∨ c = 53 ∨ c = 54 ∨ c = 55 ∨ c = 56 ∨ c = 57 := by omega
  rcases this with h | h | h | h | h | h | h | h | h | h <;> (subst h; decide +kernel)
theorem int_sign {s x : Str} {i : Nat} (h : (chars s)[i]? = some x) (hd : inStr x DIG = true) : PySem.intText? x = some ((PySem.intText? x).getD 0) := by
  obtain ⟨c, _, rfl⟩ := mem_chars h
  rw [int_dig ((dig_iff c).mp hd)]
  rfl
theorem sum_le {α : Type} (f : α → Str) (n : Nat) (h : ∀ x, (f x).length ≤ n) : ∀ xs : List α, ((xs.map f).map (·.length)).sum ≤ n * xs.length
  | [] => by simp
  | x :: xs => by
    have := sum_le f n h xs
    have := h x
    rw [List.map_cons, List.map_cons, List.sum_cons, List.length_cons, Nat.mul_add]
    omega
theorem getD_P {α : Type} {P : α → Prop} {xs : List α} {d : α} (h : ∀ x ∈ xs, P x) (hd : P d) (i : Nat) : P (xs.getD i d) := by
  rw [List.getD_eq_getElem?_getD]
  cases hx : xs[i]? with
  | none => exact hd
  | some x => exact h x (List.mem_of_getElem? hx)
theorem next_find (d c : Str) {s : Int} (h0 : 0 ≤ s) : Txt.find3 d c (s + 1) < 0 ∨ (s < Txt.find3 d c (s + 1) ∧ Txt.find3 d c (s + 1) ≤ (d.length : Int)) := by
  rcases find3_cases d c (s + 1) with ⟨h, _⟩ | ⟨k, h, h1, h2, _⟩
  · left; omega
  · right
    rw [from_nat _ (by omega)] at h1
    have := h2.1
    omega
theorem loopW_inv {S : Type} {c : S → Bool} {f : S → S} (I : S → Prop) (hs : ∀ s, I s → c s = true → I (f s)) : ∀ (n : Nat) (s : S), I s → I (loopW c f n s)
  | 0, s, h => h
  | n + 1, s, h => by
    rw [loopW]
    split
    · rename_i hc
      exact loopW_inv I hs n _ (hs s h hc)
    · exact h
theorem foldl_inv {S α : Type} {f : S → α → S} (I : S → Prop) : ∀ (l : List α) (s : S), (∀ s x, x ∈ l → I s → I (f s x)) → I s → I (l.foldl f s)
  | [], s, _, h => h
  | x :: l, s, hs, h => by
    rw [List.foldl_cons]
    exact foldl_inv I l _ (fun s y hy => hs s y (List.mem_cons_of_mem _ hy)) (hs s x List.mem_cons_self h)
end Ly

namespace Ly
open PySem PySem.Spec PyProof.Rows L2 Evl
/-! ### facts of loops and of places in texts -/
/-- what lies from lo on, n places long -/
def gl {β : Type} (occ : Nat → Bool) (blk : Nat → List β) : Nat → Nat → List β
  | _, 0 => []
  | lo, n + 1 => (if occ lo = true then blk lo else []) ++ gl occ blk (lo + 1) n
theorem gl_skip {β : Type} {occ : Nat → Bool} {blk : Nat → List β} : ∀ (j lo r : Nat), (∀ v, lo ≤ v → v < lo + j → occ v = false) → gl occ blk lo (j + r) = gl occ blk (lo + j) r
  | 0, lo, r, _ => by rw [Nat.zero_add, Nat.add_zero]
  | j + 1, lo, r, h => by
    rw [show j + 1 + r = (j + r) + 1 by omega, gl, h lo (by omega) (by omega), if_neg Bool.false_ne_true, List.nil_append, gl_skip j (lo + 1) r fun v h1 h2 => h v (by omega) (by omega)]
    rw [show lo + 1 + j = lo + (j + 1) by omega]
theorem gl_none {β : Type} {occ : Nat → Bool} {blk : Nat → List β} : ∀ (j lo : Nat), (∀ v, lo ≤ v → v < lo + j → occ v = false) → gl occ blk lo j = []
  | 0, lo, _ => rfl
  | j + 1, lo, h => by
    rw [gl, h lo (by omega) (by omega), if_neg Bool.false_ne_true, List.nil_append]
    exact gl_none j (lo + 1) fun v h1 h2 => h v (by omega) (by omega)
theorem gl_mem {β : Type} {occ : Nat → Bool} {blk : Nat → List β} {x : β} : ∀ (n lo : Nat), x ∈ gl occ blk lo n → ∃ k, lo ≤ k ∧ k < lo + n ∧ occ k = true ∧ x ∈ blk k
  | 0, lo, h => by cases h
  | n + 1, lo, h => by
    rw [gl, List.mem_append] at h
    rcases h with h | h
    · cases ho : occ lo with
      | true => rw [ho, if_pos rfl] at h; exact ⟨lo, by omega, by omega, ho, h⟩
      | false => rw [ho, if_neg Bool.false_ne_true] at h; cases h
    · obtain ⟨k, h1, h2, h3⟩ := gl_mem n (lo + 1) h
      exact ⟨k, by omega, by omega, h3⟩
theorem gl_split {β : Type} {occ : Nat → Bool} {blk : Nat → List β} : ∀ (a b lo : Nat), gl occ blk lo (a + b) = gl occ blk lo a ++ gl occ blk (lo + a) b
  | 0, b, lo => by rw [Nat.zero_add]; rfl
  | a + 1, b, lo => by
    rw [show a + 1 + b = (a + b) + 1 by omega, gl, gl, gl_split a b (lo + 1), List.append_assoc, show lo + 1 + a = lo + (a + 1) by omega]
/-- turns over the places, and turns over what lies there -/
theorem foldl_gl {S β : Type} {occ : Nat → Bool} {blk : Nat → List β} {f : S → β → S} {g : S → Int → S} : ∀ (n lo : Nat) (s : S), (∀ v s, lo ≤ v → v < lo + n → g s (v : Int) = if occ v = true then (blk v).foldl f s else s) → (gl occ blk lo n).foldl f s = loopN g n (lo : Int) s
  | 0, lo, s, _ => rfl
  | n + 1, lo, s, h => by
    rw [gl, List.foldl_append, loopN, h lo s (by omega) (by omega)]
    have ih := fun s' => foldl_gl (occ := occ) (blk := blk) (f := f) (g := g) n (lo + 1) s' fun v s h1 h2 => h v s (by omega) (by omega)
    have e : ((lo : Int) + 1) = ((lo + 1 : Nat) : Int) := by omega
    rw [e]
    cases ho : occ lo with
    | true => rw [if_pos rfl, if_pos rfl]; exact ih _
    | false => rw [if_neg Bool.false_ne_true, if_neg Bool.false_ne_true]; exact ih _
/-- turns over places with the item there, and turns over the list told with its places -/
theorem loopN_enum {S α : Type} [DecidableEq α] [PySem.W.Datum α] {g : S → Int → α → S} {d : α} {xs : List α} : ∀ (k i : Nat) (s : S), i + k = xs.length → loopN (fun s x => g s x (xs.getD (Int.toNat x) d)) k (i : Int) s = ((enumL xs).drop i).foldl (fun s p => g s p.1 p.2) s
  | 0, i, s, h => by
    rw [List.drop_eq_nil_of_le (by rw [enumL_len]; omega)]
    rfl
  | k + 1, i, s, h => by
    have hi : i < xs.length := by omega
    have gx : xs[i]? = some xs[i] := by simp [hi]
    have gE := enumL_get gx
    obtain ⟨hi2, ge⟩ := List.getElem?_eq_some_iff.mp gE
    rw [List.drop_eq_getElem_cons hi2, ge, List.foldl_cons, loopN]
    have e : ((i : Int) + 1) = ((i + 1 : Nat) : Int) := by omega
    rw [e, loopN_enum k (i + 1) _ (by omega)]
    have e2 : xs.getD (Int.toNat (i : Int)) d = xs[i] := by
      rw [Int.toNat_natCast, List.getD_eq_getElem?_getD, gx]
      rfl
    rw [e2]
theorem enumL_mem {α : Type} [DecidableEq α] [PySem.W.Datum α] {xs : List α} {p : Int × α} (h : p ∈ enumL xs) : 0 ≤ p.1 ∧ p.1 < (xs.length : Int) ∧ p.2 ∈ xs := by
  obtain ⟨i, hi, rfl⟩ := List.getElem_of_mem h
  have hx : i < xs.length := by rw [enumL_len] at hi; exact hi
  have gx : xs[i]? = some xs[i] := by simp [hx]
  have gE := enumL_get gx
  obtain ⟨_, ge⟩ := List.getElem?_eq_some_iff.mp gE
  rw [ge]
  exact ⟨by show (0 : Int) ≤ (i : Int); omega, by show (i : Int) < _; omega, List.getElem_mem hx⟩
/-- c lies in d at k -/
def occ (d c : Str) (k : Nat) : Bool := decide (k + c.length ≤ d.length) && Builtin.Str.subAt d c k
theorem occ_iff (d c : Str) (k : Nat) : occ d c k = true ↔ StrLaws.At d c d.length k := by
  unfold occ StrLaws.At
  rw [Bool.and_eq_true, decide_eq_true_eq]
theorem occ_no {d c : Str} {k : Nat} (h : ¬ StrLaws.At d c d.length k) : occ d c k = false := by
  cases e : occ d c k with
  | false => rfl
  | true => exact absurd ((occ_iff d c k).mp e) h
theorem find_zero (d c : Str) : Txt.find d c = Txt.find3 d c ((0 : Nat) : Int) := by
  unfold Txt.find Txt.find3
  rw [from_nat _ (by omega)]
  rfl
/-- the places, found one after another -/
theorem loopW_occ {β : Type} {d c : Str} {blk : Nat → List β} {f : List β × Int → List β × Int} (hf : ∀ l (k : Nat), f (l, (k : Int)) = (l ++ blk k, Txt.find3 d c ((k : Int) + 1))) :
    ∀ (fuel lo : Nat) (l : List β), lo ≤ d.length + 1 → d.length + 1 - lo < fuel →
      (loopW (fun (s_ : List β × Int) => decide ((0 : Int) ≤ s_.2)) f fuel (l, Txt.find3 d c (lo : Int))).1 = l ++ gl (occ d c) blk lo (d.length + 1 - lo)
  | 0, lo, l, _, h => by omega
  | fuel + 1, lo, l, h1, h2 => by
    rw [loopW]
    rcases find3_cases d c (lo : Int) with ⟨h, hn⟩ | ⟨k, h, hk, hat, hn⟩
    · rw [from_nat _ (by omega), Int.toNat_natCast] at hn
      rw [h, if_neg (show ¬ decide ((0 : Int) ≤ -1) = true by decide)]
      rw [gl_none _ _ fun v h1 h2 => occ_no (hn v h1), List.append_nil]
    · rw [from_nat _ (by omega), Int.toNat_natCast] at hk hn
      have hle := hat.1
      rw [h, if_pos (by show decide ((0 : Int) ≤ (k : Int)) = true; rw [decide_eq_true_eq]; omega), hf, show ((k : Int) + 1) = ((k + 1 : Nat) : Int) by omega, loopW_occ hf fuel (k + 1) _ (by omega) (by omega), List.append_assoc]
      congr 1
      rw [show d.length + 1 - lo = (k - lo) + (d.length + 1 - k) by omega, gl_skip (k - lo) lo _ fun v h1 h2 => occ_no (hn v h1 (by omega))]
      rw [show lo + (k - lo) = k by omega, show d.length + 1 - k = (d.length + 1 - (k + 1)) + 1 by omega, gl, if_pos ((occ_iff d c k).mpr hat)]
theorem cut_occ {d c : Str} {k : Nat} (h : k + c.length ≤ d.length) : decide (cutS d (some (k : Int)) (some ((k : Int) + ((c.length : Nat) : Int))) = c) = occ d c k := by
  have e1 : HT.sIx d.length 0 (some (k : Int)) = k := by rw [HT.sIx_nat]; omega
  have e2 : HT.sIx d.length d.length (some ((k : Int) + ((c.length : Nat) : Int))) = k + c.length := by
    rw [show ((k : Int) + ((c.length : Nat) : Int)) = ((k + c.length : Nat) : Int) by omega, HT.sIx_nat]; omega
  unfold occ
  rw [decide_eq_true h, Bool.true_and, StrLaws.subAt_eq]
  unfold cutS
  rw [e1, e2, show k + c.length - k = c.length by omega]
  by_cases q : (d.cps.toList.drop k).take c.length = c.cps.toList
  · rw [q, beq_self_eq_true, decide_eq_true_eq]
  · have q2 : ((d.cps.toList.drop k).take c.length == c.cps.toList) = false := beq_eq_false_iff_ne.mpr q
    rw [q2, decide_eq_false]
    intro z
    apply q
    have := congrArg (fun (s : Str) => s.cps.toList) z
    simpa using this
theorem loopNR_all {ρ S : Type} {f : S → Int → Lp ρ S} (h : ∀ s k, f s k = .nxt s) : ∀ (n : Nat) (k : Int) (s : S), loopNR f n k s = .inr s
  | 0, _, _ => rfl
  | n + 1, k, s => by rw [loopNR, h]; exact loopNR_all h n (k + 1) s
theorem set_same {xs : List Int} {i : Nat} {v : Int} (h : xs.getD i 0 = v) : xs.set i v = xs := by
  rw [List.getD_eq_getElem?_getD] at h
  cases hx : xs[i]? with
  | none => exact List.set_eq_of_length_le (List.getElem?_eq_none_iff.mp hx)
  | some x =>
    rw [hx] at h
    obtain ⟨hi, hg⟩ := List.getElem?_eq_some_iff.mp hx
    subst h
    rw [← hg]
    exact List.set_getElem_self hi
theorem getD_nonneg {xs : List Int} (h : ∀ x ∈ xs, (0 : Int) ≤ x) (i : Nat) : 0 ≤ xs.getD i 0 := getD_P (P := fun x => (0 : Int) ≤ x) h (Int.le_refl 0) i
theorem cutL_in {α : Type} {xs : List α} {a b : Nat} : cutL xs (some (a : Int)) (some (b : Int)) = (xs.drop (min a xs.length)).take (min b xs.length - min a xs.length) := by
  unfold cutL
  rw [HT.sIx_nat, HT.sIx_nat]
theorem zeros_eq (n : Nat) : (List.replicate n [(0 : Int)]).flatten = (irng 0 n).map (fun _ => (0 : Int)) := by
  have h1 : ∀ k : Nat, (List.replicate k [(0 : Int)]).flatten = List.replicate k 0 := fun k => by
    induction k with
    | zero => rfl
    | succ k ih => rw [List.replicate_succ, List.flatten_cons, ih]; rfl
  rw [h1]
  symm
  rw [List.eq_replicate_iff]
  exact ⟨by rw [List.length_map, irng_len], fun b hb => by obtain ⟨_, _, rfl⟩ := List.mem_map.mp hb; rfl⟩
end Ly

namespace Ly
open PySem PySem.Spec PyProof.Rows L2 Evl CwR
open PySem.W (Datum DatumOrd Tup T3 T4 minOf)
/-! ### where a token is out: tests, a turn's body, the loop -/
def PTT (X : Cx) (c : Expr) (t : TT) : Prop :=
  ∀ (pins : List (Addr × Obj)) (s : Shared) (σ : L2.St) (H : Hp) (Q : Bool → Hp → Prop), 1 ≤ s.toks → Inv X pins σ H s → t σ H Q → wpAny (model X.prog X.w) X.A (isTrue c X.env (eval c X.env)) (TP X pins σ Q) X.xe s
def PWT (X : Cx) (c : Expr) (t : TT) : Prop :=
  ∀ (wh : Sem Value) (pins : List (Addr × Obj)) (s : Shared) (σ : L2.St) (H : Hp) (Q : Bool → Hp → Prop), 1 ≤ s.toks → Inv X pins σ H s → t σ H Q → wpAny (model X.prog X.w) X.A (isTrue c X.env wh) (TP X pins σ Q) X.xe s
section
variable {X : Cx} {a b c o : Expr} {rest : List Expr} {pos apos : Pos} {ta tb to : TE} {tA tB : TT}
theorem PTT.of (h : PT X c tA) : PTT X c tA := fun pins s σ H Q _ I q => h.run pins s σ H Q I q
theorem PWT.ptt (h : PWT X c tA) : PTT X c tA := fun pins s σ H Q h0 I q => h _ pins s σ H Q h0 I q
theorem ptt_cmp {op : CmpOp} {r : R2} (ho : OpR X (compareOp op) r) (ha : PET X a ta) (hb : PE X b tb) (hm : behindInMarks op b = false) : PTT X (.Compare a [op] [b] pos) (tTest (tOp r ta tb)) := fun pins s σ H Q h0 I h =>
  wpAny_isTrue_Compare1 (thn (ha pins s σ H _ h0 I h) fun v s1 ⟨x, H1, I1, r1, q1⟩ => thn (hb.run pins s1 σ H1 _ I1 q1) fun u s2 ⟨y, H2, I2, r2, q2⟩ =>
    thn (ho pins s2 σ H2 x y v u _ I2 r1 r2 q2) fun d s3 ⟨z, H3, I3, r3, k, e, q3⟩ => by
      subst e
      cases r3
      exact wpAny_truthy_bool ⟨H3, I3, q3⟩) hm
theorem pwt_and1 (ha : PTT X a tA) : PWT X (.BoolOp .And [a] pos) tA := fun wh pins s σ H Q h0 I h =>
  isTrue_and (thn (ha pins s σ H Q h0 I h) fun d s1 e => by
    cases d with
    | true => exact isTrue_and_nil e
    | false => exact e)
theorem pwt_and (ha : PTT X a tA) (hb : PWT X (.BoolOp .And (b :: rest) pos) tB) : PWT X (.BoolOp .And (a :: b :: rest) pos) (tAnd tA tB) := fun wh pins s σ H Q h0 I h =>
  isTrue_and (wpAny_mono (PySem.wpAny_toks (ha pins s σ H _ h0 I h)) (fun d s1 q => by
    obtain ⟨hk, H1, I1, q1⟩ := q
    cases d with
    | true => exact hb wh pins s1 σ H1 Q (Nat.le_trans h0 hk) I1 q1
    | false => exact ⟨H1, I1, q1⟩) fun _ _ z => z.2)
theorem pet_m0 {id : String} {name : Str} {r : V → List V → Hp → VK → Prop} (slot : Slot "str" name id) (ty : typeOf (.builtin id) = pure (.type "method_descriptor")) (rule : MtR X id r) (ho : PET X o to)
    (hbase : attributeBase o name X.env (eval o X.env) = eval o X.env := by rfl) (hline : (apos.endLine == pos.line) = true := by rfl) : PET X (.Call (.Attribute o name apos) [] [] pos) (tM0 r to) := fun pins s σ H Q h0 I h =>
  PySem.Call_method0 hbase hline (thn (ho pins s σ H _ h0 I h) fun v s1 ⟨x, H1, I1, r1, q⟩ => by
    obtain ⟨⟨z, rfl⟩, q1⟩ := q
    obtain ⟨t, rfl⟩ := _root_.id r1
    exact ⟨"str", _, PySem.F.plainAttrs_str, slot, ty, typeIs_str _ _ _, (fun _ e => nomatch e), Calls.callWith_builtin rfl (PySem.evalArgs_none (rule pins s1 σ H1 _ [] _ [] Q I1 r1 .nil q1))⟩)
theorem pet_lower (ho : PET X o to) (hbase : attributeBase o "lower" X.env (eval o X.env) = eval o X.env := by rfl) (hline : (apos.endLine == pos.line) = true := by rfl) :
    PET X (.Call (.Attribute o "lower" apos) [] [] pos) (tM0 (fun x xs H Q => ∃ a, x = .str a ∧ xs = [] ∧ a.length ≤ 5592405 ∧ Q (.str (Txt.lower a)) H) to) :=
  pet_m0 PySem.F.slot_str_lower PySem.F.type_str_lower mt_lower ho hbase hline
theorem pst_ifT {x y : List Stmt} {tc : TT} {t u : TS} (hc : PTT X c tc) (hx : PSsT X x t) (hy : PSsT X y u) : PST X (.If c x y pos) (tIfS tc t u) := fun pins s σ H D h0 I h =>
  wpAny_If (wpAny_mono (PySem.wpAny_toks (hc pins s σ H _ h0 I h)) (fun d s1 q => by
    obtain ⟨hk, H1, I1, q1⟩ := q
    cases d with
    | true => exact hx pins s1 σ H1 D (Nat.le_trans h0 hk) I1 q1
    | false => exact hy pins s1 σ H1 D (Nat.le_trans h0 hk) I1 q1) fun _ _ z => z.2)
/-- for: a token that is out stays out through the turns -/
theorem pst_forT {tg iter : Expr} {body : List Stmt} {wi : TI} {g : TG} {tb : TS} (hp : PassesOwn (model X.prog X.w) X.A X.env X.xe) (hc : X.calm = true) (hi : PI X tg iter wi) (hg : PG X tg g) (hb : PSsT X body tb)
    (hs : ∀ x, foldedSetIterable iter X.env x = pure x := by intro _; rfl) : PST X (.For tg iter body [] pos) (tFor wi g tb) := by
  intro pins s σ H D h0 I h
  have grow : ∀ {α : Type} {t : Sem α} {Q : α → Shared → Prop} {E : Value → Shared → Prop} {z : Shared}, 1 ≤ z.toks → wpAny (model X.prog X.w) X.A t Q E z → wpAny (model X.prog X.w) X.A t (fun r z' => 1 ≤ z'.toks ∧ Q r z') E z := fun hz w =>
    wpAny_mono (PySem.wpAny_toks_of hz w) (fun _ _ q => q) fun _ _ q => q.2
  refine wpAny_For (wpAny_mono (grow h0 (hi.run pins s σ H _ I h)) (fun v s1 h1 => wpAny_mono (grow h1.1 h1.2) (fun itv s2 h2 => ?_) fun _ _ q => q) fun _ _ q => q) hs
  obtain ⟨k2, it, fp, tn, J, H2, e, I2, T, st2, f2, W, ⟨m0, w0⟩, turn⟩ := h2
  subst e
  have own : ∀ {H' : Hp}, (∀ b ∈ fp, H' b = none) → ∀ b ∈ fp, FpOk X pins H' b := fun hn b hb => ⟨hn b hb, (f2 b hb).2⟩
  refine codeAny_forLoop_any (fun n s' => 1 ≤ s'.toks ∧ ∃ i σ' H', Inv X pins σ' H' s' ∧ tn i s'.heap ∧ (∀ b ∈ fp, H' b = none) ∧ W i n σ' H') ?_ m0 ⟨k2, 0, σ, H2, I2, st2, fun b hb => (f2 b hb).1, w0⟩
  rintro n s3 ⟨k3, i, σ3, H3, I3, st3, fr3, w3⟩
  rcases turn i n σ3 H3 w3 with ⟨stop, qn⟩ | ⟨go, N, hN, step⟩
  · refine wpAny_passesOwn hp (thn (T.done X rfl rfl rfl hc i pins s3 σ3 H3 X.xe I3 (own fr3) st3 stop) fun r s4 ⟨hr, I4⟩ => ?_)
    subst hr
    exact wpAny_execs_nil ⟨σ3, H3, I4, qn⟩
  · refine wpAny_passesOwn hp (thn (grow k3 (T.item X rfl rfl rfl hc i pins s3 σ3 H3 X.xe I3 (own fr3) st3 go)) fun r s4 ⟨k4, u, hr, h4⟩ => ?_)
    subst hr
    refine wpAny_passesOwn hp (thn (grow k4 h4) fun _ s5 ⟨k5, x, H5, I5, r5, y5, st5, fr5⟩ => ?_)
    have I5' := I5.pinned (own fr5) (T.obj _ _ st5)
    refine wpAny_passesOwn hp (thn (grow k5 (hg.run _ s5 σ3 H5 x u _ I5' r5 (step x H5 y5))) fun _ s6 ⟨k6, σ6, H6, I6, q6⟩ => ?_)
    refine wpAny_passesOwn hp (thn (grow k6 (hb _ s6 σ6 H6 _ k6 I6 q6)) fun f s7 ⟨k7, q7⟩ => ?_)
    have next : ∀ {σ7 : L2.St} {H7 : Hp}, Inv X (pins ++ pinsAt fp s5.heap) σ7 H7 s7 → N σ7 H7 → ∃ m, m < n ∧ 1 ≤ s7.toks ∧ ∃ i σ' H', Inv X pins σ' H' s7 ∧ tn i s7.heap ∧ (∀ b ∈ fp, H' b = none) ∧ W i m σ' H' := fun {σ7 H7} I7 n7 => by
      obtain ⟨m', hm, w7⟩ := hN σ7 H7 n7
      have at7 := fun b (hb : b ∈ fp) o e => I7.pin (b, o) (List.mem_append_right _ (List.mem_append_right _ (mem_pinsAt hb e)))
      refine ⟨m', hm, k7, i + 1, σ7, H7, I7.unpinned, T.keep _ _ _ st5 fun b hb o e => (at7 b hb o e).1, fun b hb => ?_, w7⟩
      obtain ⟨o, e, d⟩ := T.obj _ _ st5 b hb
      exact (at7 b hb o e).2.1
    cases f with
    | next => obtain ⟨σ7, H7, I7, n7⟩ := q7; exact next I7 n7
    | cont => obtain ⟨σ7, H7, I7, n7⟩ := q7; exact next I7 n7
    | brk => obtain ⟨σ7, H7, I7, q7⟩ := q7; exact ⟨σ7, H7, I7.unpinned, q7⟩
    | ret v => obtain ⟨x7, σ7, H7, I7, r7, q7⟩ := q7; exact ⟨x7, σ7, H7, I7.unpinned, r7, q7⟩
/-- x = text.lower(): behind it a token is out -/
theorem pss_lowT {i : Nat} {x : Str} {rs : List Stmt} {u : TS} {pos' p : Pos} (hN : X.N.Nodup) (hi : X.N[i]? = some x) (hx : Loc X.env.scope x) (ho : PE X o to) (h2 : PSsT X rs u)
    (hbase : attributeBase o "lower" X.env (eval o X.env) = eval o X.env := by rfl) (hline : (apos.endLine == p.line) = true := by rfl)
    (hs : swapsWith (.Call (.Attribute o "lower" apos) [] [] p) (some (.Name x pos')) pos.line X.env = pure false := by rfl) (hf : X.fn x = true ∨ X.env.scope.names.lookup x = some .local := by first | exact .inl rfl | exact .inr rfl | assumption) :
    PSs X (.Assign [.Name x pos'] (.Call (.Attribute o "lower" apos) [] [] p) pos :: rs) (tSeq (tAsg (tM0 (fun x xs H Q => ∃ a, x = .str a ∧ xs = [] ∧ a.length ≤ 5592405 ∧ Q (.str (Txt.lower a)) H) to) (gName i)) u) := by
  refine ⟨fun pins s σ H D I h => ?_⟩
  refine wpAny_execs_cons (wpAny_Assign_Name ?_ hs)
  refine PySem.Call_method0 hbase hline (thn (ho.run pins s σ H _ I h) fun v s1 ⟨y, H1, I1, r1, q⟩ => ?_)
  obtain ⟨⟨z, rfl⟩, z2, e, _, hz, q2⟩ := q
  cases e
  obtain ⟨t, rfl⟩ := _root_.id r1
  refine ⟨"str", _, PySem.F.plainAttrs_str, PySem.F.slot_str_lower, PySem.F.type_str_lower, typeIs_str _ _ _, (fun _ e => nomatch e), Calls.callWith_builtin rfl (PySem.evalArgs_none (PySem.SC.lower (PyProof.Rows.short24 (by have := PyProof.Rows.len_lower z; omega)) ?_))⟩
  refine wpAny_mono (PySem.wpAny_toks (store_ok (v := V.str (Txt.lower z)) (u := Value.str (Txt.lower z) s1.toks) (Q := fun _ s2 => Inv X pins (σ.set i (some (V.str (Txt.lower z)))) H1 s2) (I1.tok (s1.toks + 1)) hN hi hx ⟨s1.toks, rfl⟩ (fun _ I2 => I2) hf)) (fun _ s2 q => ?_) fun _ _ z => z.2
  have hk : s1.toks + 1 ≤ s2.toks := q.1
  exact h2 pins s2 _ H1 D (by omega) q.2 q2
end
theorem noxT {X : Cx} {st : List Stmt} {t : TS} (h : PSsT X.nox st t) : PSsT X st t := fun pins s σ H D h0 I hw =>
  wpAny_mono (h pins s σ H D h0 (I.wish _) hw) (fun _ _ q => q.unwish) fun _ _ z => False.elim z
/-- a def whose parameters give out a token -/
theorem okT {P : Program} {w : World} {K : PySem.W.Frag} {mg : Str → Option Value} {base : Heap} {x qual : Str} {st : Stmt} {f : Addr} {fd : FuncData} {N ps : List Str} {k : Nat} {sp : Sp} (F : Fun K x qual st f fd) (S : FnScope N ps (defScope st))
    (hnc : ∀ y ∈ (defScope st).names, y.2 ≠ .cell) (hps : 1 ≤ ps.length) (len : ∀ vs H Q E, sp vs H Q E → vs.length = ps.length)
    (hbody : ∀ (cdv : Value) (A : Around) (outer : List Env) (s : Shared) (H : Hp) (vs : List V) (Q : VK) (E : XK), Room k (A.deeper (envOfC qual (defScope st) s.heap.objs.size f cdv)) → sp vs H Q E →
      ∃ t, PSsT (cxOf CX0 P w K mg base N qual (defScope st) f cdv A outer s H E).nox (defBody st) t ∧ t { nx := fun _ H' => Q .non H', rt := Q } (start N vs) H) : FnOk P w K mg base CX0 (k + 1) f fd ps sp := by
  obtain ⟨oc, od, kV, doc, pm, an, cdv, ct, osl, rfl, lk, hcd⟩ := F.ex
  refine fn_ofT lk hcd S hnc hps len fun A outer s H vs Q E hr hsp => ?_
  obtain ⟨t, h, q⟩ := hbody cdv A outer s H vs Q E hr hsp
  exact ⟨t, noxT h, q⟩
section
variable {K : PySem.W.Frag} {Mc M : List Addr} {He H H1 H2 : Hp} {is js : Ims} {ms : Mus} {σ : L2.St} {te ta tb tl : TE} {tt : TT} {g : TG} {tlo thi : TO}
variable {α β : Type} [DecidableEq α] [Datum α] [DecidableEq β] [Datum β]
theorem hv_replC {a y z : Str} (ha : Hv K M ta σ H a) (hz : a.length + (a.length + 1) * z.length ≤ 100000) : Hv K M (tReplC ta y z) σ H (Txt.replace a y z) := fun H1 e m Q q =>
  ha H1 e m _ fun v H2 e2 d => ⟨a, d.str, by omega, q _ H2 e2 (Dt.ofStr _)⟩
/-- an integer in a list of integers -/
theorem inV_ints (a : Int) : ∀ xs : List Int, inV (.int a) (xs.map V.int) = decide (a ∈ xs)
  | [] => by simp [inV]
  | x :: xs => by
    have ih := inV_ints a xs
    unfold inV at ih ⊢
    rw [List.map_cons, List.any_cons, ih]
    show (x == a || _) = _
    by_cases h : x = a
    · subst h; simp
    · have h2 : ¬ a = x := fun z => h z.symm
      simp [h, h2]
theorem flat_ints : ∀ xs : List Int, (xs.map V.int).all flatV = true
  | [] => rfl
  | x :: xs => by rw [List.map_cons, List.all_cons, flat_ints xs]; rfl
theorem ints_of {H : Hp} : ∀ {vs : List V} {xs : List Int}, Dts K H vs xs → vs = xs.map V.int
  | [], [], _ => rfl
  | [], _ :: _, h => by cases h
  | _ :: _, [], h => by cases h
  | v :: vs, x :: xs, h => by
    cases h with
    | cons a b =>
      rw [List.map_cons, Dt.int (H := H) (K := K) (v := v) (i := x) a, ints_of (vs := vs) (xs := xs) b]
theorem hv_inLI {a : Int} {xs : List Int} (ha : Hv K M ta σ H a) (hb : HS K M tb σ H xs) : Hv K M (tOp (rIn K false) ta tb) σ H (decide (a ∈ xs)) := fun H1 e m Q q =>
  ha H1 e m _ fun v H2 e2 d => hb H2 (e.trans e2) (m.ex e2) _ fun p vs H3 e3 s ds => by
    have hv := ints_of ds
    refine ⟨p, vs, rfl, Or.inl s, by rw [d.int]; rfl, by rw [hv]; exact flat_ints xs, ?_⟩
    have hb : inV v vs = decide (a ∈ xs) := by rw [d.int, hv]; exact inV_ints a xs
    rw [hb]
    exact q _ _ (e2.trans e3) (Dt.ofBool _)
/-- [.. for i in range(a, b) if ..] -/
theorem hv_lcR2 {vs : List Nat} (s : Sg K Mc He H is ms) {a n : Int} (f : Int → Bool) (ef : Int → β) (h0 : Hv K (muA ms ++ Mc) ta σ H a) (h : Hv K (muA ms ++ Mc) tb σ H n) (hz : -100000 ≤ a ∧ a ≤ 100000 ∧ -100000 ≤ n ∧ n ≤ 40000 ∧ n - a ≤ 40000)
    (hb : ∀ D (x : Int) (ys : List β) H1, Sg K Mc He H1 is ((D, .lst (ys.map Datum.toD)) :: ms) → a ≤ x ∧ x < n →
      ∀ Q : L2.St → Hp → Prop, (∀ σ2, wipe σ2 vs = wipe σ vs → HT (muA ((D, Mv.lst (ys.map Datum.toD)) :: ms) ++ Mc) tt σ2 H1 (f x) → (f x = true → Hv K (muA ((D, Mv.lst (ys.map Datum.toD)) :: ms) ++ Mc) te σ2 H1 (ef x)) → Q σ2 H1) → g (.int x) (wipe σ vs) H1 Q) :
    Hv K (muA ms ++ Mc) (tLc (iRng2 (tCons ta (tCons tb tNil))) g tt te vs) σ H (((irng a (n - a).toNat).filter f).map ef) := fun H1 e m Q q =>
  h0 H1 e m _ fun v0 H0 e0 d0 => h H0 (e.trans e0) (m.ex e0) _ fun v H2 e2 d => by
    refine ⟨a, n, by rw [d0.int, d.int], by omega, fun D hD => ?_⟩
    have sA : Sg K Mc He H2 is ms := ((s.ex e).ex e0).ex e2
    have sB : Sg K Mc He (upd H2 D (.lst [])) is ((D, .lst (([] : List β).map Datum.toD)) :: ms) := sA.new hD ⟨[], rfl, .nil⟩
    refine lc_range (lo := a) (n := (n - a).toNat) (fun i H' => Ex H2 H' ∧ Sg K Mc He H' is ((D, .lst (((((irng a (n - a).toNat).take i).filter f).map ef).map Datum.toD)) :: ms)) ⟨Ex.new hD, sB⟩
      (fun i H' hi p => ?_) (fun H' p => ?_)
    · have hx : (irng a (n - a).toNat)[i]? = some (a + (i : Int)) := irng_get hi
      refine hb D (a + (i : Int)) _ H' p.2 ⟨by omega, by omega⟩ _ fun σ2 hw ht he => ⟨hw, ?_⟩
      have hlen : ((((irng a (n - a).toNat).take i).filter f).map ef).length < 50000 := by
        rw [List.length_map]
        have := List.length_filter_le f ((irng a (n - a).toNat).take i)
        rw [List.length_take, irng_len] at this
        omega
      exact lc_turn (ms := ms) (zs := (((irng a (n - a).toNat).take (i + 1)).filter f).map ef) p.2 hlen (fun H3 => Ex H2 H3 ∧ Sg K Mc He H3 is ((D, .lst (((((irng a (n - a).toNat).take (i + 1)).filter f).map ef).map Datum.toD)) :: ms)) ht he (filter_snoc hx) (fun H3 h4 s3 => ⟨by
        obtain ⟨H4, e4, e5⟩ := h4
        rcases e5 with e5 | ⟨o, e5⟩
        · rw [e5]; exact p.1.trans e4
        · rw [e5]; exact Ex.mut (p.1.trans e4) hD, s3⟩)
    · have z := p.2
      have et : (irng a (n - a).toNat).take (n - a).toNat = irng a (n - a).toNat := List.take_of_length_le (by rw [irng_len]; exact Nat.le_refl _)
      rw [et] at z
      exact q _ H' ((e0.trans e2).trans p.1) (z.frz).im.1
theorem hv_lcR20 {vs : List Nat} (s : Sg K Mc He H is ms) {a n : Int} (ef : Int → β) (h0 : Hv K (muA ms ++ Mc) ta σ H a) (h : Hv K (muA ms ++ Mc) tb σ H n) (hz : -100000 ≤ a ∧ a ≤ 100000 ∧ -100000 ≤ n ∧ n ≤ 40000 ∧ n - a ≤ 40000)
    (hb : ∀ D (x : Int) (ys : List β) H1, Sg K Mc He H1 is ((D, .lst (ys.map Datum.toD)) :: ms) → a ≤ x ∧ x < n →
      ∀ Q : L2.St → Hp → Prop, (∀ σ2, wipe σ2 vs = wipe σ vs → Hv K (muA ((D, Mv.lst (ys.map Datum.toD)) :: ms) ++ Mc) te σ2 H1 (ef x) → Q σ2 H1) → g (.int x) (wipe σ vs) H1 Q) :
    Hv K (muA ms ++ Mc) (tLc (iRng2 (tCons ta (tCons tb tNil))) g tYes te vs) σ H ((irng a (n - a).toNat).map ef) := by
  have key := hv_lcR2 (g := g) (tt := tYes) (te := te) (vs := vs) s (fun _ => true) ef h0 h hz (fun D x ys H1 s1 hx Q k => hb D x ys H1 s1 hx Q fun σ2 hw he => k σ2 hw (fun H2 _ _ _ q => q H2 (Ex.refl H2)) fun _ => he)
  exact key.is (by rw [List.filter_eq_self.mpr (fun _ _ => rfl)])
/-- [.. for i, x in enumerate(xs) if ..] -/
theorem hv_lcE {vs : List Nat} (s : Sg K Mc He H is ms) {xs : List α} (f : Int × α → Bool) (ef : Int × α → β) (h : Hv K (muA ms ++ Mc) tl σ H xs) (hz : xs.length ≤ 40000)
    (hb : ∀ D src (x : Int × α) w (ys : List β) H1, Sg K Mc He H1 ((w, Datum.toD x) :: (src, Datum.toD xs) :: is) ((D, .lst (ys.map Datum.toD)) :: ms) → x ∈ enumL xs →
      ∀ Q : L2.St → Hp → Prop, (∀ σ2, wipe σ2 vs = wipe σ vs → HT (muA ((D, Mv.lst (ys.map Datum.toD)) :: ms) ++ Mc) tt σ2 H1 (f x) → (f x = true → Hv K (muA ((D, Mv.lst (ys.map Datum.toD)) :: ms) ++ Mc) te σ2 H1 (ef x)) → Q σ2 H1) → g w (wipe σ vs) H1 Q) :
    Hv K (muA ms ++ Mc) (tLc (iEnum K (tCons tl tNil)) g tt te vs) σ H (((enumL xs).filter f).map ef) := fun H1 e m Q q =>
  h H1 e m _ fun v H2 e2 d => by
    obtain ⟨a, us, rfl, s1, ds⟩ := d.list
    have s1' : SqL K H2 a us := ex_l msk_le s1
    refine ⟨a, us, rfl, s1', fun D hD => ?_⟩
    have sA : Sg K Mc He H2 ((.ref a, Datum.toD xs) :: is) ms := ((s.ex e).ex e2).put d
    have sB : Sg K Mc He (upd H2 D (.lst [])) ((.ref a, Datum.toD xs) :: is) ((D, .lst (([] : List β).map Datum.toD)) :: ms) := sA.new hD ⟨[], rfl, .nil⟩
    have hlu : us.length = xs.length := ds.len
    refine lc_it (walk_enum (K := K) (a := a) (xs := us)) (fun i H' => Ex H2 H' ∧ Sg K Mc He H' ((.ref a, Datum.toD xs) :: is) ((D, .lst (((((enumL xs).take i).filter f).map ef).map Datum.toD)) :: ms)) ⟨Ex.new hD, sB⟩
      (fun i H' _ p => ex_l p.1 s1') (fun i x H' H'' hi p y => ?_) (fun H' p => ?_)
    · obtain ⟨T, x0, x1, rfl, nT, rfl, f1, f2⟩ := y
      have hix : i < xs.length := by rw [← hlu]; exact hi
      have gx : xs[i]? = some xs[i] := by simp [hix]
      have gE := enumL_get gx
      have e0 : x0 = .int (i : Int) := (Option.some.inj f1).symm
      subst e0
      have eT : Ex H' (upd H' T (.tup [.int (i : Int), x1])) := Ex.new nT
      have sT := p.2.ex eT
      have dm : Dt K (msk (D :: (muA ms ++ Mc)) (upd H' T (.tup [.int (i : Int), x1]))) x1 xs[i] := by
        have d2 : Dts K (msk (D :: (muA ms ++ Mc)) (upd H' T (.tup [.int (i : Int), x1]))) us xs := by
          have q1 : Dts K (msk (muA ms ++ Mc) H2) us xs := ds
          have q2 : Ex (msk (muA ms ++ Mc) H2) (msk (D :: (muA ms ++ Mc)) (upd H' T (.tup [.int (i : Int), x1]))) := fun b o hb' => by
            by_cases z : b ∈ muA ms ++ Mc
            · rw [msk_in z] at hb'; cases hb'
            · rw [msk_out z] at hb'
              have nb : b ≠ D := ne_of_none hb' hD
              rw [msk_out (by simp only [List.mem_cons, not_or]; exact ⟨nb, z⟩)]
              exact eT b o (p.1 b o hb')
          exact q1.mono q2
        obtain ⟨w, w1, w2⟩ := d2.at gx
        have : x1 = w := Option.some.inj (f2.symm.trans w1)
        subst this; exact w2
      have nTD : T ∉ D :: (muA ms ++ Mc) := fun z => (p.2.mok T z) nT
      have dw : Dt K (msk (D :: (muA ms ++ Mc)) (upd H' T (.tup [.int (i : Int), x1]))) (.ref T) ((i : Int), xs[i]) := Dt.ofPair (SqT.of (by rw [msk_out nTD]; exact upd_same)) (Dt.ofInt _) dm
      refine hb D (.ref a) ((i : Int), xs[i]) (.ref T) _ _ (sT.put dw) (List.mem_of_getElem? gE) _ fun σ2 hw ht he => ⟨hw, ?_⟩
      have hlen : ((((enumL xs).take i).filter f).map ef).length < 50000 := by
        rw [List.length_map]
        have := List.length_filter_le f ((enumL xs).take i)
        rw [List.length_take, enumL_len] at this
        omega
      exact lc_turn (ms := ms) (zs := (((enumL xs).take (i + 1)).filter f).map ef) sT hlen (fun H3 => Ex H2 H3 ∧ Sg K Mc He H3 ((.ref a, Datum.toD xs) :: is) ((D, .lst (((((enumL xs).take (i + 1)).filter f).map ef).map Datum.toD)) :: ms)) ht he (filter_snoc gE) (fun H3 h4 s3 => ⟨by
        obtain ⟨H4, e4, e5⟩ := h4
        rcases e5 with e5 | ⟨o, e5⟩
        · rw [e5]; exact (p.1.trans eT).trans e4
        · rw [e5]; exact Ex.mut ((p.1.trans eT).trans e4) hD, s3⟩)
    · have z := p.2
      have et : (enumL xs).take us.length = enumL xs := List.take_of_length_le (by rw [enumL_len, hlu]; exact Nat.le_refl _)
      rw [et] at z
      exact q _ H' (e2.trans p.1) (z.frz).im.1
end
end Ly

namespace Ly
open PySem PySem.Spec PyProof.Rows L2 Evl
theorem gl_mem' {β : Type} {occ : Nat → Bool} {blk : Nat → List β} {x : β} : ∀ (n lo k : Nat), lo ≤ k → k < lo + n → occ k = true → x ∈ blk k → x ∈ gl occ blk lo n
  | 0, lo, k, h1, h2, _, _ => by omega
  | n + 1, lo, k, h1, h2, ho, hx => by
    rw [gl, List.mem_append]
    by_cases e : lo = k
    · left; rw [e, ho, if_pos rfl]; exact hx
    · right; exact gl_mem' n (lo + 1) k (by omega) (by omega) ho hx
/-- two lists that grow, with the same items, are one -/
theorem sorted_ext : ∀ {l1 l2 : List Int}, l1.Pairwise (· < ·) → l2.Pairwise (· < ·) → (∀ x, x ∈ l1 ↔ x ∈ l2) → l1 = l2
  | [], [], _, _, _ => rfl
  | [], b :: r, _, _, h => by have := (h b).mpr List.mem_cons_self; cases this
  | a :: l, [], _, _, h => by have := (h a).mp List.mem_cons_self; cases this
  | a :: l, b :: r, h1, h2, h => by
    have p1 := List.pairwise_cons.mp h1
    have p2 := List.pairwise_cons.mp h2
    have e : a = b := by
      have ha := (h a).mp List.mem_cons_self
      have hb := (h b).mpr List.mem_cons_self
      rcases List.mem_cons.mp ha with ha | ha
      · exact ha
      · rcases List.mem_cons.mp hb with hb | hb
        · exact hb.symm
        · have := p1.1 b hb
          have := p2.1 a ha
          omega
    subst e
    congr 1
    refine sorted_ext p1.2 p2.2 fun x => ⟨fun hx => ?_, fun hx => ?_⟩
    · rcases List.mem_cons.mp ((h x).mp (List.mem_cons_of_mem _ hx)) with q | q
      · have := p1.1 x hx; omega
      · exact q
    · rcases List.mem_cons.mp ((h x).mpr (List.mem_cons_of_mem _ hx)) with q | q
      · have := p2.1 x hx; omega
      · exact q
theorem irng_sorted (lo : Int) (n : Nat) : (irng lo n).Pairwise (· < ·) := by
  unfold irng
  rw [List.pairwise_map]
  exact List.pairwise_lt_range.imp fun h => by omega
theorem irng_mem {lo x : Int} {n : Nat} : x ∈ irng lo n ↔ lo ≤ x ∧ x < lo + n := by
  unfold irng
  rw [List.mem_map]
  constructor
  · rintro ⟨i, hi, rfl⟩
    have := List.mem_range.mp hi
    omega
  · intro h
    exact ⟨(x - lo).toNat, List.mem_range.mpr (by omega), by omega⟩
/-- the greatest -/
theorem max_spec : ∀ (l : List Int) (b : Int), (l.foldl max b = b ∨ l.foldl max b ∈ l) ∧ b ≤ l.foldl max b ∧ ∀ x ∈ l, x ≤ l.foldl max b
  | [], b => ⟨Or.inl rfl, Int.le_refl b, fun x hx => by cases hx⟩
  | a :: l, b => by
    obtain ⟨h1, h2, h3⟩ := max_spec l (max b a)
    rw [List.foldl_cons]
    refine ⟨?_, by omega, fun x hx => ?_⟩
    · rcases h1 with h1 | h1
      · rw [h1]
        by_cases q : a ≤ b
        · left; omega
        · right; rw [show max b a = a by omega]; exact List.mem_cons_self
      · exact Or.inr (List.mem_cons_of_mem _ h1)
    · rcases List.mem_cons.mp hx with q | q
      · omega
      · exact h3 x q
theorem max_ext {l1 l2 : List Int} (b : Int) (h : ∀ x, x ∈ l1 ↔ x ∈ l2) : l1.foldl max b = l2.foldl max b := by
  obtain ⟨h1, h2, h3⟩ := max_spec l1 b
  obtain ⟨k1, k2, k3⟩ := max_spec l2 b
  have a1 : l1.foldl max b ≤ l2.foldl max b := by
    rcases h1 with q | q
    · rw [q]; exact k2
    · exact k3 _ ((h _).mp q)
  have a2 : l2.foldl max b ≤ l1.foldl max b := by
    rcases k1 with q | q
    · rw [q]; exact h2
    · exact h3 _ ((h _).mpr q)
  omega
theorem max_fold {α : Type} (P : α → Bool) (v : α → Int) : ∀ (l : List α) (b : Int), l.foldl (fun b x => if P x = true then max b (v x) else b) b = ((l.filter P).map v).foldl max b
  | [], b => rfl
  | a :: l, b => by
    rw [List.foldl_cons, max_fold P v l]
    by_cases q : P a = true
    · rw [if_pos q, List.filter_cons_of_pos q, List.map_cons, List.foldl_cons]
    · rw [if_neg q, List.filter_cons_of_neg q]
theorem chars_app (a b : Str) : chars (a ++ b) = chars a ++ chars b := by
  rw [chars_cps, chars_cps, chars_cps, cps_app, List.map_append]
theorem enumL_iff {xs : List Int} {p : Int × Int} : p ∈ enumL xs ↔ 0 ≤ p.1 ∧ p.1 < (xs.length : Int) ∧ p.2 = xs.getD p.1.toNat 0 := by
  constructor
  · intro h
    obtain ⟨i, hi, rfl⟩ := List.getElem_of_mem h
    have hx : i < xs.length := by rw [enumL_len] at hi; exact hi
    have gx : xs[i]? = some xs[i] := by simp [hx]
    obtain ⟨_, ge⟩ := List.getElem?_eq_some_iff.mp (enumL_get gx)
    rw [ge]
    refine ⟨by show (0 : Int) ≤ (i : Int); omega, by show (i : Int) < _; omega, ?_⟩
    show xs[i] = xs.getD (Int.toNat (i : Int)) 0
    rw [Int.toNat_natCast, List.getD_eq_getElem?_getD, gx]
    rfl
  · rintro ⟨h1, h2, h3⟩
    obtain ⟨a, b⟩ := p
    dsimp only at h1 h2 h3
    have hx : a.toNat < xs.length := by omega
    have gx : xs[a.toNat]? = some xs[a.toNat] := by simp [hx]
    have k := List.mem_of_getElem? (enumL_get gx)
    rw [List.getD_eq_getElem?_getD, gx] at h3
    have e : (((a.toNat : Nat) : Int), xs[a.toNat]) = (a, b) := Prod.ext (by show ((a.toNat : Nat) : Int) = a; omega) (by show xs[a.toNat] = b; rw [h3]; rfl)
    rw [← e]
    exact k
theorem enumL_sorted (xs : List Int) : (enumL xs).Pairwise fun a b => a.1 < b.1 := by
  rw [List.pairwise_iff_getElem]
  intro i j hi hj hij
  rw [enumL_len] at hi hj
  have gi : xs[i]? = some xs[i] := by simp [hi]
  have gj : xs[j]? = some xs[j] := by simp [hj]
  obtain ⟨_, e1⟩ := List.getElem?_eq_some_iff.mp (enumL_get gi)
  obtain ⟨_, e2⟩ := List.getElem?_eq_some_iff.mp (enumL_get gj)
  rw [e1, e2]
  show (i : Int) < (j : Int)
  omega
theorem lo1_eq (c : Nat) : PyProof.Rows.lo1 c = if 65 ≤ c ∧ c ≤ 90 then c + 32 else c := by
  unfold PyProof.Rows.lo1
  first | rfl | (split <;> split <;> simp_all <;> omega) | (simp; done)
theorem loopL_ret_P {ρ S α : Type} {f : S → α → Lp ρ S} {P : ρ → Prop} : ∀ (l : List α) (s : S), (∀ s x r, x ∈ l → f s x = .ret r → P r) → ∀ r, loopL f l s = .inl r → P r
  | [], s, _, r, h => by cases h
  | x :: l, s, hp, r, h => by
    rw [loopL] at h
    cases hx : f s x with
    | ret r' => rw [hx] at h; cases h; exact hp s x r List.mem_cons_self hx
    | brk s' => rw [hx] at h; cases h
    | nxt s' => rw [hx] at h; exact loopL_ret_P l s' (fun s y r hy => hp s y r (List.mem_cons_of_mem _ hy)) r h
end Ly

namespace My
open PySem PySem.Spec PyProof.Rows L2 Evl Ly CwR
open PySem.W (Datum DatumOrd Tup T3 T4 minOf)
def topS (i : Nat) : Stmt := PySem.Challenge.pw_folio_k11_places.main.body.getD i (.Pass ⟨0, 0, 0, 0⟩)
structure Txt (K : PySem.W.Frag) (mg : Str → Option Value) where
  f_levels : Addr
  d_levels : FuncData
  u_levels : Fun K "levels" "levels" (topS 2) f_levels d_levels
  b_levels : Binds K d_levels ["entries", "word"] []
  g_levels : mg "levels" = some (.ref f_levels)
  f_given_levels : Addr
  d_given_levels : FuncData
  u_given_levels : Fun K "given_levels" "given_levels" (topS 3) f_given_levels d_given_levels
  b_given_levels : Binds K d_given_levels ["pattern", "dotted"] []
  g_given_levels : mg "given_levels" = some (.ref f_given_levels)
  f_split_pattern : Addr
  d_split_pattern : FuncData
  u_split_pattern : Fun K "split_pattern" "split_pattern" (topS 4) f_split_pattern d_split_pattern
  b_split_pattern : Binds K d_split_pattern ["pattern"] []
  g_split_pattern : mg "split_pattern" = some (.ref f_split_pattern)
  f_places : Addr
  d_places : FuncData
  u_places : Fun K "places" "places" (topS 5) f_places d_places
  b_places : Binds K d_places ["entries", "word"] []
  g_places : mg "places" = some (.ref f_places)
  f_is_inner : Addr
  d_is_inner : FuncData
  u_is_inner : Fun K "is_inner" "is_inner" (topS 6) f_is_inner d_is_inner
  b_is_inner : Binds K d_is_inner ["place", "length"] []
  g_is_inner : mg "is_inner" = some (.ref f_is_inner)
  f_exception_places : Addr
  d_exception_places : FuncData
  u_exception_places : Fun K "exception_places" "exception_places" (topS 7) f_exception_places d_exception_places
  b_exception_places : Binds K d_exception_places ["entries", "word"] []
  g_exception_places : mg "exception_places" = some (.ref f_exception_places)
  f_hyphen_places : Addr
  d_hyphen_places : FuncData
  u_hyphen_places : Fun K "hyphen_places" "hyphen_places" (topS 8) f_hyphen_places d_hyphen_places
  b_hyphen_places : Binds K d_hyphen_places ["exception"] []
  g_hyphen_places : mg "hyphen_places" = some (.ref f_hyphen_places)
  f_odd_places : Addr
  d_odd_places : FuncData
  u_odd_places : Fun K "odd_places" "odd_places" (topS 9) f_odd_places d_odd_places
  b_odd_places : Binds K d_odd_places ["entries", "word"] []
  g_odd_places : mg "odd_places" = some (.ref f_odd_places)
  f_law_cell : Addr
  d_law_cell : FuncData
  u_law_cell : Fun K "_law_cell" "_law_cell" (topS 11) f_law_cell d_law_cell
  b_law_cell : Binds K d_law_cell ["script", "k"] []
  g_law_cell : mg "_law_cell" = some (.ref f_law_cell)
  f_law_draws : Addr
  d_law_draws : FuncData
  u_law_draws : Fun K "_law_draws" "_law_draws" (topS 12) f_law_draws d_law_draws
  b_law_draws : Binds K d_law_draws ["cell", "count"] []
  g_law_draws : mg "_law_draws" = some (.ref f_law_draws)
  f_law_word : Addr
  d_law_word : FuncData
  u_law_word : Fun K "_law_word" "_law_word" (topS 13) f_law_word d_law_word
  b_law_word : Binds K d_law_word ["cell", "size"] []
  g_law_word : mg "_law_word" = some (.ref f_law_word)
  f_law_pattern_text : Addr
  d_law_pattern_text : FuncData
  u_law_pattern_text : Fun K "_law_pattern_text" "_law_pattern_text" (topS 14) f_law_pattern_text d_law_pattern_text
  b_law_pattern_text : Binds K d_law_pattern_text ["cell"] []
  g_law_pattern_text : mg "_law_pattern_text" = some (.ref f_law_pattern_text)
  f_law_cut : Addr
  d_law_cut : FuncData
  u_law_cut : Fun K "_law_cut" "_law_cut" (topS 15) f_law_cut d_law_cut
  b_law_cut : Binds K d_law_cut ["word", "cell"] []
  g_law_cut : mg "_law_cut" = some (.ref f_law_cut)
  f_law_entry : Addr
  d_law_entry : FuncData
  u_law_entry : Fun K "_law_entry" "_law_entry" (topS 16) f_law_entry d_law_entry
  b_law_entry : Binds K d_law_entry ["word", "cell"] []
  g_law_entry : mg "_law_entry" = some (.ref f_law_entry)
  f_law_is_pattern : Addr
  d_law_is_pattern : FuncData
  u_law_is_pattern : Fun K "_law_is_pattern" "_law_is_pattern" (topS 17) f_law_is_pattern d_law_is_pattern
  b_law_is_pattern : Binds K d_law_is_pattern ["text"] []
  g_law_is_pattern : mg "_law_is_pattern" = some (.ref f_law_is_pattern)
  f_law_level : Addr
  d_law_level : FuncData
  u_law_level : Fun K "_law_level" "_law_level" (topS 18) f_law_level d_law_level
  b_law_level : Binds K d_law_level ["entries", "word", "place"] []
  g_law_level : mg "_law_level" = some (.ref f_law_level)
  f_law_expected : Addr
  d_law_expected : FuncData
  u_law_expected : Fun K "_law_expected" "_law_expected" (topS 19) f_law_expected d_law_expected
  b_law_expected : Binds K d_law_expected ["entries", "word"] []
  g_law_expected : mg "_law_expected" = some (.ref f_law_expected)
  f_law_same : Addr
  d_law_same : FuncData
  u_law_same : Fun K "_law_same" "_law_same" (topS 20) f_law_same d_law_same
  b_law_same : Binds K d_law_same ["actual", "expected"] []
  g_law_same : mg "_law_same" = some (.ref f_law_same)
  f_law : Addr
  d_law : FuncData
  u_law : Fun K "law" "law" (topS 21) f_law d_law
  b_law : Binds K d_law ["script"] []
  g_law : mg "law" = some (.ref f_law)
  n_bool : mg "bool" = none
  n_enumerate : mg "enumerate" = none
  n_int : mg "int" = none
  n_isinstance : mg "isinstance" = none
  n_len : mg "len" = none
  n_list : mg "list" = none
  n_max : mg "max" = none
  n_range : mg "range" = none
  t_DIGITS : Tok
  g_DIGITS : mg "DIGITS" = some (.str (PySem.Str.ofString "0123456789") t_DIGITS)
section
variable {P : Program} {w : World} {K : PySem.W.Frag} {mg : Str → Option Value} {base : Heap}

theorem l_dot : (PySem.Str.ofString ".").length = 1 := by decide +kernel
theorem l_emp : (PySem.Str.ofString "").length = 0 := by decide +kernel
theorem l_abcB : (PySem.Str.ofString "abcB").length = 4 := by decide +kernel
theorem g_digs (i : Nat) : (List.getD [(PySem.Str.ofString ""), (PySem.Str.ofString "1"), (PySem.Str.ofString "2"), (PySem.Str.ofString "3"), (PySem.Str.ofString "14"), (PySem.Str.ofString "9"), (PySem.Str.ofString "0")] i (PySem.Str.ofString "")).length ≤ 2 := getD_P (P := fun s => Str.length s ≤ 2) (by decide +kernel) (by decide +kernel) i
theorem g_pre (i : Nat) : (List.getD [(PySem.Str.ofString ""), (PySem.Str.ofString "."), (PySem.Str.ofString "3."), (PySem.Str.ofString ".4")] i (PySem.Str.ofString "")).length ≤ 2 := getD_P (P := fun s => Str.length s ≤ 2) (by decide +kernel) (by decide +kernel) i
theorem g_end (i : Nat) : (List.getD [(PySem.Str.ofString "1"), (PySem.Str.ofString "."), (PySem.Str.ofString "5.")] i (PySem.Str.ofString "")).length ≤ 2 := getD_P (P := fun s => Str.length s ≤ 2) (by decide +kernel) (by decide +kernel) i

theorem l_dash : (PySem.Str.ofString "-").length = 1 := by decide +kernel
theorem l_excl : (PySem.Str.ofString "ab-cab").length = 6 := by decide +kernel

def m_split_pattern_l0  (s_ : (List Int) × PySem.Str) (x_ : PySem.Str) : (List Int) × PySem.Str :=
  let marks_ : (List Int) := s_.1
  let characters_ : PySem.Str := s_.2
  let sign_ : PySem.Str := x_
  if (inStr sign_ (PySem.Str.ofString "0123456789")) = true then
    let marks_ : (List Int) := (List.set marks_ (marks_.length - 1) (Option.getD (PySem.intText? sign_) 0))
    (marks_, characters_)
  else
    let characters_ : PySem.Str := (characters_ ++ sign_)
    let marks_ : (List Int) := marks_ ++ [(0 : Int)]
    (marks_, characters_)
def m_split_pattern (pattern_ : PySem.Str) : (PySem.Str × (List Int)) :=
  let characters_ : PySem.Str := (PySem.Str.ofString "")
  let marks_ : (List Int) := [(0 : Int)]
  let r0_ : (List Int) × PySem.Str := List.foldl m_split_pattern_l0 (marks_, characters_) (chars (Txt.lower pattern_))
  let marks_ : (List Int) := r0_.1
  let characters_ : PySem.Str := r0_.2
  (characters_, marks_)
abbrev s_split_pattern : Stmt := topS 4
theorem sc_split_pattern : FnScope ["pattern", "characters", "marks", "sign"] ["pattern"] (defScope s_split_pattern) := ⟨rfl, rfl, rfl, by decide +kernel, rfl, by decide +kernel, by decide +kernel⟩
abbrev sp_split_pattern (K : PySem.W.Frag) : Sp := PrD K (fun c : PySem.Str => [Datum.toD c]) (fun c => c.length ≤ 24) (fun c => (m_split_pattern c : (PySem.Str × (List Int))))
theorem ok_split_pattern (T : Txt K mg) : FnOk P w K mg base CX0 1 T.f_split_pattern T.d_split_pattern ["pattern"] (sp_split_pattern K) := by
  refine T.u_split_pattern.ok sc_split_pattern (fun vs H Q E h => ?_) (fun cdv A outer s H vs Q E hr h => ?_)
  · obtain ⟨Mc, c, mok, da, pre, q⟩ := h
    exact (dpa_len da)
  · obtain ⟨Mc, c, mok, da, pre, q⟩ := h
    obtain ⟨pattern_, rfl⟩ : ∃ z, z = c := ⟨c, rfl⟩
    dsimp only at da pre q
    obtain ⟨v0, w0, rfl, d0, da0⟩ := dpa_inv da
    cases dpa_inv0 da0
    cases (Dt.str d0)
    have s0 : Sg K Mc H H [] [] := Sg.enter mok True.intro
    have hlow := PyProof.Rows.len_lower pattern_
    have hchl := chars_len (Txt.lower pattern_)
    refine ⟨_, (pss_cons (ps_set (i := 1) sc_split_pattern.nd rfl (.inl rfl) pe_str) (pss_cons (ps_set (i := 2) sc_split_pattern.nd rfl (.inl rfl) (pe_lst (pa_cons pe_int pa_nil))) (pss_cons (ps_for PassesOwn.never rfl (pi_str (pe_lower (pv 0))) (pg_name (i := 3) sc_split_pattern.nd rfl (.inl rfl)) (pss_cons (ps_if (pt_cmpR op_in_str (pv 3) (pe_glob (v := .str (PySem.Str.ofString "0123456789")) rfl T.g_DIGITS ⟨_, rfl⟩) (by rfl)) (pss_cons (ps_asg (pe_callTy call_int_str (by rfl) T.n_int (by decide +kernel) (pa_cons (pv 3) pa_nil)) (pg_sub (pv 2) (pe_un un_neg pe_int) set_list)) pss_nil) (pss_cons (ps_aug (i := 1) sc_split_pattern.nd rfl (.inl rfl) (pv 3) iop_add_str) (pss_cons (ps_expr (pe_bm PySem.F.plainAttrs_list PySem.F.slot_list_append PySem.F.type_list_append mt_append (pv 2) (pa_cons pe_int pa_nil))) pss_nil))) pss_nil)) (pss_cons (ps_ret (pe_tup (pa_cons (pv 1) (pa_cons (pv 2) pa_nil)))) pss_nil)))), ?_⟩
    refine z_asgSG s0 (hv_str _) fun characters_2 hcharacters_2 Hs1 s1 => ?_
    try dsimp only at hcharacters_2
    refine z_freshG s1 (hf_lst (has_cons (hv_int 0) has_nil) (Nat.le_of_ble_eq_true rfl)) fun marks_4 hmarks_4 ps3 Hs3 s3 => ?_
    try dsimp only at hmarks_4
    have lmarks_4 := congrArg List.length hmarks_4
    try simp only [List.length_map, irng_len, List.length_flatten, List.map_replicate, List.sum_replicate_nat, List.length_cons, List.length_nil] at lmarks_4
    refine zq_forS s3 (hv_lower (hv_vS rfl) (by have := l_dot; have := l_emp; have := l_abcB; have := l_dash; first | omega | (simp only [str_len_app, mulS_len, strAt_len]; omega))) (fun i σ' H' => ∃ (marks_5 : (List Int)) (characters_6 : PySem.Str) (o7 : Option V), (List.foldl m_split_pattern_l0 (marks_4, characters_2) (chars (Txt.lower pattern_)) : (List Int) × PySem.Str) = (List.foldl m_split_pattern_l0 (marks_5, characters_6) (List.drop i (chars (Txt.lower pattern_))) : (List Int) × PySem.Str) ∧ (marks_5.length = characters_6.length + 1 ∧ characters_6.length ≤ (i)) ∧ σ' = [some (V.str pattern_), some (V.str characters_6), some (.ref ps3), o7] ∧ Sg K Mc H H' [] [(ps3, .lst (List.map Datum.toD marks_5))]) (fun Hs8 s8 => ⟨marks_4, characters_2, _, rfl, (by subst_vars; exact ⟨by rw [l_emp]; rfl, by rw [l_emp]; exact Nat.le_refl _⟩), rfl, s8.keep fun _ h => True.intro⟩) (fun i12 x13 σ' Hs11 hi15 hP => ?_) (fun σ' Hs11 hP => ?_)
    · obtain ⟨marks_5, characters_6, o7, he9, hg10, rfl, s11⟩ := hP
      have ox13 := chars_one hi15
      have qx13 := (List.getElem?_eq_some_iff.mp hi15).1
      refine z_if (b := (inStr x13 (PySem.Str.ofString "0123456789"))) s11 (ht_val (K := K) (hv_inStr (hv_vS rfl) (hv_str _))) (fun hb17 Hs18 s18 => ?_) (fun hb17 Hs19 s19 => ?_)
      · have hb17P := hb17
        try simp only [decide_eq_true_eq, decide_eq_false_iff_not, Bool.not_eq_true', Bool.not_eq_false', Bool.and_eq_true, Bool.or_eq_true, Bool.or_eq_false_iff] at hb17P
        refine z_setLastG s18 (kk := 0) rfl (hv_intS (hv_vS rfl) (by exact int_sign ‹_› ‹_›) (by have := chars_one ‹(chars _)[_]? = some _›; omega)) (ev_var rfl) (by first | omega | decide +kernel | (simp only [List.length_cons, List.length_nil]; omega)) fun marks_21 hmarks_21 Hs20 s20 => ?_
        try dsimp only at hmarks_21
        have lmarks_21 : marks_21.length = marks_5.length := by rw [hmarks_21, List.length_set]
        have s20 : Sg K Mc _ _ _ [(ps3, .lst (List.map Datum.toD marks_21))] := s20
        have hf22 : m_split_pattern_l0 (marks_5, characters_6) x13 = (marks_21, characters_6) := (by subst hmarks_21; subst hmarks_4; subst hcharacters_2; first | (simp only [m_split_pattern_l0, hb17, if_true, if_false, Bool.false_eq_true, decide_true, decide_false, Option.getD_some, Option.isNone_none, Option.isNone_some, Bool.not_true, Bool.not_false, ↓reduceIte]; done) | (rfl; done) | (exfalso; simp at hb17; done))
        exact ⟨marks_21, characters_6, _, he9.trans ((foldl_step hi15).trans (by rw [hf22])), (by have := chars_one ‹(chars _)[_]? = some _›; omega), rfl, s20.keep fun _ h => True.intro⟩
      · have hb17P := hb17
        try simp only [decide_eq_true_eq, decide_eq_false_iff_not, Bool.not_eq_true', Bool.not_eq_false', Bool.and_eq_true, Bool.or_eq_true, Bool.or_eq_false_iff] at hb17P
        refine z_augSG s19 rfl (hv_vS rfl) (by have := chars_one ‹(chars _)[_]? = some _›; omega) fun characters_24 hcharacters_24 Hs23 s23 => ?_
        have lcharacters_24 : characters_24.length = _ := (congrArg Str.length hcharacters_24).trans (str_len_app _ _)
        refine zq_appG s23 (kk := 0) rfl (ev_var rfl) (hv_int 0) (by first | omega | decide +kernel | (simp only [List.length_cons, List.length_nil]; omega)) fun marks_26 hmarks_26 Hs25 s25 => ?_
        have lmarks_26 : marks_26.length = marks_5.length + 1 := by rw [hmarks_26, List.length_append]; rfl
        have s25 : Sg K Mc _ _ _ [(ps3, .lst (List.map Datum.toD marks_26))] := s25
        have hf27 : m_split_pattern_l0 (marks_5, characters_6) x13 = (marks_26, characters_24) := (by subst hmarks_26; subst hcharacters_24; subst hmarks_4; subst hcharacters_2; first | (simp only [m_split_pattern_l0, hb17, if_true, if_false, Bool.false_eq_true, decide_true, decide_false, Option.getD_some, Option.isNone_none, Option.isNone_some, Bool.not_true, Bool.not_false, ↓reduceIte]; done) | (rfl; done) | (exfalso; simp at hb17; done))
        exact ⟨marks_26, characters_24, _, he9.trans ((foldl_step hi15).trans (by rw [hf27])), (by have := chars_one ‹(chars _)[_]? = some _›; omega), rfl, s25.keep fun _ h => True.intro⟩
    · obtain ⟨marks_28, characters_29, o30, he32, hg33, rfl, s31⟩ := hP
      rw [foldl_end] at he32
      have s34 := Sg.frz (xs := marks_28) s31
      have hF35 : m_split_pattern pattern_ = (characters_29, marks_28) := (by subst hmarks_4; subst hcharacters_2; first | (simp only [m_split_pattern, he32, if_true, if_false, Bool.false_eq_true, decide_true, decide_false, Option.getD_some, Option.isNone_none, Option.isNone_some, Bool.not_true, Bool.not_false, ↓reduceIte]; done) | (rfl; done))
      exact zq_ret s34 (hv_tup2 (hv_vS rfl) (hv_var (x := marks_28) rfl s34.im.1)) fun v H' e d => q v H' e (by rw [hF35]; exact d)
/-! split_pattern -/
theorem split_run : ∀ (l : List PySem.Str) (s : List Int × PySem.Str), (∀ x ∈ l, x.length = 1) → s.1.length = s.2.length + 1 →
    (List.foldl m_split_pattern_l0 s l).1.length = (List.foldl m_split_pattern_l0 s l).2.length + 1 ∧ (List.foldl m_split_pattern_l0 s l).2.length ≤ s.2.length + l.length
  | [], s, _, h => ⟨h, Nat.le_add_right _ _⟩
  | x :: l, s, hx, h => by
    rw [List.foldl_cons]
    have h1 := hx x List.mem_cons_self
    by_cases q : inStr x (PySem.Str.ofString "0123456789") = true
    · have e : m_split_pattern_l0 s x = (List.set s.1 (s.1.length - 1) (Option.getD (PySem.intText? x) 0), s.2) := by
        unfold m_split_pattern_l0; dsimp only; rw [if_pos q]
      rw [e]
      have ih := split_run l (List.set s.1 (s.1.length - 1) (Option.getD (PySem.intText? x) 0), s.2) (fun y hy => hx y (List.mem_cons_of_mem _ hy)) (by rw [List.length_set]; exact h)
      exact ⟨ih.1, Nat.le_trans ih.2 (by rw [List.length_cons]; exact Nat.add_le_add_left (Nat.le_succ _) _)⟩
    · have e : m_split_pattern_l0 s x = (s.1 ++ [(0 : Int)], s.2 ++ x) := by
        unfold m_split_pattern_l0; dsimp only; rw [if_neg q]
      rw [e]
      have ih := split_run l (s.1 ++ [(0 : Int)], s.2 ++ x) (fun y hy => hx y (List.mem_cons_of_mem _ hy)) (by
        show (s.1 ++ [(0 : Int)]).length = (s.2 ++ x).length + 1
        rw [List.length_append, str_len_app, h1, h]; rfl)
      refine ⟨ih.1, Nat.le_trans ih.2 ?_⟩
      show (s.2 ++ x).length + l.length ≤ _
      rw [str_len_app, h1, List.length_cons]
      omega
theorem chars_mem_one {s x : PySem.Str} (h : x ∈ chars s) : x.length = 1 := by
  obtain ⟨i, hi, he⟩ := List.getElem_of_mem h
  exact chars_one (s := s) (i := i) (List.getElem?_eq_some_iff.mpr ⟨hi, he⟩)
theorem split_len (p : PySem.Str) : (m_split_pattern p).2.length = (m_split_pattern p).1.length + 1 ∧ (m_split_pattern p).1.length ≤ 3 * p.length := by
  have k := split_run (chars (Txt.lower p)) ([(0 : Int)], PySem.Str.ofString "") (fun x hx => chars_mem_one hx) (by rw [l_emp]; rfl)
  refine ⟨k.1, Nat.le_trans k.2 ?_⟩
  rw [chars_len, l_emp, Nat.zero_add]
  exact PyProof.Rows.len_lower p

def m_is_inner (place_ : Int) (length_ : Int) : Bool :=
  ((decide ((2 : Int) ≤ place_)) && (decide (place_ ≤ (length_ - (3 : Int)))))
abbrev s_is_inner : Stmt := topS 6
theorem sc_is_inner : FnScope ["place", "length"] ["place", "length"] (defScope s_is_inner) := ⟨rfl, rfl, rfl, by decide +kernel, rfl, by decide +kernel, by decide +kernel⟩
abbrev sp_is_inner (K : PySem.W.Frag) : Sp := PrD K (fun c : Int × Int => [Datum.toD c.1, Datum.toD c.2]) (fun c => True) (fun c => (m_is_inner c.1 c.2 : Bool))
theorem ok_is_inner (T : Txt K mg) : FnOk P w K mg base CX0 1 T.f_is_inner T.d_is_inner ["place", "length"] (sp_is_inner K) := by
  refine T.u_is_inner.ok sc_is_inner (fun vs H Q E h => ?_) (fun cdv A outer s H vs Q E hr h => ?_)
  · obtain ⟨Mc, c, mok, da, pre, q⟩ := h
    exact (dpa_len da)
  · obtain ⟨Mc, c, mok, da, pre, q⟩ := h
    obtain ⟨place_, length_⟩ := c
    dsimp only at da pre q
    obtain ⟨v0, w0, rfl, d0, da0⟩ := dpa_inv da
    obtain ⟨v1, w1, rfl, d1, da1⟩ := dpa_inv da0
    cases dpa_inv0 da1
    cases (Dt.int d0)
    cases (Dt.int d1)
    have s0 : Sg K Mc H H [] [] := Sg.enter mok True.intro
    refine ⟨_, (pss_cons (ps_ret (pe_chain op_le op_le pe_int (pv 0) (pe_op op_sub (pv 1) pe_int))) pss_nil), ?_⟩
    have hF1 : m_is_inner place_ length_ = ((decide ((2 : Int) ≤ place_)) && (decide (place_ ≤ (length_ - (3 : Int))))) := (by  first | (simp only [m_is_inner, if_true, if_false, Bool.false_eq_true, decide_true, decide_false, Option.getD_some, Option.isNone_none, Option.isNone_some, Bool.not_true, Bool.not_false, ↓reduceIte]; done) | (rfl; done))
    exact zq_ret s0 (hv_chainI (g1 := fun i j => decide (i ≤ j)) (g2 := fun i j => decide (i ≤ j)) (hv_int 2) (hv_vI rfl) (hv_sub (hv_vI rfl) (hv_int 3))) fun v H' e d => q v H' e (by rw [hF1]; exact d)
def m_hyphen_places_l0  (s_ : (List Int) × Int) (x_ : PySem.Str) : (List Int) × Int :=
  let found_ : (List Int) := s_.1
  let letters_ : Int := s_.2
  let sign_ : PySem.Str := x_
  if (decide (sign_ = (PySem.Str.ofString "-"))) = true then
    let found_ : (List Int) := found_ ++ [letters_]
    (found_, letters_)
  else
    let letters_ : Int := (letters_ + (1 : Int))
    (found_, letters_)
def m_hyphen_places (exception_ : PySem.Str) : (List Int) :=
  let found_ : (List Int) := []
  let letters_ : Int := (0 : Int)
  let r0_ : (List Int) × Int := List.foldl m_hyphen_places_l0 (found_, letters_) (chars exception_)
  let found_ : (List Int) := r0_.1
  let letters_ : Int := r0_.2
  found_
abbrev s_hyphen_places : Stmt := topS 8
theorem sc_hyphen_places : FnScope ["exception", "found", "letters", "sign"] ["exception"] (defScope s_hyphen_places) := ⟨rfl, rfl, rfl, by decide +kernel, rfl, by decide +kernel, by decide +kernel⟩
abbrev sp_hyphen_places (K : PySem.W.Frag) : Sp := PrD K (fun c : PySem.Str => [Datum.toD c]) (fun c => c.length ≤ 24) (fun c => (m_hyphen_places c : (List Int)))
theorem ok_hyphen_places (T : Txt K mg) : FnOk P w K mg base CX0 1 T.f_hyphen_places T.d_hyphen_places ["exception"] (sp_hyphen_places K) := by
  refine T.u_hyphen_places.ok sc_hyphen_places (fun vs H Q E h => ?_) (fun cdv A outer s H vs Q E hr h => ?_)
  · obtain ⟨Mc, c, mok, da, pre, q⟩ := h
    exact (dpa_len da)
  · obtain ⟨Mc, c, mok, da, pre, q⟩ := h
    obtain ⟨exception_, rfl⟩ : ∃ z, z = c := ⟨c, rfl⟩
    dsimp only at da pre q
    obtain ⟨v0, w0, rfl, d0, da0⟩ := dpa_inv da
    cases dpa_inv0 da0
    cases (Dt.str d0)
    have s0 : Sg K Mc H H [] [] := Sg.enter mok True.intro
    have hchl := chars_len exception_
    refine ⟨_, (pss_cons (ps_set (i := 1) sc_hyphen_places.nd rfl (.inl rfl) (pe_lst pa_nil)) (pss_cons (ps_set (i := 2) sc_hyphen_places.nd rfl (.inl rfl) pe_int) (pss_cons (ps_for PassesOwn.never rfl (pi_str (pv 0)) (pg_name (i := 3) sc_hyphen_places.nd rfl (.inl rfl)) (pss_cons (ps_if (pt_cmpR op_eq (pv 3) pe_str (nomark _)) (pss_cons (ps_expr (pe_bm PySem.F.plainAttrs_list PySem.F.slot_list_append PySem.F.type_list_append mt_append (pv 1) (pa_cons (pv 2) pa_nil))) pss_nil) (pss_cons (ps_aug (i := 2) sc_hyphen_places.nd rfl (.inl rfl) pe_int ip_add) pss_nil)) pss_nil)) (pss_cons (ps_ret (pv 1)) pss_nil)))), ?_⟩
    refine z_nilG Int s0 fun found_2 hfound_2 ps1 Hs1 s1 => ?_
    have lfound_2 : found_2.length = 0 := by rw [hfound_2]; rfl
    refine z_asgIG s1 (hv_int 0) fun letters_4 hletters_4 Hs3 s3 => ?_
    try dsimp only at hletters_4
    refine zq_forS s3 (hv_vS rfl) (fun i σ' H' => ∃ (found_5 : (List Int)) (letters_6 : Int) (o7 : Option V), (List.foldl m_hyphen_places_l0 (found_2, letters_4) (chars exception_) : (List Int) × Int) = (List.foldl m_hyphen_places_l0 (found_5, letters_6) (List.drop i (chars exception_)) : (List Int) × Int) ∧ (found_5.length ≤ (i) ∧ letters_6 ≤ (i) ∧ 0 ≤ letters_6) ∧ σ' = [some (V.str exception_), some (.ref ps1), some (V.int letters_6), o7] ∧ Sg K Mc H H' [] [(ps1, .lst (List.map Datum.toD found_5))]) (fun Hs8 s8 => ⟨found_2, letters_4, _, rfl, (by first | trivial | omega | (simp; done) | simp_all), rfl, s8.keep fun _ h => True.intro⟩) (fun i12 x13 σ' Hs11 hi15 hP => ?_) (fun σ' Hs11 hP => ?_)
    · obtain ⟨found_5, letters_6, o7, he9, hg10, rfl, s11⟩ := hP
      have ox13 := chars_one hi15
      have qx13 := (List.getElem?_eq_some_iff.mp hi15).1
      refine z_if (b := (decide (x13 = (PySem.Str.ofString "-")))) s11 (ht_val (K := K) (hv_eqS (hv_vS rfl) (hv_str _))) (fun hb17 Hs18 s18 => ?_) (fun hb17 Hs19 s19 => ?_)
      · have hb17P := hb17
        try simp only [decide_eq_true_eq, decide_eq_false_iff_not, Bool.not_eq_true', Bool.not_eq_false', Bool.and_eq_true, Bool.or_eq_true, Bool.or_eq_false_iff] at hb17P
        refine zq_appG s18 (kk := 0) rfl (ev_var rfl) (hv_vI rfl) (by first | omega | decide +kernel | (simp only [List.length_cons, List.length_nil]; omega)) fun found_21 hfound_21 Hs20 s20 => ?_
        have lfound_21 : found_21.length = found_5.length + 1 := by rw [hfound_21, List.length_append]; rfl
        have s20 : Sg K Mc _ _ _ [(ps1, .lst (List.map Datum.toD found_21))] := s20
        have hf22 : m_hyphen_places_l0 (found_5, letters_6) x13 = (found_21, letters_6) := (by subst hfound_21; subst hletters_4; subst hfound_2; first | (simp only [m_hyphen_places_l0, hb17, if_true, if_false, Bool.false_eq_true, decide_true, decide_false, Option.getD_some, Option.isNone_none, Option.isNone_some, Bool.not_true, Bool.not_false, ↓reduceIte]; done) | (rfl; done) | (exfalso; simp at hb17; done))
        exact ⟨found_21, letters_6, _, he9.trans ((foldl_step hi15).trans (by rw [hf22])), (by first | trivial | omega | (simp_all; done) | (simp_all; omega)), rfl, s20.keep fun _ h => True.intro⟩
      · have hb17P := hb17
        try simp only [decide_eq_true_eq, decide_eq_false_iff_not, Bool.not_eq_true', Bool.not_eq_false', Bool.and_eq_true, Bool.or_eq_true, Bool.or_eq_false_iff] at hb17P
        refine z_augG (f := fun i j => i + j) s19 rfl (hv_int 1) fun letters_24 hletters_24 Hs23 s23 => ?_
        have hf25 : m_hyphen_places_l0 (found_5, letters_6) x13 = (found_5, letters_24) := (by subst hletters_24; subst hletters_4; subst hfound_2; first | (simp only [m_hyphen_places_l0, hb17, if_true, if_false, Bool.false_eq_true, decide_true, decide_false, Option.getD_some, Option.isNone_none, Option.isNone_some, Bool.not_true, Bool.not_false, ↓reduceIte]; done) | (rfl; done) | (exfalso; simp at hb17; done))
        exact ⟨found_5, letters_24, _, he9.trans ((foldl_step hi15).trans (by rw [hf25])), (by first | trivial | omega | (simp_all; done) | (simp_all; omega)), rfl, s23.keep fun _ h => True.intro⟩
    · obtain ⟨found_26, letters_27, o28, he30, hg31, rfl, s29⟩ := hP
      rw [foldl_end] at he30
      have s32 := Sg.frz (xs := found_26) s29
      have hF33 : m_hyphen_places exception_ = found_26 := (by subst hletters_4; subst hfound_2; first | (simp only [m_hyphen_places, he30, if_true, if_false, Bool.false_eq_true, decide_true, decide_false, Option.getD_some, Option.isNone_none, Option.isNone_some, Bool.not_true, Bool.not_false, ↓reduceIte]; done) | (rfl; done))
      exact zq_ret s32 (hv_var (x := found_26) rfl s32.im.1) fun v H' e d => q v H' e (by rw [hF33]; exact d)
def m_law_cell (script_ : (List Int)) (k_ : Int) : Int :=
  if (decide (k_ < ((script_).length : Int))) = true then
    (script_.getD (Int.toNat k_) 0)
  else
    (0 : Int)
abbrev s_law_cell : Stmt := topS 11
theorem sc_law_cell : FnScope ["script", "k"] ["script", "k"] (defScope s_law_cell) := ⟨rfl, rfl, rfl, by decide +kernel, rfl, by decide +kernel, by decide +kernel⟩
abbrev sp_law_cell (K : PySem.W.Frag) : Sp := PrD K (fun c : (List Int) × Int => [Datum.toD c.1, Datum.toD c.2]) (fun c => 0 ≤ c.2) (fun c => (m_law_cell c.1 c.2 : Int))
theorem ok_law_cell (T : Txt K mg) : FnOk P w K mg base CX0 1 T.f_law_cell T.d_law_cell ["script", "k"] (sp_law_cell K) := by
  refine T.u_law_cell.ok sc_law_cell (fun vs H Q E h => ?_) (fun cdv A outer s H vs Q E hr h => ?_)
  · obtain ⟨Mc, c, mok, da, pre, q⟩ := h
    exact (dpa_len da)
  · obtain ⟨Mc, c, mok, da, pre, q⟩ := h
    obtain ⟨script_, k_⟩ := c
    dsimp only at da pre q
    obtain ⟨v0, w0, rfl, d0, da0⟩ := dpa_inv da
    obtain ⟨v1, w1, rfl, d1, da1⟩ := dpa_inv da0
    cases dpa_inv0 da1
    cases (Dt.int d1)
    have s0 : Sg K Mc H H [(v0, Datum.toD script_)] [] := Sg.enter mok ⟨d0, True.intro⟩
    refine ⟨_, (pss_cons (ps_if (pt_cmpR op_lt (pv 1) (pe_callB call_len (by rfl) T.n_len (by decide +kernel) (pa_cons (pv 0) pa_nil)) (nomark _)) (pss_cons (ps_ret (pe_ix ix_list (pv 0) (pv 1) (fun _ _ => rfl))) pss_nil) pss_nil) (pss_cons (ps_ret pe_int) pss_nil)), ?_⟩
    refine z_ifx (b := (decide (k_ < ((script_).length : Int)))) s0 (ht_val (K := K) (hv_lt (hv_vI rfl) (hv_len (hs_of (hv_var (x := script_) rfl s0.im.1))))) (fun hb1 Hs2 s2 => ?_) (fun hb1 Hs3 s3 => ?_)
    · have hb1P := hb1
      try simp only [decide_eq_true_eq, decide_eq_false_iff_not, Bool.not_eq_true', Bool.not_eq_false', Bool.and_eq_true, Bool.or_eq_true, Bool.or_eq_false_iff] at hb1P
      have hF4 : m_law_cell script_ k_ = (script_.getD (Int.toNat k_) 0) := (by  first | (simp only [m_law_cell, hb1, if_true, if_false, Bool.false_eq_true, decide_true, decide_false, Option.getD_some, Option.isNone_none, Option.isNone_some, Bool.not_true, Bool.not_false, ↓reduceIte]; done) | (rfl; done) | (exfalso; simp at hb1; done))
      exact zq_ret s2 (hv_at 0 (hs_of (hv_var (x := script_) rfl s2.im.1)) (hv_vI rfl) (by first | omega | decide +kernel | (simp only [List.length_cons, List.length_nil]; omega)) (by first | omega | decide +kernel | (simp only [List.length_cons, List.length_nil]; omega))) fun v H' e d => q v H' e (by rw [hF4]; exact d)
    · have hb1P := hb1
      try simp only [decide_eq_true_eq, decide_eq_false_iff_not, Bool.not_eq_true', Bool.not_eq_false', Bool.and_eq_true, Bool.or_eq_true, Bool.or_eq_false_iff] at hb1P
      have hF5 : m_law_cell script_ k_ = (0 : Int) := (by  first | (simp only [m_law_cell, hb1, if_true, if_false, Bool.false_eq_true, decide_true, decide_false, Option.getD_some, Option.isNone_none, Option.isNone_some, Bool.not_true, Bool.not_false, ↓reduceIte]; done) | (rfl; done) | (exfalso; simp at hb1; done))
      exact zq_ret s3 (hv_int 0) fun v H' e d => q v H' e (by rw [hF5]; exact d)
def m_law_draws_l0 (is_wide_ : Bool) (s_ : (List Int) × Int) (x_ : Int) : (List Int) × Int :=
  let found_ : (List Int) := s_.1
  let cell_ : Int := s_.2
  let k_ : Int := x_
  if is_wide_ = true then
    let found_ : (List Int) := found_ ++ [(cell_ % (1009 : Int))]
    let cell_ : Int := (cell_ / (1009 : Int))
    (found_, cell_)
  else
    let mixed_ : Int := (((cell_ * (48271 : Int)) + (k_ * (69621 : Int))) % (2147483647 : Int))
    let found_ : (List Int) := found_ ++ [((((mixed_ * mixed_) + (cell_ * (31 : Int))) + k_) % (1000003 : Int))]
    (found_, cell_)
def m_law_draws (cell_ : Int) (count_ : Int) : (List Int) :=
  let found_ : (List Int) := []
  let is_wide_ : Bool := (decide ((1000000000000000000 : Int) ≤ cell_))
  let r0_ : (List Int) × Int := loopN (m_law_draws_l0 is_wide_) (Int.toNat count_) (0 : Int) (found_, cell_)
  let found_ : (List Int) := r0_.1
  let cell_ : Int := r0_.2
  found_
abbrev s_law_draws : Stmt := topS 12
theorem sc_law_draws : FnScope ["cell", "count", "found", "is_wide", "k", "mixed"] ["cell", "count"] (defScope s_law_draws) := ⟨rfl, rfl, rfl, by decide +kernel, rfl, by decide +kernel, by decide +kernel⟩
abbrev sp_law_draws (K : PySem.W.Frag) : Sp := PrD K (fun c : Int × Int => [Datum.toD c.1, Datum.toD c.2]) (fun c => 0 ≤ c.2 ∧ c.2 ≤ 1000) (fun c => (m_law_draws c.1 c.2 : (List Int)))
theorem ok_law_draws (T : Txt K mg) : FnOk P w K mg base CX0 1 T.f_law_draws T.d_law_draws ["cell", "count"] (sp_law_draws K) := by
  refine T.u_law_draws.ok sc_law_draws (fun vs H Q E h => ?_) (fun cdv A outer s H vs Q E hr h => ?_)
  · obtain ⟨Mc, c, mok, da, pre, q⟩ := h
    exact (dpa_len da)
  · obtain ⟨Mc, c, mok, da, pre, q⟩ := h
    obtain ⟨cell_, count_⟩ := c
    dsimp only at da pre q
    obtain ⟨v0, w0, rfl, d0, da0⟩ := dpa_inv da
    obtain ⟨v1, w1, rfl, d1, da1⟩ := dpa_inv da0
    cases dpa_inv0 da1
    cases (Dt.int d0)
    cases (Dt.int d1)
    have s0 : Sg K Mc H H [] [] := Sg.enter mok True.intro
    refine ⟨_, (pss_cons (ps_set (i := 2) sc_law_draws.nd rfl (.inl rfl) (pe_lst pa_nil)) (pss_cons (ps_set (i := 3) sc_law_draws.nd rfl (.inl rfl) (pe_cmpR op_ge (pv 0) (pe_op op_pow pe_int pe_int) (nomark _))) (pss_cons (ps_for PassesOwn.never rfl (pi_range1 (by rfl) T.n_range (pa_cons (pv 1) pa_nil)) (pg_name (i := 4) sc_law_draws.nd rfl (.inl rfl)) (pss_cons (ps_if (pt_val (pv 3)) (pss_cons (ps_expr (pe_bm PySem.F.plainAttrs_list PySem.F.slot_list_append PySem.F.type_list_append mt_append (pv 2) (pa_cons (pe_op op_mod (pe_callTy call_int1 (by rfl) T.n_int (by decide +kernel) (pa_cons (pv 0) pa_nil)) pe_int) pa_nil))) (pss_cons (ps_set (i := 0) sc_law_draws.nd rfl (.inl rfl) (pe_op op_fdivW (pv 0) pe_int)) pss_nil)) (pss_cons (ps_set (i := 5) sc_law_draws.nd rfl (.inl rfl) (pe_op op_mod (pe_callTy call_int1 (by rfl) T.n_int (by decide +kernel) (pa_cons (pe_op op_add (pe_op op_mul (pv 0) pe_int) (pe_op op_mul (pv 4) pe_int)) pa_nil)) pe_int)) (pss_cons (ps_expr (pe_bm PySem.F.plainAttrs_list PySem.F.slot_list_append PySem.F.type_list_append mt_append (pv 2) (pa_cons (pe_op op_mod (pe_callTy call_int1 (by rfl) T.n_int (by decide +kernel) (pa_cons (pe_op op_add (pe_op op_add (pe_op op_mul (pv 5) (pv 5)) (pe_op op_mul (pv 0) pe_int)) (pv 4)) pa_nil)) pe_int) pa_nil))) pss_nil))) pss_nil)) (pss_cons (ps_ret (pv 2)) pss_nil)))), ?_⟩
    refine z_nilG Int s0 fun found_2 hfound_2 ps1 Hs1 s1 => ?_
    have lfound_2 : found_2.length = 0 := by rw [hfound_2]; rfl
    refine z_asgBG s1 (hv_ge (hv_vI rfl) ((hv_pow (hv_int 10) (hv_int 18) ⟨by decide +kernel, by decide +kernel, by decide +kernel⟩).is (show _ = (1000000000000000000 : Int) by decide +kernel))) fun is_wide_4 his_wide_4 Hs3 s3 => ?_
    try dsimp only at his_wide_4
    refine zq_forR1G s3 (hv_vI rfl) (by first | omega | decide +kernel | (simp only [List.length_cons, List.length_nil]; omega)) (fun i σ' H' => ∃ (found_5 : (List Int)) (cell_6 : Int) (o7 : Option V) (o8 : Option V), (loopN (m_law_draws_l0 is_wide_4) (Int.toNat count_) (0 : Int) (found_2, cell_) : (List Int) × Int) = (loopN (m_law_draws_l0 is_wide_4) ((Int.toNat count_) - i) ((0 : Int) + (i : Int)) (found_5, cell_6) : (List Int) × Int) ∧ (found_5.length = (i)) ∧ σ' = [some (V.int cell_6), some (V.int count_), some (.ref ps1), some (V.bl is_wide_4), o7, o8] ∧ Sg K Mc H H' [] [(ps1, .lst (List.map Datum.toD found_5))]) (fun Hs9 s9 => ⟨found_2, cell_, _, _, (by simp), (by first | trivial | omega | (simp; done) | simp_all), rfl, s9.keep fun _ h => True.intro⟩) (fun i13 x14 σ' Hs12 hx15 hi16 hP => ?_) (fun σ' Hs12 hP => ?_)
    · obtain ⟨found_5, cell_6, o7, o8, he10, hg11, rfl, s12⟩ := hP
      refine z_if (b := is_wide_4) s12 (ht_B (K := K) (hv_vB rfl)) (fun hb18 Hs19 s19 => ?_) (fun hb18 Hs20 s20 => ?_)
      · have hb18P := hb18
        try simp only [decide_eq_true_eq, decide_eq_false_iff_not, Bool.not_eq_true', Bool.not_eq_false', Bool.and_eq_true, Bool.or_eq_true, Bool.or_eq_false_iff] at hb18P
        refine zq_appG s19 (kk := 0) rfl (ev_var rfl) (hv_mod (hv_intI (hv_vI rfl)) (hv_int 1009) (by first | omega | decide +kernel | (simp only [List.length_cons, List.length_nil]; omega))) (by first | omega | decide +kernel | (simp only [List.length_cons, List.length_nil]; omega)) fun found_22 hfound_22 Hs21 s21 => ?_
        have lfound_22 : found_22.length = found_5.length + 1 := by rw [hfound_22, List.length_append]; rfl
        have s21 : Sg K Mc _ _ _ [(ps1, .lst (List.map Datum.toD found_22))] := s21
        refine z_asgIG s21 (hv_div (hv_vI rfl) (hv_int 1009) (by exact ⟨by decide +kernel, by decide +kernel⟩)) fun cell_24 hcell_24 Hs23 s23 => ?_
        try dsimp only at hcell_24
        have hf25 : (m_law_draws_l0 is_wide_4) (found_5, cell_6) x14 = (found_22, cell_24) := (by subst hcell_24; subst hfound_22; subst his_wide_4; subst hfound_2; first | (simp only [m_law_draws_l0, hb18, if_true, if_false, Bool.false_eq_true, decide_true, decide_false, Option.getD_some, Option.isNone_none, Option.isNone_some, Bool.not_true, Bool.not_false, ↓reduceIte]; done) | (rfl; done) | (exfalso; simp at hb18; done))
        exact ⟨found_22, cell_24, _, _, he10.trans ((loopN_step hi16).trans (by rw [← hx15, hf25])), (by first | trivial | omega | (simp_all; done) | (simp_all; omega)), rfl, s23.keep fun _ h => True.intro⟩
      · have hb18P := hb18
        try simp only [decide_eq_true_eq, decide_eq_false_iff_not, Bool.not_eq_true', Bool.not_eq_false', Bool.and_eq_true, Bool.or_eq_true, Bool.or_eq_false_iff] at hb18P
        refine z_asgIG s20 (hv_mod (hv_intI (hv_add (hv_mul (hv_vI rfl) (hv_int 48271) (by first | exact Or.inr ⟨by omega, by omega⟩ | exact Or.inl ⟨by omega, by omega⟩)) (hv_mul (hv_vI rfl) (hv_int 69621) (by first | exact Or.inr ⟨by omega, by omega⟩ | exact Or.inl ⟨by omega, by omega⟩)))) (hv_int 2147483647) (by first | omega | decide +kernel | (simp only [List.length_cons, List.length_nil]; omega))) fun mixed_27 hmixed_27 Hs26 s26 => ?_
        try dsimp only at hmixed_27
        refine zq_appG s26 (kk := 0) rfl (ev_var rfl) (hv_mod (hv_intI (hv_add (hv_add (hv_mul (hv_vI rfl) (hv_vI rfl) (by first | exact Or.inr ⟨by omega, by omega⟩ | exact Or.inl ⟨by omega, by omega⟩)) (hv_mul (hv_vI rfl) (hv_int 31) (by first | exact Or.inr ⟨by omega, by omega⟩ | exact Or.inl ⟨by omega, by omega⟩))) (hv_vI rfl))) (hv_int 1000003) (by first | omega | decide +kernel | (simp only [List.length_cons, List.length_nil]; omega))) (by first | omega | decide +kernel | (simp only [List.length_cons, List.length_nil]; omega)) fun found_29 hfound_29 Hs28 s28 => ?_
        have lfound_29 : found_29.length = found_5.length + 1 := by rw [hfound_29, List.length_append]; rfl
        have s28 : Sg K Mc _ _ _ [(ps1, .lst (List.map Datum.toD found_29))] := s28
        have hf30 : (m_law_draws_l0 is_wide_4) (found_5, cell_6) x14 = (found_29, cell_6) := (by subst hfound_29; subst hmixed_27; subst his_wide_4; subst hfound_2; first | (simp only [m_law_draws_l0, hb18, if_true, if_false, Bool.false_eq_true, decide_true, decide_false, Option.getD_some, Option.isNone_none, Option.isNone_some, Bool.not_true, Bool.not_false, ↓reduceIte]; done) | (rfl; done) | (exfalso; simp at hb18; done))
        exact ⟨found_29, cell_6, _, _, he10.trans ((loopN_step hi16).trans (by rw [← hx15, hf30])), (by first | trivial | omega | (simp_all; done) | (simp_all; omega)), rfl, s28.keep fun _ h => True.intro⟩
    · obtain ⟨found_31, cell_32, o33, o34, he36, hg37, rfl, s35⟩ := hP
      rw [loopN_end] at he36
      have s38 := Sg.frz (xs := found_31) s35
      have hF39 : m_law_draws cell_ count_ = found_31 := (by subst his_wide_4; subst hfound_2; first | (simp only [m_law_draws, he36, if_true, if_false, Bool.false_eq_true, decide_true, decide_false, Option.getD_some, Option.isNone_none, Option.isNone_some, Bool.not_true, Bool.not_false, ↓reduceIte]; done) | (rfl; done))
      exact zq_ret s38 (hv_var (x := found_31) rfl s38.im.1) fun v H' e d => q v H' e (by rw [hF39]; exact d)

theorem draws_len (c n : Int) : (m_law_draws c n).length = n.toNat := by
  have key := loopN_keep (f := m_law_draws_l0 (decide ((1000000000000000000 : Int) ≤ c))) (fun s j => s.1.length = j) (fun s k j h => by
    unfold m_law_draws_l0
    dsimp only
    split <;> (rw [List.length_append, h]; rfl)) n.toNat 0 ([], c) 0 rfl
  simpa [m_law_draws] using key

def m_law_is_pattern_l0  (s_ : Unit) (x_ : PySem.Str) : Lp Bool (Unit) :=
  let sign_ : PySem.Str := x_
  if (inStr sign_ (PySem.Str.ofString "0123456789.")) = true then
    Lp.ret true
  else
    Lp.nxt ()
def m_law_is_pattern (text_ : PySem.Str) : Bool :=
  match (loopL m_law_is_pattern_l0 (chars text_) () : Bool ⊕ (Unit)) with
  | .inl rr_ => rr_
  | .inr r0_ =>
    false
abbrev s_law_is_pattern : Stmt := topS 17
theorem sc_law_is_pattern : FnScope ["text", "sign"] ["text"] (defScope s_law_is_pattern) := ⟨rfl, rfl, rfl, by decide +kernel, rfl, by decide +kernel, by decide +kernel⟩
abbrev sp_law_is_pattern (K : PySem.W.Frag) : Sp := PrD K (fun c : PySem.Str => [Datum.toD c]) (fun c => True) (fun c => (m_law_is_pattern c : Bool))
theorem ok_law_is_pattern (T : Txt K mg) : FnOk P w K mg base CX0 1 T.f_law_is_pattern T.d_law_is_pattern ["text"] (sp_law_is_pattern K) := by
  refine T.u_law_is_pattern.ok sc_law_is_pattern (fun vs H Q E h => ?_) (fun cdv A outer s H vs Q E hr h => ?_)
  · obtain ⟨Mc, c, mok, da, pre, q⟩ := h
    exact (dpa_len da)
  · obtain ⟨Mc, c, mok, da, pre, q⟩ := h
    obtain ⟨text_, rfl⟩ : ∃ z, z = c := ⟨c, rfl⟩
    dsimp only at da pre q
    obtain ⟨v0, w0, rfl, d0, da0⟩ := dpa_inv da
    cases dpa_inv0 da0
    cases (Dt.str d0)
    have s0 : Sg K Mc H H [] [] := Sg.enter mok True.intro
    have hchl := chars_len text_
    refine ⟨_, (pss_cons (ps_for PassesOwn.never rfl (pi_str (pv 0)) (pg_name (i := 1) sc_law_is_pattern.nd rfl (.inl rfl)) (pss_cons (ps_if (pt_cmpR op_in_str (pv 1) pe_str (by rfl)) (pss_cons (ps_ret pe_bl) pss_nil) pss_nil) pss_nil)) (pss_cons (ps_ret pe_bl) pss_nil)), ?_⟩
    refine zq_forS s0 (hv_vS rfl) (fun i σ' H' => ∃ (o1 : Option V), (loopL m_law_is_pattern_l0 (chars text_) () : Bool ⊕ (Unit)) = (loopL m_law_is_pattern_l0 (List.drop i (chars text_)) () : Bool ⊕ (Unit)) ∧ True ∧ σ' = [some (V.str text_), o1] ∧ Sg K Mc H H' [] []) (fun Hs2 s2 => ⟨_, rfl, (by first | trivial | omega | (simp; done) | simp_all), rfl, s2.keep fun _ h => True.intro⟩) (fun i6 x7 σ' Hs5 hi9 hP => ?_) (fun σ' Hs5 hP => ?_)
    · obtain ⟨o1, he3, hg4, rfl, s5⟩ := hP
      have ox7 := chars_one hi9
      have qx7 := (List.getElem?_eq_some_iff.mp hi9).1
      refine z_ifx (b := (inStr x7 (PySem.Str.ofString "0123456789."))) s5 (ht_val (K := K) (hv_inStr (hv_vS rfl) (hv_str _))) (fun hb11 Hs12 s12 => ?_) (fun hb11 Hs13 s13 => ?_)
      · have hb11P := hb11
        try simp only [decide_eq_true_eq, decide_eq_false_iff_not, Bool.not_eq_true', Bool.not_eq_false', Bool.and_eq_true, Bool.or_eq_true, Bool.or_eq_false_iff] at hb11P
        have hf14 : m_law_is_pattern_l0 () x7 = Lp.ret true := (by  first | (simp only [m_law_is_pattern_l0, hb11, if_true, if_false, Bool.false_eq_true, decide_true, decide_false, Option.getD_some, Option.isNone_none, Option.isNone_some, Bool.not_true, Bool.not_false, ↓reduceIte]; done) | (rfl; done) | (exfalso; simp at hb11; done))
        have hl15 := he3.trans (loopL_ret hi9 hf14)
        have hF16 : m_law_is_pattern text_ = true := (by  first | (simp only [m_law_is_pattern, hb11, hl15, if_true, if_false, Bool.false_eq_true, decide_true, decide_false, Option.getD_some, Option.isNone_none, Option.isNone_some, Bool.not_true, Bool.not_false, ↓reduceIte]; done) | (rfl; done) | (exfalso; simp at hb11; done))
        exact zq_ret s12 (hv_bl true) fun v H' e d => q v H' e (by rw [hF16]; exact d)
      · have hb11P := hb11
        try simp only [decide_eq_true_eq, decide_eq_false_iff_not, Bool.not_eq_true', Bool.not_eq_false', Bool.and_eq_true, Bool.or_eq_true, Bool.or_eq_false_iff] at hb11P
        have hf17 : m_law_is_pattern_l0 () x7 = Lp.nxt () := (by  first | (simp only [m_law_is_pattern_l0, hb11, if_true, if_false, Bool.false_eq_true, decide_true, decide_false, Option.getD_some, Option.isNone_none, Option.isNone_some, Bool.not_true, Bool.not_false, ↓reduceIte]; done) | (rfl; done) | (exfalso; simp at hb11; done))
        exact ⟨_, he3.trans (loopL_nxt hi9 hf17), (by first | trivial | omega | (simp_all; done) | (simp_all; omega)), rfl, s13.keep fun _ h => True.intro⟩
    · obtain ⟨o18, he20, hg21, rfl, s19⟩ := hP
      rw [loopL_end] at he20
      have hF22 : m_law_is_pattern text_ = false := (by  first | (simp only [m_law_is_pattern, he20, if_true, if_false, Bool.false_eq_true, decide_true, decide_false, Option.getD_some, Option.isNone_none, Option.isNone_some, Bool.not_true, Bool.not_false, ↓reduceIte]; done) | (rfl; done))
      exact zq_ret s19 (hv_bl false) fun v H' e d => q v H' e (by rw [hF22]; exact d)
def m_law_level_l1  (s_ : (List Int) × PySem.Str) (x_ : PySem.Str) : (List Int) × PySem.Str :=
  let given_ : (List Int) := s_.1
  let signs_ : PySem.Str := s_.2
  let sign_ : PySem.Str := x_
  if (inStr sign_ (PySem.Str.ofString "0123456789")) = true then
    let given_ : (List Int) := (List.set given_ (Int.toNat ((Str.length signs_ : Nat) : Int)) (Option.getD (PySem.intText? sign_) 0))
    (given_, signs_)
  else
    let signs_ : PySem.Str := (signs_ ++ sign_)
    let given_ : (List Int) := given_ ++ [(0 : Int)]
    (given_, signs_)
def m_law_level_l2 (place_ : Int) (signs_ : PySem.Str) (dotted_ : PySem.Str) (given_ : (List Int)) (s_ : Int) (x_ : Int) : Int :=
  let best_ : Int := s_
  let k_ : Int := x_
  let start_ : Int := ((place_ + (1 : Int)) - k_)
  if ((decide ((0 : Int) ≤ start_)) && (decide ((cutS dotted_ (some start_) (some (start_ + ((Str.length signs_ : Nat) : Int)))) = signs_))) = true then
    let best_ : Int := (max best_ (given_.getD (Int.toNat k_) 0))
    best_
  else
    best_
def m_law_level_l0 (place_ : Int) (dotted_ : PySem.Str) (s_ : Int) (x_ : PySem.Str) : Int :=
  let best_ : Int := s_
  let text_ : PySem.Str := x_
  let signs_ : PySem.Str := (PySem.Str.ofString "")
  let given_ : (List Int) := [(0 : Int)]
  let r1_ : (List Int) × PySem.Str := List.foldl m_law_level_l1 (given_, signs_) (chars (Txt.lower text_))
  let given_ : (List Int) := r1_.1
  let signs_ : PySem.Str := r1_.2
  let r2_ : Int := loopN (m_law_level_l2 place_ signs_ dotted_ given_) (Int.toNat ((given_).length : Int)) (0 : Int) best_
  let best_ : Int := r2_
  best_
def m_law_level (entries_ : (List PySem.Str)) (word_ : PySem.Str) (place_ : Int) : Int :=
  let dotted_ : PySem.Str := (((PySem.Str.ofString ".") ++ word_) ++ (PySem.Str.ofString "."))
  let best_ : Int := (0 : Int)
  let r0_ : Int := List.foldl (m_law_level_l0 place_ dotted_) best_ entries_
  let best_ : Int := r0_
  best_
abbrev s_law_level : Stmt := topS 18
theorem sc_law_level : FnScope ["entries", "word", "place", "dotted", "best", "text", "signs", "given", "sign", "k", "start"] ["entries", "word", "place"] (defScope s_law_level) := ⟨rfl, rfl, rfl, by decide +kernel, rfl, by decide +kernel, by decide +kernel⟩
abbrev sp_law_level (K : PySem.W.Frag) : Sp := PrD K (fun c : (List PySem.Str) × PySem.Str × Int => [Datum.toD c.1, Datum.toD c.2.1, Datum.toD c.2.2]) (fun c => c.2.1.length ≤ 80 ∧ c.1.length ≤ 20 ∧ (∀ e ∈ c.1, e.length ≤ 24) ∧ -100 ≤ c.2.2 ∧ c.2.2 ≤ 100) (fun c => (m_law_level c.1 c.2.1 c.2.2 : Int))
theorem ok_law_level (T : Txt K mg) : FnOk P w K mg base CX0 1 T.f_law_level T.d_law_level ["entries", "word", "place"] (sp_law_level K) := by
  refine T.u_law_level.ok sc_law_level (fun vs H Q E h => ?_) (fun cdv A outer s H vs Q E hr h => ?_)
  · obtain ⟨Mc, c, mok, da, pre, q⟩ := h
    exact (dpa_len da)
  · obtain ⟨Mc, c, mok, da, pre, q⟩ := h
    obtain ⟨entries_, word_, place_⟩ := c
    dsimp only at da pre q
    obtain ⟨v0, w0, rfl, d0, da0⟩ := dpa_inv da
    obtain ⟨v1, w1, rfl, d1, da1⟩ := dpa_inv da0
    obtain ⟨v2, w2, rfl, d2, da2⟩ := dpa_inv da1
    cases dpa_inv0 da2
    cases (Dt.str d1)
    cases (Dt.int d2)
    have s0 : Sg K Mc H H [(v0, Datum.toD entries_)] [] := Sg.enter mok ⟨d0, True.intro⟩
    refine ⟨_, (pss_cons (ps_set (i := 3) sc_law_level.nd rfl (.inl rfl) (pe_op op_add_str (pe_op op_add_str pe_str (pv 1)) pe_str)) (pss_cons (ps_set (i := 4) sc_law_level.nd rfl (.inl rfl) pe_int) (pss_cons (ps_for PassesOwn.never rfl (pi_list (pv 0)) (pg_name (i := 5) sc_law_level.nd rfl (.inl rfl)) (pss_cons (ps_set (i := 6) sc_law_level.nd rfl (.inl rfl) pe_str) (pss_cons (ps_set (i := 7) sc_law_level.nd rfl (.inl rfl) (pe_lst (pa_cons pe_int pa_nil))) (pss_cons (ps_for PassesOwn.never rfl (pi_str (pe_lower (pv 5))) (pg_name (i := 8) sc_law_level.nd rfl (.inl rfl)) (pss_cons (ps_if (pt_cmpR op_in_str (pv 8) pe_str (by rfl)) (pss_cons (ps_asg (pe_callTy call_int_str (by rfl) T.n_int (by decide +kernel) (pa_cons (pv 8) pa_nil)) (pg_sub (pv 7) (pe_callB call_len (by rfl) T.n_len (by decide +kernel) (pa_cons (pv 6) pa_nil)) set_list)) pss_nil) (pss_cons (ps_set (i := 6) sc_law_level.nd rfl (.inl rfl) (pe_op op_add_str (pv 6) (pv 8))) (pss_cons (ps_expr (pe_bm PySem.F.plainAttrs_list PySem.F.slot_list_append PySem.F.type_list_append mt_append (pv 7) (pa_cons pe_int pa_nil))) pss_nil))) pss_nil)) (pss_cons (ps_for PassesOwn.never rfl (pi_range1 (by rfl) T.n_range (pa_cons (pe_callB call_len (by rfl) T.n_len (by decide +kernel) (pa_cons (pv 7) pa_nil)) pa_nil)) (pg_name (i := 9) sc_law_level.nd rfl (.inl rfl)) (pss_cons (ps_set (i := 10) sc_law_level.nd rfl (.inl rfl) (pe_op op_sub (pe_op op_add (pv 2) pe_int) (pv 9))) (pss_cons (ps_if (PW.pt (pw_and (pt_cmpR op_ge (pv 10) pe_int (nomark _)) (pw_and1 (pt_cmpR op_eq (pe_slice sl_str (pv 3) (po_some (pv 10)) (po_some (pe_op op_add (pv 10) (pe_callB call_len (by rfl) T.n_len (by decide +kernel) (pa_cons (pv 6) pa_nil))))) (pv 6) (nomark _))))) (pss_cons (ps_set (i := 4) sc_law_level.nd rfl (.inl rfl) (pe_callB (call_max2 rfl) (by rfl) T.n_max (by decide +kernel) (pa_cons (pv 4) (pa_cons (pe_ix ix_list (pv 7) (pv 9) (fun _ _ => rfl)) pa_nil)))) pss_nil) pss_nil) pss_nil))) pss_nil))))) (pss_cons (ps_ret (pv 4)) pss_nil)))), ?_⟩
    refine z_asgSG s0 (hv_addS (hv_addS (hv_str _) (hv_vS rfl) (by have := l_dot; have := l_emp; have := l_abcB; have := l_dash; first | omega | (simp only [str_len_app, mulS_len, strAt_len]; omega))) (hv_str _) (by have := l_dot; have := l_emp; have := l_abcB; have := l_dash; first | omega | (simp only [str_len_app, mulS_len, strAt_len]; omega))) fun dotted_2 hdotted_2 Hs1 s1 => ?_
    try dsimp only at hdotted_2
    have ltdotted_2 : dotted_2.length = _ := (congrArg Str.length hdotted_2).trans (str_len_app _ _)
    try simp only [str_len_app, strAt_len] at ltdotted_2
    have lddotted_2 : dotted_2.length = word_.length + 2 := by rw [hdotted_2, str_len_app, str_len_app, l_dot]; omega
    refine z_asgIG s1 (hv_int 0) fun best_4 hbest_4 Hs3 s3 => ?_
    try dsimp only at hbest_4
    refine zq_forG s3 (hv_var (x := entries_) rfl s3.im.1) (fun vsrc0 i σ' H' => ∃ (best_5 : Int) (o6 : Option V) (o7 : Option V) (o8 : Option V) (o9 : Option V) (o10 : Option V) (o11 : Option V), (List.foldl (m_law_level_l0 place_ dotted_2) best_4 entries_ : Int) = (List.foldl (m_law_level_l0 place_ dotted_2) best_5 (List.drop i entries_) : Int) ∧ True ∧ σ' = [some v0, some (V.str word_), some (V.int place_), some (V.str dotted_2), some (V.int best_5), o6, o7, o8, o9, o10, o11] ∧ Sg K Mc H H' [(vsrc0, Datum.toD entries_), (v0, Datum.toD entries_)] []) (fun vsrc0 Hs12 s12 => ⟨best_4, _, _, _, _, _, _, rfl, (by first | trivial | omega | (simp; done) | simp_all), rfl, s12.keep fun _ h => ⟨h.1, ⟨h.2.1, True.intro⟩⟩⟩) (fun vsrc0 i σ' H' hP => by obtain ⟨best_5, o6, o7, o8, o9, o10, o11, he, hg, hs, hS⟩ := hP; exact hS.im.1) (fun vsrc0 i16 x17 wx17 σ' Hs15 hi19 hP hx18 => ?_) (fun vsrc0 σ' Hs15 hP => ?_)
    · obtain ⟨best_5, o6, o7, o8, o9, o10, o11, he13, hg14, rfl, s15⟩ := hP
      cases (Dt.str hx18)
      have hent := pre.2.2.1 _ (List.mem_of_getElem? hi19)
      have hlow := PyProof.Rows.len_lower x17
      have hchl := chars_len (Txt.lower x17)
      refine z_asgSG s15 (hv_str _) fun signs_22 hsigns_22 Hs21 s21 => ?_
      try dsimp only at hsigns_22
      refine z_freshG s21 (hf_lst (has_cons (hv_int 0) has_nil) (Nat.le_of_ble_eq_true rfl)) fun given_24 hgiven_24 ps23 Hs23 s23 => ?_
      try dsimp only at hgiven_24
      have lgiven_24 := congrArg List.length hgiven_24
      try simp only [List.length_map, irng_len, List.length_flatten, List.map_replicate, List.sum_replicate_nat, List.length_cons, List.length_nil] at lgiven_24
      refine zq_forS s23 (hv_lower (hv_vS rfl) (by have := l_dot; have := l_emp; have := l_abcB; have := l_dash; first | omega | (simp only [str_len_app, mulS_len, strAt_len]; omega))) (fun i σ' H' => ∃ (given_25 : (List Int)) (signs_26 : PySem.Str) (o27 : Option V) (o28 : Option V) (o29 : Option V), (List.foldl m_law_level_l1 (given_24, signs_22) (chars (Txt.lower x17)) : (List Int) × PySem.Str) = (List.foldl m_law_level_l1 (given_25, signs_26) (List.drop i (chars (Txt.lower x17))) : (List Int) × PySem.Str) ∧ (given_25.length = signs_26.length + 1 ∧ signs_26.length ≤ (i)) ∧ σ' = [some v0, some (V.str word_), some (V.int place_), some (V.str dotted_2), some (V.int best_5), some (V.str x17), some (V.str signs_26), some (.ref ps23), o27, o28, o29] ∧ Sg K Mc H H' [(vsrc0, Datum.toD entries_), (v0, Datum.toD entries_)] [(ps23, .lst (List.map Datum.toD given_25))]) (fun Hs30 s30 => ⟨given_24, signs_22, _, _, _, rfl, (by subst_vars; exact ⟨by rw [l_emp]; rfl, by rw [l_emp]; exact Nat.le_refl _⟩), rfl, s30.keep fun _ h => ⟨h.1, ⟨h.2.1, True.intro⟩⟩⟩) (fun i34 x35 σ' Hs33 hi37 hP => ?_) (fun σ' Hs33 hP => ?_)
      · obtain ⟨given_25, signs_26, o27, o28, o29, he31, hg32, rfl, s33⟩ := hP
        have ox35 := chars_one hi37
        have qx35 := (List.getElem?_eq_some_iff.mp hi37).1
        refine z_if (b := (inStr x35 (PySem.Str.ofString "0123456789"))) s33 (ht_val (K := K) (hv_inStr (hv_vS rfl) (hv_str _))) (fun hb39 Hs40 s40 => ?_) (fun hb39 Hs41 s41 => ?_)
        · have hb39P := hb39
          try simp only [decide_eq_true_eq, decide_eq_false_iff_not, Bool.not_eq_true', Bool.not_eq_false', Bool.and_eq_true, Bool.or_eq_true, Bool.or_eq_false_iff] at hb39P
          refine z_setG s40 (kk := 0) rfl (hv_intS (hv_vS rfl) (by exact int_sign ‹_› ‹_›) (by have := l_dot; have := l_emp; have := l_abcB; have := l_dash; first | omega | (simp only [str_len_app, mulS_len, strAt_len]; omega))) (ev_var rfl) (hv_lenS (hv_vS rfl) (by have := l_dot; have := l_emp; have := l_abcB; have := l_dash; first | omega | (simp only [str_len_app, mulS_len, strAt_len]; omega))) (by first | omega | decide +kernel | (simp only [List.length_cons, List.length_nil]; omega)) (by first | omega | decide +kernel | (simp only [List.length_cons, List.length_nil]; omega)) fun given_43 hgiven_43 Hs42 s42 => ?_
          try dsimp only at hgiven_43
          have lgiven_43 : given_43.length = given_25.length := by rw [hgiven_43, List.length_set]
          have s42 : Sg K Mc _ _ _ [(ps23, .lst (List.map Datum.toD given_43))] := s42
          have hf44 : m_law_level_l1 (given_25, signs_26) x35 = (given_43, signs_26) := (by subst hgiven_43; subst hgiven_24; subst hsigns_22; subst hbest_4; subst hdotted_2; first | (simp only [m_law_level_l1, hb39, if_true, if_false, Bool.false_eq_true, decide_true, decide_false, Option.getD_some, Option.isNone_none, Option.isNone_some, Bool.not_true, Bool.not_false, ↓reduceIte]; done) | (rfl; done) | (exfalso; simp at hb39; done))
          exact ⟨given_43, signs_26, _, _, _, he31.trans ((foldl_step hi37).trans (by rw [hf44])), (by first | trivial | omega | (simp_all; done) | (simp_all; omega)), rfl, s42.keep fun _ h => ⟨h.1, ⟨h.2.1, True.intro⟩⟩⟩
        · have hb39P := hb39
          try simp only [decide_eq_true_eq, decide_eq_false_iff_not, Bool.not_eq_true', Bool.not_eq_false', Bool.and_eq_true, Bool.or_eq_true, Bool.or_eq_false_iff] at hb39P
          refine z_asgSG s41 (hv_addS (hv_vS rfl) (hv_vS rfl) (by have := l_dot; have := l_emp; have := l_abcB; have := l_dash; first | omega | (simp only [str_len_app, mulS_len, strAt_len]; omega))) fun signs_46 hsigns_46 Hs45 s45 => ?_
          try dsimp only at hsigns_46
          have ltsigns_46 : signs_46.length = _ := (congrArg Str.length hsigns_46).trans (str_len_app _ _)
          try simp only [str_len_app, strAt_len] at ltsigns_46
          refine zq_appG s45 (kk := 0) rfl (ev_var rfl) (hv_int 0) (by first | omega | decide +kernel | (simp only [List.length_cons, List.length_nil]; omega)) fun given_48 hgiven_48 Hs47 s47 => ?_
          have lgiven_48 : given_48.length = given_25.length + 1 := by rw [hgiven_48, List.length_append]; rfl
          have s47 : Sg K Mc _ _ _ [(ps23, .lst (List.map Datum.toD given_48))] := s47
          have hf49 : m_law_level_l1 (given_25, signs_26) x35 = (given_48, signs_46) := (by subst hgiven_48; subst hsigns_46; subst hgiven_24; subst hsigns_22; subst hbest_4; subst hdotted_2; first | (simp only [m_law_level_l1, hb39, if_true, if_false, Bool.false_eq_true, decide_true, decide_false, Option.getD_some, Option.isNone_none, Option.isNone_some, Bool.not_true, Bool.not_false, ↓reduceIte]; done) | (rfl; done) | (exfalso; simp at hb39; done))
          exact ⟨given_48, signs_46, _, _, _, he31.trans ((foldl_step hi37).trans (by rw [hf49])), (by first | trivial | omega | (simp_all; done) | (simp_all; omega)), rfl, s47.keep fun _ h => ⟨h.1, ⟨h.2.1, True.intro⟩⟩⟩
      · obtain ⟨given_50, signs_51, o52, o53, o54, he56, hg57, rfl, s55⟩ := hP
        rw [foldl_end] at he56
        have s58 := Sg.frz (xs := given_50) s55
        refine zq_forR1G s58 (hv_len (hs_of (hv_var (x := given_50) rfl s58.im.1))) (by first | omega | decide +kernel | (simp only [List.length_cons, List.length_nil]; omega)) (fun i σ' H' => ∃ (best_59 : Int) (o60 : Option V) (o61 : Option V) (o62 : Option V), (loopN (m_law_level_l2 place_ signs_51 dotted_2 given_50) (Int.toNat ((given_50).length : Int)) (0 : Int) best_5 : Int) = (loopN (m_law_level_l2 place_ signs_51 dotted_2 given_50) ((Int.toNat ((given_50).length : Int)) - i) ((0 : Int) + (i : Int)) best_59 : Int) ∧ True ∧ σ' = [some v0, some (V.str word_), some (V.int place_), some (V.str dotted_2), some (V.int best_59), some (V.str x17), some (V.str signs_51), some (V.ref ps23), o60, o61, o62] ∧ Sg K Mc H H' [((V.ref ps23), Datum.toD given_50), (vsrc0, Datum.toD entries_), (v0, Datum.toD entries_)] []) (fun Hs63 s63 => ⟨best_5, _, _, _, (by simp), (by first | trivial | omega | (simp; done) | simp_all), rfl, s63.keep fun _ h => ⟨h.1, ⟨h.2.1, ⟨h.2.2.1, True.intro⟩⟩⟩⟩) (fun i67 x68 σ' Hs66 hx69 hi70 hP => ?_) (fun σ' Hs66 hP => ?_)
        · obtain ⟨best_59, o60, o61, o62, he64, hg65, rfl, s66⟩ := hP
          refine z_asgIG s66 (hv_sub (hv_add (hv_vI rfl) (hv_int 1)) (hv_vI rfl)) fun start_73 hstart_73 Hs72 s72 => ?_
          try dsimp only at hstart_73
          refine z_ifx (b := ((decide ((0 : Int) ≤ start_73)) && (decide ((cutS dotted_2 (some start_73) (some (start_73 + ((Str.length signs_51 : Nat) : Int)))) = signs_51)))) s72 (ht_and (ht_val (K := K) (hv_ge (hv_vI rfl) (hv_int 0))) (fun hb0 => (ht_val (K := K) (hv_eqS (hv_sliceS (hv_vS rfl) (ho_some (K := K) (hv_vI rfl)) (ho_some (K := K) (hv_add (hv_vI rfl) (hv_lenS (hv_vS rfl) (by have := l_dot; have := l_emp; have := l_abcB; have := l_dash; first | omega | (simp only [str_len_app, mulS_len, strAt_len]; omega))))) (by have := l_dot; have := l_emp; have := l_abcB; have := l_dash; first | omega | (simp only [str_len_app, mulS_len, strAt_len]; omega))) (hv_vS rfl))))) (fun hb74 Hs75 s75 => ?_) (fun hb74 Hs76 s76 => ?_)
          · have hb74P := hb74
            try simp only [decide_eq_true_eq, decide_eq_false_iff_not, Bool.not_eq_true', Bool.not_eq_false', Bool.and_eq_true, Bool.or_eq_true, Bool.or_eq_false_iff] at hb74P
            refine z_asgIG s75 (hv_max2 (hv_vI rfl) (hv_at 0 (hs_of (hv_var (x := given_50) rfl s75.im.1)) (hv_vI rfl) (by first | omega | decide +kernel | (simp only [List.length_cons, List.length_nil]; omega)) (by first | omega | decide +kernel | (simp only [List.length_cons, List.length_nil]; omega)))) fun best_78 hbest_78 Hs77 s77 => ?_
            try dsimp only at hbest_78
            have hf79 : (m_law_level_l2 place_ signs_51 dotted_2 given_50) best_59 x68 = best_78 := (by subst hbest_78; subst hstart_73; subst hgiven_24; subst hsigns_22; subst hbest_4; subst hdotted_2; first | (simp only [m_law_level_l2, he56, hb74, if_true, if_false, Bool.false_eq_true, decide_true, decide_false, Option.getD_some, Option.isNone_none, Option.isNone_some, Bool.not_true, Bool.not_false, ↓reduceIte]; done) | (rfl; done) | (exfalso; simp at hb74; done))
            exact ⟨best_78, _, _, _, he64.trans ((loopN_step hi70).trans (by rw [← hx69, hf79])), (by first | trivial | omega | (simp_all; done) | (simp_all; omega)), rfl, s77.keep fun _ h => ⟨h.1, ⟨h.2.1, ⟨h.2.2.1, True.intro⟩⟩⟩⟩
          · have hb74P := hb74
            try simp only [decide_eq_true_eq, decide_eq_false_iff_not, Bool.not_eq_true', Bool.not_eq_false', Bool.and_eq_true, Bool.or_eq_true, Bool.or_eq_false_iff] at hb74P
            have hf80 : (m_law_level_l2 place_ signs_51 dotted_2 given_50) best_59 x68 = best_59 := (by subst hstart_73; subst hgiven_24; subst hsigns_22; subst hbest_4; subst hdotted_2; first | (simp only [m_law_level_l2, he56, hb74, if_true, if_false, Bool.false_eq_true, decide_true, decide_false, Option.getD_some, Option.isNone_none, Option.isNone_some, Bool.not_true, Bool.not_false, ↓reduceIte]; done) | (rfl; done) | (exfalso; simp at hb74; done))
            exact ⟨best_59, _, _, _, he64.trans ((loopN_step hi70).trans (by rw [← hx69, hf80])), (by first | trivial | omega | (simp_all; done) | (simp_all; omega)), rfl, s76.keep fun _ h => ⟨h.1, ⟨h.2.1, ⟨h.2.2.1, True.intro⟩⟩⟩⟩
        · obtain ⟨best_81, o82, o83, o84, he86, hg87, rfl, s85⟩ := hP
          rw [loopN_end] at he86
          have hf88 : (m_law_level_l0 place_ dotted_2) best_5 x17 = best_81 := (by subst hgiven_24; subst hsigns_22; subst hbest_4; subst hdotted_2; first | (simp only [m_law_level_l0, he56, he86, if_true, if_false, Bool.false_eq_true, decide_true, decide_false, Option.getD_some, Option.isNone_none, Option.isNone_some, Bool.not_true, Bool.not_false, ↓reduceIte]; done) | (rfl; done))
          exact ⟨best_81, _, _, _, _, _, _, he13.trans ((foldl_step hi19).trans (by rw [hf88])), (by first | trivial | omega | (simp_all; done) | (simp_all; omega)), rfl, s85.keep fun _ h => ⟨h.2.1, ⟨h.2.2.1, True.intro⟩⟩⟩
    · obtain ⟨best_89, o90, o91, o92, o93, o94, o95, he97, hg98, rfl, s96⟩ := hP
      rw [foldl_end] at he97
      have hF99 : m_law_level entries_ word_ place_ = best_89 := (by subst hbest_4; subst hdotted_2; first | (simp only [m_law_level, he97, if_true, if_false, Bool.false_eq_true, decide_true, decide_false, Option.getD_some, Option.isNone_none, Option.isNone_some, Bool.not_true, Bool.not_false, ↓reduceIte]; done) | (rfl; done))
      exact zq_ret s96 (hv_vI rfl) fun v H' e d => q v H' e (by rw [hF99]; exact d)
def m_law_same_l0 (actual_ : (List Int)) (expected_ : (List Int)) (s_ : Unit) (x_ : Int) : Lp Bool (Unit) :=
  let k_ : Int := x_
  if (!decide ((actual_.getD (Int.toNat k_) 0) = (expected_.getD (Int.toNat k_) 0))) = true then
    Lp.ret false
  else
    Lp.nxt ()
def m_law_same (actual_ : (List Int)) (expected_ : (List Int)) : Bool :=
  if (!decide (((actual_).length : Int) = ((expected_).length : Int))) = true then
    false
  else
    match (loopNR (m_law_same_l0 actual_ expected_) (Int.toNat ((expected_).length : Int)) (0 : Int) () : Bool ⊕ (Unit)) with
    | .inl rr_ => rr_
    | .inr r0_ =>
      true
abbrev s_law_same : Stmt := topS 20
theorem sc_law_same : FnScope ["actual", "expected", "k"] ["actual", "expected"] (defScope s_law_same) := ⟨rfl, rfl, rfl, by decide +kernel, rfl, by decide +kernel, by decide +kernel⟩
abbrev sp_law_same (K : PySem.W.Frag) : Sp := PrD K (fun c : (List Int) × (List Int) => [Datum.toD c.1, Datum.toD c.2]) (fun c => c.2.length ≤ 1000) (fun c => (m_law_same c.1 c.2 : Bool))
theorem ok_law_same (T : Txt K mg) : FnOk P w K mg base CX0 1 T.f_law_same T.d_law_same ["actual", "expected"] (sp_law_same K) := by
  refine T.u_law_same.ok sc_law_same (fun vs H Q E h => ?_) (fun cdv A outer s H vs Q E hr h => ?_)
  · obtain ⟨Mc, c, mok, da, pre, q⟩ := h
    exact (dpa_len da)
  · obtain ⟨Mc, c, mok, da, pre, q⟩ := h
    obtain ⟨actual_, expected_⟩ := c
    dsimp only at da pre q
    obtain ⟨v0, w0, rfl, d0, da0⟩ := dpa_inv da
    obtain ⟨v1, w1, rfl, d1, da1⟩ := dpa_inv da0
    cases dpa_inv0 da1
    have s0 : Sg K Mc H H [(v0, Datum.toD actual_), (v1, Datum.toD expected_)] [] := Sg.enter mok ⟨d0, ⟨d1, True.intro⟩⟩
    refine ⟨_, (pss_cons (ps_if (PW.pt (pw_or (pt_not (pt_val (pe_callB call_isi (by rfl) T.n_isinstance (by decide +kernel) (pa_cons (pv 0) (pa_cons (pe_bltn (v := .ty "list") (by rfl) T.n_list (by decide +kernel) rfl) pa_nil))))) (pw_or1 (pt_cmpR op_ne (pe_callB call_len (by rfl) T.n_len (by decide +kernel) (pa_cons (pv 0) pa_nil)) (pe_callB call_len (by rfl) T.n_len (by decide +kernel) (pa_cons (pv 1) pa_nil)) (nomark _))))) (pss_cons (ps_ret pe_bl) pss_nil) pss_nil) (pss_cons (ps_for PassesOwn.never rfl (pi_range1 (by rfl) T.n_range (pa_cons (pe_callB call_len (by rfl) T.n_len (by decide +kernel) (pa_cons (pv 1) pa_nil)) pa_nil)) (pg_name (i := 2) sc_law_same.nd rfl (.inl rfl)) (pss_cons (ps_if (PW.pt (pw_or (pt_not (pt_val (pe_callB call_isi (by rfl) T.n_isinstance (by decide +kernel) (pa_cons (pe_ix ix_list (pv 0) (pv 2) (fun _ _ => rfl)) (pa_cons (pe_bltn (v := .ty "int") (by rfl) T.n_int (by decide +kernel) rfl) pa_nil))))) (pw_or (pt_val (pe_callB call_isi (by rfl) T.n_isinstance (by decide +kernel) (pa_cons (pe_ix ix_list (pv 0) (pv 2) (fun _ _ => rfl)) (pa_cons (pe_bltn (v := .ty "bool") (by rfl) T.n_bool (by decide +kernel) rfl) pa_nil)))) (pw_or1 (pt_cmpR op_ne (pe_ix ix_list (pv 0) (pv 2) (fun _ _ => rfl)) (pe_ix ix_list (pv 1) (pv 2) (fun _ _ => rfl)) (nomark _)))))) (pss_cons (ps_ret pe_bl) pss_nil) pss_nil) pss_nil)) (pss_cons (ps_ret pe_bl) pss_nil))), ?_⟩
    refine z_ifx (b := (!decide (((actual_).length : Int) = ((expected_).length : Int)))) s0 (HT.is (ht_or (HT.is (ht_not (ht_B (K := K) (hv_isi (b := true) (hv_var (x := actual_) rfl s0.im.1) (by decide +kernel)))) (show _ = false by first | rfl | decide | simp)) (fun hb0 => (ht_val (K := K) (hv_neI (hv_len (hs_of (hv_var (x := actual_) rfl s0.im.1))) (hv_len (hs_of (hv_var (x := expected_) rfl s0.im.2.1))))))) (show _ = (!decide (((actual_).length : Int) = ((expected_).length : Int))) by first | rfl | decide | simp)) (fun hb1 Hs2 s2 => ?_) (fun hb1 Hs3 s3 => ?_)
    · have hb1P := hb1
      try simp only [decide_eq_true_eq, decide_eq_false_iff_not, Bool.not_eq_true', Bool.not_eq_false', Bool.and_eq_true, Bool.or_eq_true, Bool.or_eq_false_iff] at hb1P
      have hF4 : m_law_same actual_ expected_ = false := (by  first | (simp only [m_law_same, hb1, if_true, if_false, Bool.false_eq_true, decide_true, decide_false, Option.getD_some, Option.isNone_none, Option.isNone_some, Bool.not_true, Bool.not_false, ↓reduceIte]; done) | (rfl; done) | (exfalso; simp at hb1; done))
      exact zq_ret s2 (hv_bl false) fun v H' e d => q v H' e (by rw [hF4]; exact d)
    · have hb1P := hb1
      try simp only [decide_eq_true_eq, decide_eq_false_iff_not, Bool.not_eq_true', Bool.not_eq_false', Bool.and_eq_true, Bool.or_eq_true, Bool.or_eq_false_iff] at hb1P
      refine zq_forR1G s3 (hv_len (hs_of (hv_var (x := expected_) rfl s3.im.2.1))) (by first | omega | decide +kernel | (simp only [List.length_cons, List.length_nil]; omega)) (fun i σ' H' => ∃ (o5 : Option V), (loopNR (m_law_same_l0 actual_ expected_) (Int.toNat ((expected_).length : Int)) (0 : Int) () : Bool ⊕ (Unit)) = (loopNR (m_law_same_l0 actual_ expected_) ((Int.toNat ((expected_).length : Int)) - i) ((0 : Int) + (i : Int)) () : Bool ⊕ (Unit)) ∧ True ∧ σ' = [some v0, some v1, o5] ∧ Sg K Mc H H' [(v0, Datum.toD actual_), (v1, Datum.toD expected_)] []) (fun Hs6 s6 => ⟨_, (by simp), (by first | trivial | omega | (simp; done) | simp_all), rfl, s6.keep fun _ h => ⟨h.1, ⟨h.2.1, True.intro⟩⟩⟩) (fun i10 x11 σ' Hs9 hx12 hi13 hP => ?_) (fun σ' Hs9 hP => ?_)
      · obtain ⟨o5, he7, hg8, rfl, s9⟩ := hP
        refine z_ifx (b := (!decide ((actual_.getD (Int.toNat x11) 0) = (expected_.getD (Int.toNat x11) 0)))) s9 (HT.is (ht_or (HT.is (ht_not (ht_B (K := K) (hv_isi (b := true) (hv_at 0 (hs_of (hv_var (x := actual_) rfl s9.im.1)) (hv_vI rfl) (by first | omega | decide +kernel | (simp only [List.length_cons, List.length_nil]; omega)) (by first | omega | decide +kernel | (simp only [List.length_cons, List.length_nil]; omega))) (by decide +kernel)))) (show _ = false by first | rfl | decide | simp)) (fun hb0 => (ht_or (ht_B (K := K) (hv_isi (b := false) (hv_at 0 (hs_of (hv_var (x := actual_) rfl s9.im.1)) (hv_vI rfl) (by first | omega | decide +kernel | (simp only [List.length_cons, List.length_nil]; omega)) (by first | omega | decide +kernel | (simp only [List.length_cons, List.length_nil]; omega))) (by decide +kernel))) (fun hb1 => (ht_val (K := K) (hv_neI (hv_at 0 (hs_of (hv_var (x := actual_) rfl s9.im.1)) (hv_vI rfl) (by first | omega | decide +kernel | (simp only [List.length_cons, List.length_nil]; omega)) (by first | omega | decide +kernel | (simp only [List.length_cons, List.length_nil]; omega))) (hv_at 0 (hs_of (hv_var (x := expected_) rfl s9.im.2.1)) (hv_vI rfl) (by first | omega | decide +kernel | (simp only [List.length_cons, List.length_nil]; omega)) (by first | omega | decide +kernel | (simp only [List.length_cons, List.length_nil]; omega))))))))) (show _ = (!decide ((actual_.getD (Int.toNat x11) 0) = (expected_.getD (Int.toNat x11) 0))) by first | rfl | decide | simp)) (fun hb15 Hs16 s16 => ?_) (fun hb15 Hs17 s17 => ?_)
        · have hb15P := hb15
          try simp only [decide_eq_true_eq, decide_eq_false_iff_not, Bool.not_eq_true', Bool.not_eq_false', Bool.and_eq_true, Bool.or_eq_true, Bool.or_eq_false_iff] at hb15P
          have hf18 : (m_law_same_l0 actual_ expected_) () x11 = Lp.ret false := (by  first | (simp only [m_law_same_l0, hb1, hb15, if_true, if_false, Bool.false_eq_true, decide_true, decide_false, Option.getD_some, Option.isNone_none, Option.isNone_some, Bool.not_true, Bool.not_false, ↓reduceIte]; done) | (rfl; done) | (exfalso; simp at hb15; done) | (exfalso; simp at hb1; done))
          have hl19 := he7.trans (loopNR_ret hi13 (by rw [← hx12]; exact hf18))
          have hF20 : m_law_same actual_ expected_ = false := (by  first | (simp only [m_law_same, hb1, hb15, hl19, if_true, if_false, Bool.false_eq_true, decide_true, decide_false, Option.getD_some, Option.isNone_none, Option.isNone_some, Bool.not_true, Bool.not_false, ↓reduceIte]; done) | (rfl; done) | (exfalso; simp at hb15; done) | (exfalso; simp at hb1; done))
          exact zq_ret s16 (hv_bl false) fun v H' e d => q v H' e (by rw [hF20]; exact d)
        · have hb15P := hb15
          try simp only [decide_eq_true_eq, decide_eq_false_iff_not, Bool.not_eq_true', Bool.not_eq_false', Bool.and_eq_true, Bool.or_eq_true, Bool.or_eq_false_iff] at hb15P
          have hf21 : (m_law_same_l0 actual_ expected_) () x11 = Lp.nxt () := (by  first | (simp only [m_law_same_l0, hb1, hb15, if_true, if_false, Bool.false_eq_true, decide_true, decide_false, Option.getD_some, Option.isNone_none, Option.isNone_some, Bool.not_true, Bool.not_false, ↓reduceIte]; done) | (rfl; done) | (exfalso; simp at hb15; done) | (exfalso; simp at hb1; done))
          exact ⟨_, he7.trans (loopNR_nxt hi13 (by rw [← hx12]; exact hf21)), (by first | trivial | omega | (simp_all; done) | (simp_all; omega)), rfl, s17.keep fun _ h => ⟨h.1, ⟨h.2.1, True.intro⟩⟩⟩
      · obtain ⟨o22, he24, hg25, rfl, s23⟩ := hP
        rw [loopNR_end] at he24
        have hF26 : m_law_same actual_ expected_ = true := (by  first | (simp only [m_law_same, hb1, he24, if_true, if_false, Bool.false_eq_true, decide_true, decide_false, Option.getD_some, Option.isNone_none, Option.isNone_some, Bool.not_true, Bool.not_false, ↓reduceIte]; done) | (rfl; done) | (exfalso; simp at hb1; done))
        exact zq_ret s23 (hv_bl true) fun v H' e d => q v H' e (by rw [hF26]; exact d)
def m_given_levels_l0 (marks_ : (List Int)) (characters_ : PySem.Str) (dotted_ : PySem.Str) (s_ : (List (Int × Int)) × Int) : (List (Int × Int)) × Int :=
  let found_ : (List (Int × Int)) := s_.1
  let start_ : Int := s_.2
  let found_ : (List (Int × Int)) := found_ ++ (List.map (fun (c_ : (Int × Int)) => ((start_ + c_.1), c_.2)) (enumL marks_))
  let start_ : Int := (Txt.find3 dotted_ characters_ (start_ + (1 : Int)))
  (found_, start_)
def m_given_levels (pattern_ : PySem.Str) (dotted_ : PySem.Str) : (List (Int × Int)) :=
  let p11_ : (PySem.Str × (List Int)) := (m_split_pattern pattern_)
  let characters_ : PySem.Str := p11_.1
  let marks_ : (List Int) := p11_.2
  let found_ : (List (Int × Int)) := []
  let start_ : Int := (Txt.find dotted_ characters_)
  let r0_ : (List (Int × Int)) × Int := loopW (fun (s_ : (List (Int × Int)) × Int) => (decide ((0 : Int) ≤ s_.2))) (m_given_levels_l0 marks_ characters_ dotted_) (dotted_.length + 3) (found_, start_)
  let found_ : (List (Int × Int)) := r0_.1
  let start_ : Int := r0_.2
  found_
abbrev s_given_levels : Stmt := topS 3
theorem sc_given_levels : FnScope ["pattern", "dotted", "characters", "marks", "found", "start", "index", "level"] ["pattern", "dotted"] (defScope s_given_levels) := ⟨rfl, rfl, rfl, by decide +kernel, rfl, by decide +kernel, by decide +kernel⟩
abbrev sp_given_levels (K : PySem.W.Frag) : Sp := PrD K (fun c : PySem.Str × PySem.Str => [Datum.toD c.1, Datum.toD c.2]) (fun c => c.1.length ≤ 24 ∧ c.2.length ≤ 200) (fun c => (m_given_levels c.1 c.2 : (List (Int × Int))))
theorem ok_given_levels (T : Txt K mg) : FnOk P w K mg base CX0 2 T.f_given_levels T.d_given_levels ["pattern", "dotted"] (sp_given_levels K) := by
  refine T.u_given_levels.ok sc_given_levels (fun vs H Q E h => ?_) (fun cdv A outer s H vs Q E hr h => ?_)
  · obtain ⟨Mc, c, mok, da, pre, q⟩ := h
    exact (dpa_len da)
  · obtain ⟨Mc, c, mok, da, pre, q⟩ := h
    obtain ⟨pattern_, dotted_⟩ := c
    dsimp only at da pre q
    obtain ⟨v0, w0, rfl, d0, da0⟩ := dpa_inv da
    obtain ⟨v1, w1, rfl, d1, da1⟩ := dpa_inv da0
    cases dpa_inv0 da1
    cases (Dt.str d0)
    cases (Dt.str d1)
    have s0 : Sg K Mc H H [] [] := Sg.enter mok True.intro
    refine ⟨_, (pss_cons (ps_asg (pe_call (ok_split_pattern T) hr (by rfl) T.g_split_pattern T.u_split_pattern.kp T.b_split_pattern .nil pass0 (pa_cons (pv 0) pa_nil)) (pg_tup rfl (pgs_cons (pg_name (i := 2) sc_given_levels.nd rfl (.inl rfl)) (pgs_cons (pg_name (i := 3) sc_given_levels.nd rfl (.inl rfl)) pgs_nil)))) (pss_cons (ps_set (i := 4) sc_given_levels.nd rfl (.inl rfl) (pe_lst pa_nil)) (pss_cons (ps_set (i := 5) sc_given_levels.nd rfl (.inr rfl) (pe_m1 PySem.F.slot_str_find PySem.F.type_str_find mt_find (pv 1) (pv 2))) (pss_cons (ps_while PassesOwn.never (pt_cmpR op_ge (pv 5) pe_int (nomark _)) (pss_cons (ps_expr (pe_bm PySem.F.plainAttrs_list PySem.F.slot_list_extend PySem.F.type_list_extend mt_extend (pv 4) (pa_cons (pe_lc (own := [("index", 6), ("level", 7)]) (g := gTup K 2 (gCons (gName 6) (gCons (gName 7) gNil))) rfl sc_given_levels.nd (pi_enum (by rfl) T.n_enumerate (pa_cons (pv 3) pa_nil)) (blkOk_by (own := [("index", 6), ("level", 7)]) (N := ["pattern", "dotted", "characters", "marks", "found", "start", "index", "level"]) (sc := defScope s_given_levels) (by decide +kernel)) (fun _ _ _ _ _ => (pg_tup rfl (pgs_cons (pg_name (i := 6) sc_given_levels.nd rfl (Or.inl rfl) (.inr (by rfl))) (pgs_cons (pg_name (i := 7) sc_given_levels.nd rfl (Or.inl rfl) (.inr (by rfl))) pgs_nil)))) (fun _ _ _ _ _ => pts_nil) (fun _ _ _ _ _ => (pe_tup (pa_cons (pe_op op_add (pv 5) (pv 6)) (pa_cons (pv 7) pa_nil))))) pa_nil))) (pss_cons (ps_set (i := 5) sc_given_levels.nd rfl (.inr rfl) (pe_bm PySem.F.plainAttrs_str PySem.F.slot_str_find PySem.F.type_str_find mt_find3 (pv 1) (pa_cons (pv 2) (pa_cons (pe_op op_add (pv 5) pe_int) pa_nil)))) pss_nil))) (pss_cons (ps_ret (pv 4)) pss_nil))))), ?_⟩
    refine z_unp2 s0 (hv_call pattern_ (hd_cons (hv_vS rfl) hd_nil) (by first | omega | (subst_vars; omega) | decide +kernel)) fun characters_2 marks_3 hp4 vcharacters_2 vmarks_3 Hs1 s1 => ?_
    try dsimp only at hp4
    have f5 := split_len pattern_
    rw [← hp4] at f5
    dsimp only at f5
    cases (Dt.str s1.im.1)
    refine z_nilG (Int × Int) s1 fun found_7 hfound_7 ps6 Hs6 s6 => ?_
    have lfound_7 : found_7.length = 0 := by rw [hfound_7]; rfl
    refine z_asgIG s6 (hv_find (hv_vS rfl) (hv_vS rfl)) fun start_9 hstart_9 Hs8 s8 => ?_
    try dsimp only at hstart_9
    have gstart_9 := PyProof.Rows.fact_find dotted_ characters_2
    refine zq_while (fun (s_ : (List (Int × Int)) × Int) => (decide ((0 : Int) ≤ s_.2))) (m_given_levels_l0 marks_3 characters_2 dotted_) (fun (s_ : (List (Int × Int)) × Int) => (if s_.2 < 0 then 0 else dotted_.length + 2 - s_.2.toNat)) (dotted_.length + 3) (found_7, start_9) (fun (s_ : (List (Int × Int)) × Int) σ' H' => ∃ (o10 : Option V) (o11 : Option V), (s_.2 ≤ (dotted_.length : Int) ∧ (s_.2 < 0 ∨ s_.1.length ≤ 73 * s_.2.toNat) ∧ s_.1.length ≤ 73 * (dotted_.length + 1)) ∧ σ' = [some (V.str pattern_), some (V.str dotted_), some (V.str characters_2), some vmarks_3, some (.ref ps6), some (V.int s_.2), o10, o11] ∧ Sg K Mc H H' [(vmarks_3, Datum.toD marks_3)] [(ps6, .lst (List.map Datum.toD s_.1))]) (by dsimp only; split <;> omega) ⟨_, _, (by dsimp only; omega), rfl, s8.keep fun _ h => ⟨h.2.1, True.intro⟩⟩ (fun st σ' H' hR12 => ?_) (fun st σ' H' Hs16 hR12 hb15 e2 hl => ?_)
    · obtain ⟨found_17, start_18⟩ := st
      obtain ⟨o19, o20, hg13, rfl, s14⟩ := hR12
      dsimp only at hg13 s14
      refine ⟨_, s14.mok, (ht_val (K := K) (hv_ge (hv_vI rfl) (hv_int 0))), fun hb15 Hs21 e2 => ?_⟩
      have s21 := s14.ex e2
      dsimp only at hb15
      have hb15P := hb15
      try simp only [decide_eq_true_eq, decide_eq_false_iff_not, Bool.not_eq_true', Bool.not_eq_false', Bool.and_eq_true, Bool.or_eq_true, Bool.or_eq_false_iff] at hb15P
      have hnx := next_find dotted_ characters_2 (s := start_18) (by omega)
      refine zq_extG s21 (kk := 0) rfl (ev_var rfl) (hf_lcE0 s21 (fun (c_ : (Int × Int)) => ((start_18 + c_.1), c_.2)) (hv_var (x := marks_3) rfl s21.im.1) (by first | omega | decide +kernel | (simp only [List.length_cons, List.length_nil]; omega)) (fun D25 src29 c26 w27 ys28 Hs24 s24 hx30 Q k => by obtain ⟨l36, u32, u33, w27e, st37, d34, d35⟩ := Dt.pair (p := c26) s24.im.1; have zd34 := Dt.int d34; subst zd34; have zd35 := Dt.int d35; subst zd35; subst w27e; exact ⟨_, _, rfl, ex_t msk_le st37, rfl, _, _, rfl, _, _, rfl, rfl, k _ rfl (hv_tup2 (hv_add (hv_vI rfl) (hv_vI rfl)) (hv_vI rfl))⟩)) (by rw [List.length_map, enumL_len]; omega) fun found_23 hfound_23 Hs22 s22 => ?_
      try dsimp only at hfound_23
      have lfound_23 := congrArg List.length hfound_23
      try simp only [List.length_append, List.length_map, enumL_len, irng_len] at lfound_23
      have s22 : Sg K Mc _ _ _ [(ps6, .lst (List.map Datum.toD found_23))] := s22
      refine z_asgIG s22 (hv_find3 (hv_vS rfl) (hv_vS rfl) (hv_add (hv_vI rfl) (hv_int 1))) fun start_39 hstart_39 Hs38 s38 => ?_
      try dsimp only at hstart_39
      have hf40 : (m_given_levels_l0 marks_3 characters_2 dotted_) (found_17, start_18) = (found_23, start_39) := (by subst hstart_39; subst hfound_23; subst hstart_9; subst hfound_7; first | (simp only [m_given_levels_l0, ← hp4, hb15, if_true, if_false, Bool.false_eq_true, decide_true, decide_false, Option.getD_some, Option.isNone_none, Option.isNone_some, Bool.not_true, Bool.not_false, ↓reduceIte]; done) | (rfl; done) | (exfalso; simp at hb15; done))
      exact ⟨(found_23, start_39), hf40.symm, (by dsimp only; split <;> split <;> omega), _, _, (by dsimp only; omega), rfl, s38.keep fun _ h => ⟨h.1, True.intro⟩⟩
    · obtain ⟨found_41, start_42⟩ := st
      obtain ⟨o43, o44, hg46, rfl, s47⟩ := hR12
      dsimp only at hg46 s47 hb15
      have s16 := s47.ex e2
      have he45 := hl
      have hb15P := hb15
      try simp only [decide_eq_true_eq, decide_eq_false_iff_not, Bool.not_eq_true', Bool.not_eq_false', Bool.and_eq_true, Bool.or_eq_true, Bool.or_eq_false_iff] at hb15P
      have s48 := Sg.frz (xs := found_41) s16
      have hF49 : m_given_levels pattern_ dotted_ = found_41 := (by subst hstart_9; subst hfound_7; first | (simp only [m_given_levels, ← hp4, he45, if_true, if_false, Bool.false_eq_true, decide_true, decide_false, Option.getD_some, Option.isNone_none, Option.isNone_some, Bool.not_true, Bool.not_false, ↓reduceIte]; done) | (rfl; done))
      exact zq_ret s48 (hv_var (x := found_41) rfl s48.im.1) fun v H' e d => q v H' e (by rw [hF49]; exact d)
/-! given_levels -/
def blkOf (m : List Int) (k : Nat) : List (Int × Int) := List.map (fun (c_ : (Int × Int)) => (((k : Int) + c_.1), c_.2)) (enumL m)
theorem given_eq (p d : PySem.Str) : m_given_levels p d = gl (occ d (m_split_pattern p).1) (blkOf (m_split_pattern p).2) 0 (d.length + 1) := by
  unfold m_given_levels
  dsimp only
  rw [find_zero]
  exact loopW_occ (blk := blkOf (m_split_pattern p).2) (fun l k => rfl) (d.length + 3) 0 [] (by omega) (by omega)
theorem given_from (p d : PySem.Str) {x : Int × Int} (h : x ∈ m_given_levels p d) : 0 ≤ x.1 ∧ x.1 ≤ (d.length : Int) ∧ x.2 ∈ (m_split_pattern p).2 := by
  rw [given_eq] at h
  obtain ⟨k, _, _, ho, hk⟩ := gl_mem _ _ h
  have hat := ((occ_iff _ _ _).mp ho).1
  have hl := (split_len p).1
  obtain ⟨c, hc, rfl⟩ := List.mem_map.mp hk
  have hm := enumL_mem hc
  refine ⟨?_, ?_, hm.2.2⟩
  · show 0 ≤ (k : Int) + c.1
    omega
  · show (k : Int) + c.1 ≤ _
    omega
theorem given_in (p d : PySem.Str) : ∀ x ∈ m_given_levels p d, 0 ≤ x.1 ∧ x.1 ≤ (d.length : Int) := fun x h => ⟨(given_from p d h).1, (given_from p d h).2.1⟩

def m_exception_places_l0 (word_ : PySem.Str) (s_ : Unit) (x_ : PySem.Str) : Lp (Option (List Int)) (Unit) :=
  let entry_ : PySem.Str := x_
  if (decide ((Txt.lower (Txt.replace entry_ (PySem.Str.ofString "-") (PySem.Str.ofString ""))) = (Txt.lower word_))) = true then
    Lp.ret (some (m_hyphen_places entry_))
  else
    Lp.nxt ()
def m_exception_places (entries_ : (List PySem.Str)) (word_ : PySem.Str) : (Option (List Int)) :=
  match (loopL (m_exception_places_l0 word_) entries_ () : (Option (List Int)) ⊕ (Unit)) with
  | .inl rr_ => rr_
  | .inr r0_ =>
    none
abbrev s_exception_places : Stmt := topS 7
theorem sc_exception_places : FnScope ["entries", "word", "entry"] ["entries", "word"] (defScope s_exception_places) := ⟨rfl, rfl, rfl, by decide +kernel, rfl, by decide +kernel, by decide +kernel⟩
abbrev sp_exception_places (K : PySem.W.Frag) : Sp := PrD K (fun c : (List PySem.Str) × PySem.Str => [Datum.toD c.1, Datum.toD c.2]) (fun c => c.2.length ≤ 24 ∧ c.1.length ≤ 20 ∧ ∀ e ∈ c.1, e.length ≤ 24) (fun c => (m_exception_places c.1 c.2 : (Option (List Int))))
theorem ok_exception_places (T : Txt K mg) : FnOk P w K mg base CX0 2 T.f_exception_places T.d_exception_places ["entries", "word"] (sp_exception_places K) := by
  refine okT T.u_exception_places sc_exception_places (by decide +kernel) (by decide) (fun vs H Q E h => ?_) (fun cdv A outer s H vs Q E hr h => ?_)
  · obtain ⟨Mc, c, mok, da, pre, q⟩ := h
    exact (dpa_len da)
  · obtain ⟨Mc, c, mok, da, pre, q⟩ := h
    obtain ⟨entries_, word_⟩ := c
    dsimp only at da pre q
    obtain ⟨v0, w0, rfl, d0, da0⟩ := dpa_inv da
    obtain ⟨v1, w1, rfl, d1, da1⟩ := dpa_inv da0
    cases dpa_inv0 da1
    cases (Dt.str d1)
    have s0 : Sg K Mc H H [(v0, Datum.toD entries_)] [] := Sg.enter mok ⟨d0, True.intro⟩
    refine ⟨_, (psst_cons (pst_forT PassesOwn.never rfl (pi_list (pv 0)) (pg_name (i := 2) sc_exception_places.nd rfl (.inl rfl)) (psst_cons (pst_ifT (ptt_cmp op_eq (pet_lower (pet_replC (pv 2))) (pe_lower (pv 1)) (nomark _)) (PSsT.of (pss_cons (ps_ret (pe_call (ok_hyphen_places T) hr (by rfl) T.g_hyphen_places T.u_hyphen_places.kp T.b_hyphen_places .nil pass0 (pa_cons (pv 2) pa_nil))) pss_nil)) (PSsT.of pss_nil)) (PSsT.of pss_nil))) (PSsT.of (pss_cons (ps_ret pe_non) pss_nil))), ?_⟩
    refine zq_forG s0 (hv_var (x := entries_) rfl s0.im.1) (fun vsrc0 i σ' H' => ∃ (o1 : Option V), (loopL (m_exception_places_l0 word_) entries_ () : (Option (List Int)) ⊕ (Unit)) = (loopL (m_exception_places_l0 word_) (List.drop i entries_) () : (Option (List Int)) ⊕ (Unit)) ∧ True ∧ σ' = [some v0, some (V.str word_), o1] ∧ Sg K Mc H H' [(vsrc0, Datum.toD entries_), (v0, Datum.toD entries_)] []) (fun vsrc0 Hs2 s2 => ⟨_, rfl, (by first | trivial | omega | (simp; done) | simp_all), rfl, s2.keep fun _ h => ⟨h.1, ⟨h.2.1, True.intro⟩⟩⟩) (fun vsrc0 i σ' H' hP => by obtain ⟨o1, he, hg, hs, hS⟩ := hP; exact hS.im.1) (fun vsrc0 i6 x7 wx7 σ' Hs5 hi9 hP hx8 => ?_) (fun vsrc0 σ' Hs5 hP => ?_)
    · obtain ⟨o1, he3, hg4, rfl, s5⟩ := hP
      cases (Dt.str hx8)
      have hent := pre.2.2 _ (List.mem_of_getElem? hi9)
      refine z_ifx (b := (decide ((Txt.lower (Txt.replace x7 (PySem.Str.ofString "-") (PySem.Str.ofString ""))) = (Txt.lower word_)))) s5 (ht_val (K := K) (hv_eqS (hv_lower (hv_replC (hv_vS rfl) (by have := l_emp; rw [l_emp]; omega)) (by refine Nat.le_trans (TK.replace_len _ _ _) ?_; rw [l_emp]; omega)) (hv_lower (hv_vS rfl) (by have := l_dot; have := l_emp; have := l_abcB; have := l_dash; first | omega | (simp only [str_len_app, mulS_len, strAt_len]; omega))))) (fun hb11 Hs12 s12 => ?_) (fun hb11 Hs13 s13 => ?_)
      · have hb11P := hb11
        try simp only [decide_eq_true_eq, decide_eq_false_iff_not, Bool.not_eq_true', Bool.not_eq_false', Bool.and_eq_true, Bool.or_eq_true, Bool.or_eq_false_iff] at hb11P
        have hf14 : (m_exception_places_l0 word_) () x7 = Lp.ret (some (m_hyphen_places x7)) := (by  first | (simp only [m_exception_places_l0, hb11, if_true, if_false, Bool.false_eq_true, decide_true, decide_false, Option.getD_some, Option.isNone_none, Option.isNone_some, Bool.not_true, Bool.not_false, ↓reduceIte]; done) | (rfl; done) | (exfalso; simp at hb11; done))
        have hl15 := he3.trans (loopL_ret hi9 hf14)
        have hF16 : m_exception_places entries_ word_ = (some (m_hyphen_places x7)) := (by  first | (simp only [m_exception_places, hb11, hl15, if_true, if_false, Bool.false_eq_true, decide_true, decide_false, Option.getD_some, Option.isNone_none, Option.isNone_some, Bool.not_true, Bool.not_false, ↓reduceIte]; done) | (rfl; done) | (exfalso; simp at hb11; done))
        exact zq_ret s12 (hv_some (hv_call x7 (hd_cons (hv_vS rfl) hd_nil) (by exact hent))) fun v H' e d => q v H' e (by rw [hF16]; exact d)
      · have hb11P := hb11
        try simp only [decide_eq_true_eq, decide_eq_false_iff_not, Bool.not_eq_true', Bool.not_eq_false', Bool.and_eq_true, Bool.or_eq_true, Bool.or_eq_false_iff] at hb11P
        have hf17 : (m_exception_places_l0 word_) () x7 = Lp.nxt () := (by  first | (simp only [m_exception_places_l0, hb11, if_true, if_false, Bool.false_eq_true, decide_true, decide_false, Option.getD_some, Option.isNone_none, Option.isNone_some, Bool.not_true, Bool.not_false, ↓reduceIte]; done) | (rfl; done) | (exfalso; simp at hb11; done))
        exact ⟨_, he3.trans (loopL_nxt hi9 hf17), (by first | trivial | omega | (simp_all; done) | (simp_all; omega)), rfl, s13.keep fun _ h => ⟨h.1, ⟨h.2.1, True.intro⟩⟩⟩
    · obtain ⟨o18, he20, hg21, rfl, s19⟩ := hP
      rw [loopL_end] at he20
      have hF22 : m_exception_places entries_ word_ = none := (by  first | (simp only [m_exception_places, he20, if_true, if_false, Bool.false_eq_true, decide_true, decide_false, Option.getD_some, Option.isNone_none, Option.isNone_some, Bool.not_true, Bool.not_false, ↓reduceIte]; done) | (rfl; done))
      exact zq_ret s19 (hv_none (α := (List Int))) fun v H' e d => q v H' e (by rw [hF22]; exact d)
theorem hyph_run_len : ∀ (l : List PySem.Str) (s : List Int × Int), (List.foldl m_hyphen_places_l0 s l).1.length ≤ s.1.length + l.length
  | [], s => Nat.le_refl _
  | x :: l, s => by
    rw [List.foldl_cons]
    refine Nat.le_trans (hyph_run_len l _) ?_
    unfold m_hyphen_places_l0
    dsimp only
    split
    · show (s.1 ++ [s.2]).length + l.length ≤ _
      rw [List.length_append, List.length_cons, List.length_cons, List.length_nil]; omega
    · show s.1.length + l.length ≤ _
      rw [List.length_cons]; omega
theorem hyph_len (e : PySem.Str) : (m_hyphen_places e).length ≤ e.length := by
  unfold m_hyphen_places
  dsimp only
  refine Nat.le_trans (hyph_run_len _ _) ?_
  rw [chars_len]
  exact Nat.le_of_eq (Nat.zero_add _)
theorem exc_len {es : List PySem.Str} {w : PySem.Str} {z : List Int} (h : m_exception_places es w = some z) (he : ∀ e ∈ es, e.length ≤ 24) : z.length ≤ 24 := by
  unfold m_exception_places at h
  have key := loopL_ret_P (f := m_exception_places_l0 w) (P := fun r => ∀ z, r = some z → z.length ≤ 24) es () (fun s x r hx hr => by
    unfold m_exception_places_l0 at hr
    dsimp only at hr
    split at hr
    · cases hr
      intro z hz
      cases hz
      exact Nat.le_trans (hyph_len x) (he x hx)
    · cases hr)
  cases hl : (loopL (m_exception_places_l0 w) es () : (Option (List Int)) ⊕ Unit) with
  | inl r => rw [hl] at h; exact key r hl z h
  | inr r => rw [hl] at h; cases h

def m_law_word (cell_ : Int) (size_ : Int) : PySem.Str :=
  let draws_ : (List Int) := (m_law_draws cell_ (25 : Int))
  if (decide (((draws_.getD (Int.toNat (24 : Int)) 0) % (4 : Int)) = (0 : Int))) = true then
    (mulS (strAt (PySem.Str.ofString "abcB") (Int.toNat ((draws_.getD (Int.toNat (0 : Int)) 0) % (4 : Int)))) size_)
  else
    (Txt.join (PySem.Str.ofString "") (List.map (fun (c_ : Int) => (strAt (PySem.Str.ofString "abcB") (Int.toNat ((draws_.getD (Int.toNat c_) 0) % (4 : Int))))) (irng (0 : Int) (Int.toNat size_))))
abbrev s_law_word : Stmt := topS 13
theorem sc_law_word : FnScope ["cell", "size", "draws", "k"] ["cell", "size"] (defScope s_law_word) := ⟨rfl, rfl, rfl, by decide +kernel, rfl, by decide +kernel, by decide +kernel⟩
abbrev sp_law_word (K : PySem.W.Frag) : Sp := PrD K (fun c : Int × Int => [Datum.toD c.1, Datum.toD c.2]) (fun c => 1 ≤ c.2 ∧ c.2 ≤ 24) (fun c => (m_law_word c.1 c.2 : PySem.Str))
theorem ok_law_word (T : Txt K mg) : FnOk P w K mg base CX0 2 T.f_law_word T.d_law_word ["cell", "size"] (sp_law_word K) := by
  refine T.u_law_word.ok sc_law_word (fun vs H Q E h => ?_) (fun cdv A outer s H vs Q E hr h => ?_)
  · obtain ⟨Mc, c, mok, da, pre, q⟩ := h
    exact (dpa_len da)
  · obtain ⟨Mc, c, mok, da, pre, q⟩ := h
    obtain ⟨cell_, size_⟩ := c
    dsimp only at da pre q
    obtain ⟨v0, w0, rfl, d0, da0⟩ := dpa_inv da
    obtain ⟨v1, w1, rfl, d1, da1⟩ := dpa_inv da0
    cases dpa_inv0 da1
    cases (Dt.int d0)
    cases (Dt.int d1)
    have s0 : Sg K Mc H H [] [] := Sg.enter mok True.intro
    refine ⟨_, (pss_cons (ps_set (i := 2) sc_law_word.nd rfl (.inr rfl) (pe_call (ok_law_draws T) hr (by rfl) T.g_law_draws T.u_law_draws.kp T.b_law_draws .nil pass0 (pa_cons (pv 0) (pa_cons pe_int pa_nil)))) (pss_cons (ps_if (pt_cmpR op_eq (pe_op op_mod (pe_callTy call_int1 (by rfl) T.n_int (by decide +kernel) (pa_cons (pe_ix ix_list (pv 2) pe_int (fun _ _ => rfl)) pa_nil)) pe_int) pe_int (nomark _)) (pss_cons (ps_ret (pe_op op_mulS (pe_ix ix_str pe_str (pe_op op_mod (pe_callTy call_int1 (by rfl) T.n_int (by decide +kernel) (pa_cons (pe_ix ix_list (pv 2) pe_int (fun _ _ => rfl)) pa_nil)) pe_int) (fun _ _ => rfl)) (pv 1))) pss_nil) pss_nil) (pss_cons (ps_ret (pe_join pe_str (pe_lc (own := [("k", 3)]) (g := gName 3) rfl sc_law_word.nd (pi_range1 (by rfl) T.n_range (pa_cons (pv 1) pa_nil)) (blkOk_by (own := [("k", 3)]) (N := ["cell", "size", "draws", "k"]) (sc := defScope s_law_word) (by decide +kernel)) (fun _ _ _ _ _ => (pg_name (i := 3) sc_law_word.nd rfl (Or.inl rfl) (.inr (by rfl)))) (fun _ _ _ _ _ => pts_nil) (fun _ _ _ _ _ => (pe_ix ix_str pe_str (pe_op op_mod (pe_callTy call_int1 (by rfl) T.n_int (by decide +kernel) (pa_cons (pe_ix (show IxR _ (rIxL K) from ix_list) (pv 2) (pv 3) (fun _ _ => rfl)) pa_nil)) pe_int) (fun _ _ => rfl)))))) pss_nil))), ?_⟩
    refine z_asgG s0 (hv_call (cell_, (25 : Int)) (hd_cons (hv_vI rfl) (hd_cons (hv_int 25) hd_nil)) (by first | omega | (subst_vars; omega) | decide +kernel)) fun draws_2 hdraws_2 vdraws_2 Hs1 s1 => ?_
    try dsimp only at hdraws_2
    have f3 := draws_len cell_ (25 : Int)
    rw [← hdraws_2] at f3
    refine z_ifx (b := (decide (((draws_2.getD (Int.toNat (24 : Int)) 0) % (4 : Int)) = (0 : Int)))) s1 (ht_val (K := K) (hv_eqI (hv_mod (hv_intI (hv_at 0 (hs_of (hv_var (x := draws_2) rfl s1.im.1)) (hv_int 24) (by first | omega | decide +kernel | (simp only [List.length_cons, List.length_nil]; omega)) (by first | omega | decide +kernel | (simp only [List.length_cons, List.length_nil]; omega)))) (hv_int 4) (by first | omega | decide +kernel | (simp only [List.length_cons, List.length_nil]; omega))) (hv_int 0))) (fun hb4 Hs5 s5 => ?_) (fun hb4 Hs6 s6 => ?_)
    · have hb4P := hb4
      try simp only [decide_eq_true_eq, decide_eq_false_iff_not, Bool.not_eq_true', Bool.not_eq_false', Bool.and_eq_true, Bool.or_eq_true, Bool.or_eq_false_iff] at hb4P
      have hF7 : m_law_word cell_ size_ = (mulS (strAt (PySem.Str.ofString "abcB") (Int.toNat ((draws_2.getD (Int.toNat (0 : Int)) 0) % (4 : Int)))) size_) := (by subst hdraws_2; first | (simp only [m_law_word, hb4, if_true, if_false, Bool.false_eq_true, decide_true, decide_false, Option.getD_some, Option.isNone_none, Option.isNone_some, Bool.not_true, Bool.not_false, ↓reduceIte]; done) | (rfl; done) | (exfalso; simp at hb4; done))
      exact zq_ret s5 (hv_mulS (hv_ixStr (hv_str _) (hv_mod (hv_intI (hv_at 0 (hs_of (hv_var (x := draws_2) rfl s5.im.1)) (hv_int 0) (by first | omega | decide +kernel | (simp only [List.length_cons, List.length_nil]; omega)) (by first | omega | decide +kernel | (simp only [List.length_cons, List.length_nil]; omega)))) (hv_int 4) (by first | omega | decide +kernel | (simp only [List.length_cons, List.length_nil]; omega))) (by have := l_dot; have := l_emp; have := l_abcB; have := l_dash; first | omega | (simp only [str_len_app, mulS_len, strAt_len]; omega)) (by first | omega | decide +kernel | (simp only [List.length_cons, List.length_nil]; omega)) (by have := l_dot; have := l_emp; have := l_abcB; have := l_dash; first | omega | (simp only [str_len_app, mulS_len, strAt_len]; omega))) (hv_vI rfl) (by first | omega | decide +kernel | (simp only [List.length_cons, List.length_nil]; omega)) (by have := l_dot; have := l_emp; have := l_abcB; have := l_dash; first | omega | (simp only [str_len_app, mulS_len, strAt_len]; omega)) (by first | omega | decide +kernel | (simp only [List.length_cons, List.length_nil]; omega))) fun v H' e d => q v H' e (by rw [hF7]; exact d)
    · have hb4P := hb4
      try simp only [decide_eq_true_eq, decide_eq_false_iff_not, Bool.not_eq_true', Bool.not_eq_false', Bool.and_eq_true, Bool.or_eq_true, Bool.or_eq_false_iff] at hb4P
      have hF8 : m_law_word cell_ size_ = (Txt.join (PySem.Str.ofString "") (List.map (fun (c_ : Int) => (strAt (PySem.Str.ofString "abcB") (Int.toNat ((draws_2.getD (Int.toNat c_) 0) % (4 : Int))))) (irng (0 : Int) (Int.toNat size_)))) := (by subst hdraws_2; first | (simp only [m_law_word, hb4, if_true, if_false, Bool.false_eq_true, decide_true, decide_false, Option.getD_some, Option.isNone_none, Option.isNone_some, Bool.not_true, Bool.not_false, ↓reduceIte]; done) | (rfl; done) | (exfalso; simp at hb4; done))
      exact zq_ret s6 (hv_join (hv_str _) (hs_of (hv_lcR0 s6 (fun (c_ : Int) => (strAt (PySem.Str.ofString "abcB") (Int.toNat ((draws_2.getD (Int.toNat c_) 0) % (4 : Int))))) (hv_vI rfl) (by first | omega | decide +kernel | (simp only [List.length_cons, List.length_nil]; omega)) (fun D10 c11 ys13 Hs9 s9 hx15 Q k => by exact k _ rfl (hv_ixStr (hv_str _) (hv_mod (hv_intI (hv_at 0 (hs_of (hv_var (x := draws_2) rfl s9.im.1)) (hv_vI rfl) (by first | omega | decide +kernel | (simp only [List.length_cons, List.length_nil]; omega)) (by first | omega | decide +kernel | (simp only [List.length_cons, List.length_nil]; omega)))) (hv_int 4) (by first | omega | decide +kernel | (simp only [List.length_cons, List.length_nil]; omega))) (by have := l_dot; have := l_emp; have := l_abcB; have := l_dash; first | omega | (simp only [str_len_app, mulS_len, strAt_len]; omega)) (by first | omega | decide +kernel | (simp only [List.length_cons, List.length_nil]; omega)) (by have := l_dot; have := l_emp; have := l_abcB; have := l_dash; first | omega | (simp only [str_len_app, mulS_len, strAt_len]; omega)))))) (by refine Nat.le_trans (Nat.add_le_add_right (sum_le _ 1 (fun x => Nat.le_of_eq (strAt_len _ _)) _) _) ?_; simp only [List.length_map, irng_len, l_emp]; omega)) fun v H' e d => q v H' e (by rw [hF8]; exact d)
theorem cps_abcB : cps (PySem.Str.ofString "abcB") = [97, 98, 99, 66] := by decide +kernel
/-- made of the letters a, b, c, B -/
def Abc (s : PySem.Str) : Prop := ∀ c ∈ cps s, c = 97 ∨ c = 98 ∨ c = 99 ∨ c = 66
theorem abc_at {i : Int} : Abc (strAt (PySem.Str.ofString "abcB") (Int.toNat (i % 4))) := by
  intro c hc
  have h1 : c = (cps (PySem.Str.ofString "abcB")).getD (Int.toNat (i % 4)) 0 := by simpa [Ly.strAt, cps] using hc
  rw [cps_abcB] at h1
  have h2 : Int.toNat (i % 4) = 0 ∨ Int.toNat (i % 4) = 1 ∨ Int.toNat (i % 4) = 2 ∨ Int.toNat (i % 4) = 3 := by omega
  rcases h2 with h2 | h2 | h2 | h2 <;> (rw [h2] at h1; simp at h1; omega)
theorem cps_mul (a : PySem.Str) (n : Int) : cps (mulS a n) = (List.replicate n.toNat (cps a)).flatten := by
  simp [mulS, cps]
theorem join_cons (x : PySem.Str) (xs : List PySem.Str) : Txt.join (PySem.Str.ofString "") (x :: xs) = x ++ Txt.join (PySem.Str.ofString "") xs := by
  have e : PySem.Str.ofString "" = PySem.Str.empty := by decide +kernel
  rw [TL.join_eq, TL.join_eq, e]
  cases xs with
  | nil => exact (PySem.Str.append_empty x).symm
  | cons y r =>
    show x ++ PySem.Str.empty ++ PySem.Str.join PySem.Str.empty (y :: r) = _
    rw [PySem.Str.append_empty]
theorem join_abc : ∀ (xs : List PySem.Str), (∀ x ∈ xs, Abc x ∧ x.length = 1) → Abc (Txt.join (PySem.Str.ofString "") xs) ∧ (Txt.join (PySem.Str.ofString "") xs).length = xs.length
  | [], _ => by
    have e : Txt.join (PySem.Str.ofString "") [] = PySem.Str.ofString "" := by rfl
    rw [e]
    refine ⟨fun c hc => ?_, l_emp⟩
    have : cps (PySem.Str.ofString "") = [] := by decide +kernel
    rw [this] at hc; cases hc
  | x :: xs, h => by
    have ih := join_abc xs fun y hy => h y (List.mem_cons_of_mem _ hy)
    have hx := h x List.mem_cons_self
    rw [join_cons]
    refine ⟨fun c hc => ?_, by rw [str_len_app, hx.2, ih.2, List.length_cons]; omega⟩
    rw [cps_app, List.mem_append] at hc
    exact hc.elim (hx.1 c) (ih.1 c)
theorem word_ok (c n : Int) (h : 1 ≤ n ∧ n ≤ 24) : Abc (m_law_word c n) ∧ (m_law_word c n).length = n.toNat := by
  unfold m_law_word
  dsimp only
  split
  · refine ⟨fun x hx => ?_, by rw [mulS_len, strAt_len]; omega⟩
    rw [cps_mul] at hx
    obtain ⟨l, hl, hxl⟩ := List.mem_flatten.mp hx
    rw [List.mem_replicate] at hl
    rw [hl.2] at hxl
    exact abc_at x hxl
  · have k := join_abc (List.map (fun (c_ : Int) => (strAt (PySem.Str.ofString "abcB") (Int.toNat (((m_law_draws c (25 : Int)).getD (Int.toNat c_) 0) % (4 : Int))))) (irng (0 : Int) (Int.toNat n))) (fun x hx => by
      obtain ⟨y, _, rfl⟩ := List.mem_map.mp hx
      exact ⟨abc_at, strAt_len _ _⟩)
    refine ⟨k.1, k.2.trans ?_⟩
    rw [List.length_map, irng_len]
theorem word_len (c n : Int) (h : 1 ≤ n ∧ n ≤ 24) : (m_law_word c n).length ≤ 24 := by
  rw [(word_ok c n h).2]; omega
theorem lower_len {w : PySem.Str} (h : Abc w) : (Txt.lower w).length = w.length := by
  have k := cps_lower (s := w) (fun c hc => by have := h c hc; omega)
  rw [len_cps, len_cps, k, List.length_map]

def m_law_pattern_text_l0 (draws_ : (List Int)) (s_ : PySem.Str) (x_ : Int) : PySem.Str :=
  let text_ : PySem.Str := s_
  let k_ : Int := x_
  let text_ : PySem.Str := ((text_ ++ ([(PySem.Str.ofString ""), (PySem.Str.ofString "1"), (PySem.Str.ofString "2"), (PySem.Str.ofString "3"), (PySem.Str.ofString "14"), (PySem.Str.ofString "9"), (PySem.Str.ofString "0")].getD (Int.toNat ((draws_.getD (Int.toNat ((4 : Int) + k_)) 0) % (7 : Int))) (PySem.Str.ofString ""))) ++ (strAt (PySem.Str.ofString "abcB") (Int.toNat ((draws_.getD (Int.toNat ((8 : Int) + k_)) 0) % (4 : Int)))))
  text_
def m_law_pattern_text (cell_ : Int) : PySem.Str :=
  let draws_ : (List Int) := (m_law_draws cell_ (14 : Int))
  let text_ : PySem.Str := (if (decide (((draws_.getD (Int.toNat (1 : Int)) 0) % (3 : Int)) = (0 : Int))) = true then ([(PySem.Str.ofString ""), (PySem.Str.ofString "."), (PySem.Str.ofString "3."), (PySem.Str.ofString ".4")].getD (Int.toNat ((draws_.getD (Int.toNat (2 : Int)) 0) % (4 : Int))) (PySem.Str.ofString "")) else (PySem.Str.ofString ""))
  let r0_ : PySem.Str := loopN (m_law_pattern_text_l0 draws_) (Int.toNat ((1 : Int) + ((draws_.getD (Int.toNat (3 : Int)) 0) % (4 : Int)))) (0 : Int) text_
  let text_ : PySem.Str := r0_
  (text_ ++ ([(PySem.Str.ofString "1"), (PySem.Str.ofString "."), (PySem.Str.ofString "5.")].getD (Int.toNat ((draws_.getD (Int.toNat (12 : Int)) 0) % (3 : Int))) (PySem.Str.ofString "")))
abbrev s_law_pattern_text : Stmt := topS 14
theorem sc_law_pattern_text : FnScope ["cell", "draws", "text", "k"] ["cell"] (defScope s_law_pattern_text) := ⟨rfl, rfl, rfl, by decide +kernel, rfl, by decide +kernel, by decide +kernel⟩
abbrev sp_law_pattern_text (K : PySem.W.Frag) : Sp := PrD K (fun c : Int => [Datum.toD c]) (fun c => True) (fun c => (m_law_pattern_text c : PySem.Str))
theorem ok_law_pattern_text (T : Txt K mg) : FnOk P w K mg base CX0 2 T.f_law_pattern_text T.d_law_pattern_text ["cell"] (sp_law_pattern_text K) := by
  refine T.u_law_pattern_text.ok sc_law_pattern_text (fun vs H Q E h => ?_) (fun cdv A outer s H vs Q E hr h => ?_)
  · obtain ⟨Mc, c, mok, da, pre, q⟩ := h
    exact (dpa_len da)
  · obtain ⟨Mc, c, mok, da, pre, q⟩ := h
    obtain ⟨cell_, rfl⟩ : ∃ z, z = c := ⟨c, rfl⟩
    dsimp only at da pre q
    obtain ⟨v0, w0, rfl, d0, da0⟩ := dpa_inv da
    cases dpa_inv0 da0
    cases (Dt.int d0)
    have s0 : Sg K Mc H H [] [] := Sg.enter mok True.intro
    refine ⟨_, (pss_cons (ps_set (i := 1) sc_law_pattern_text.nd rfl (.inl rfl) (pe_call (ok_law_draws T) hr (by rfl) T.g_law_draws T.u_law_draws.kp T.b_law_draws .nil pass0 (pa_cons (pv 0) (pa_cons pe_int pa_nil)))) (pss_cons (ps_set (i := 2) sc_law_pattern_text.nd rfl (.inl rfl) (pe_ifExp (pt_cmpR op_eq (pe_op op_mod (pe_callTy call_int1 (by rfl) T.n_int (by decide +kernel) (pa_cons (pe_ix ix_list (pv 1) pe_int (fun _ _ => rfl)) pa_nil)) pe_int) pe_int (nomark _)) (pe_ix ix_list (pe_lst (pa_cons pe_str (pa_cons pe_str (pa_cons pe_str (pa_cons pe_str pa_nil))))) (pe_op op_mod (pe_callTy call_int1 (by rfl) T.n_int (by decide +kernel) (pa_cons (pe_ix ix_list (pv 1) pe_int (fun _ _ => rfl)) pa_nil)) pe_int) (fun _ _ => rfl)) pe_str)) (pss_cons (ps_for PassesOwn.never rfl (pi_range1 (by rfl) T.n_range (pa_cons (pe_op op_add pe_int (pe_op op_mod (pe_callTy call_int1 (by rfl) T.n_int (by decide +kernel) (pa_cons (pe_ix ix_list (pv 1) pe_int (fun _ _ => rfl)) pa_nil)) pe_int)) pa_nil)) (pg_name (i := 3) sc_law_pattern_text.nd rfl (.inl rfl)) (pss_cons (ps_set (i := 2) sc_law_pattern_text.nd rfl (.inl rfl) (pe_op op_add_str (pe_op op_add_str (pv 2) (pe_ix ix_list (pe_lst (pa_cons pe_str (pa_cons pe_str (pa_cons pe_str (pa_cons pe_str (pa_cons pe_str (pa_cons pe_str (pa_cons pe_str pa_nil)))))))) (pe_op op_mod (pe_callTy call_int1 (by rfl) T.n_int (by decide +kernel) (pa_cons (pe_ix ix_list (pv 1) (pe_op op_add pe_int (pv 3)) (fun _ _ => rfl)) pa_nil)) pe_int) (fun _ _ => rfl))) (pe_ix ix_str pe_str (pe_op op_mod (pe_callTy call_int1 (by rfl) T.n_int (by decide +kernel) (pa_cons (pe_ix ix_list (pv 1) (pe_op op_add pe_int (pv 3)) (fun _ _ => rfl)) pa_nil)) pe_int) (fun _ _ => rfl)))) pss_nil)) (pss_cons (ps_ret (pe_op op_add_str (pv 2) (pe_ix ix_list (pe_lst (pa_cons pe_str (pa_cons pe_str (pa_cons pe_str pa_nil)))) (pe_op op_mod (pe_callTy call_int1 (by rfl) T.n_int (by decide +kernel) (pa_cons (pe_ix ix_list (pv 1) pe_int (fun _ _ => rfl)) pa_nil)) pe_int) (fun _ _ => rfl)))) pss_nil)))), ?_⟩
    refine z_asgG s0 (hv_call (cell_, (14 : Int)) (hd_cons (hv_vI rfl) (hd_cons (hv_int 14) hd_nil)) (by first | omega | (subst_vars; omega) | decide +kernel)) fun draws_2 hdraws_2 vdraws_2 Hs1 s1 => ?_
    try dsimp only at hdraws_2
    have f3 := draws_len cell_ (14 : Int)
    rw [← hdraws_2] at f3
    refine z_asgSG s1 (hv_ite (ht_val (K := K) (hv_eqI (hv_mod (hv_intI (hv_at 0 (hs_of (hv_var (x := draws_2) rfl s1.im.1)) (hv_int 1) (by first | omega | decide +kernel | (simp only [List.length_cons, List.length_nil]; omega)) (by first | omega | decide +kernel | (simp only [List.length_cons, List.length_nil]; omega)))) (hv_int 3) (by first | omega | decide +kernel | (simp only [List.length_cons, List.length_nil]; omega))) (hv_int 0))) (fun hi1 => (hv_at (PySem.Str.ofString "") (hs_of (hv_lst (has_cons (hv_str _) (has_cons (hv_str _) (has_cons (hv_str _) (has_cons (hv_str _) has_nil)))) (Nat.le_of_ble_eq_true rfl))) (hv_mod (hv_intI (hv_at 0 (hs_of (hv_var (x := draws_2) rfl s1.im.1)) (hv_int 2) (by first | omega | decide +kernel | (simp only [List.length_cons, List.length_nil]; omega)) (by first | omega | decide +kernel | (simp only [List.length_cons, List.length_nil]; omega)))) (hv_int 4) (by first | omega | decide +kernel | (simp only [List.length_cons, List.length_nil]; omega))) (by first | omega | decide +kernel | (simp only [List.length_cons, List.length_nil]; omega)) (by first | omega | decide +kernel | (simp only [List.length_cons, List.length_nil]; omega)))) (fun hi2 => (hv_str _))) fun text_5 htext_5 Hs4 s4 => ?_
    try dsimp only at htext_5
    have ltext_5 : text_5.length ≤ 2 := by rw [htext_5]; split; exact g_pre _; decide +kernel
    refine zq_forR1G s4 (hv_add (hv_int 1) (hv_mod (hv_intI (hv_at 0 (hs_of (hv_var (x := draws_2) rfl s4.im.1)) (hv_int 3) (by first | omega | decide +kernel | (simp only [List.length_cons, List.length_nil]; omega)) (by first | omega | decide +kernel | (simp only [List.length_cons, List.length_nil]; omega)))) (hv_int 4) (by first | omega | decide +kernel | (simp only [List.length_cons, List.length_nil]; omega)))) (by first | omega | decide +kernel | (simp only [List.length_cons, List.length_nil]; omega)) (fun i σ' H' => ∃ (text_6 : PySem.Str) (o7 : Option V), (loopN (m_law_pattern_text_l0 draws_2) (Int.toNat ((1 : Int) + ((draws_2.getD (Int.toNat (3 : Int)) 0) % (4 : Int)))) (0 : Int) text_5 : PySem.Str) = (loopN (m_law_pattern_text_l0 draws_2) ((Int.toNat ((1 : Int) + ((draws_2.getD (Int.toNat (3 : Int)) 0) % (4 : Int)))) - i) ((0 : Int) + (i : Int)) text_6 : PySem.Str) ∧ (text_6.length ≤ 2 + 3 * (i)) ∧ σ' = [some (V.int cell_), some vdraws_2, some (V.str text_6), o7] ∧ Sg K Mc H H' [(vdraws_2, Datum.toD draws_2)] []) (fun Hs8 s8 => ⟨text_5, _, (by simp), (by first | trivial | omega | (simp; done) | simp_all), rfl, s8.keep fun _ h => ⟨h.1, True.intro⟩⟩) (fun i12 x13 σ' Hs11 hx14 hi15 hP => ?_) (fun σ' Hs11 hP => ?_)
    · obtain ⟨text_6, o7, he9, hg10, rfl, s11⟩ := hP
      refine z_asgSG s11 (hv_addS (hv_addS (hv_vS rfl) (hv_at (PySem.Str.ofString "") (hs_of (hv_lst (has_cons (hv_str _) (has_cons (hv_str _) (has_cons (hv_str _) (has_cons (hv_str _) (has_cons (hv_str _) (has_cons (hv_str _) (has_cons (hv_str _) has_nil))))))) (Nat.le_of_ble_eq_true rfl))) (hv_mod (hv_intI (hv_at 0 (hs_of (hv_var (x := draws_2) rfl s11.im.1)) (hv_add (hv_int 4) (hv_vI rfl)) (by first | omega | decide +kernel | (simp only [List.length_cons, List.length_nil]; omega)) (by first | omega | decide +kernel | (simp only [List.length_cons, List.length_nil]; omega)))) (hv_int 7) (by first | omega | decide +kernel | (simp only [List.length_cons, List.length_nil]; omega))) (by first | omega | decide +kernel | (simp only [List.length_cons, List.length_nil]; omega)) (by first | omega | decide +kernel | (simp only [List.length_cons, List.length_nil]; omega))) (by first | (refine Nat.le_trans (Nat.add_le_add_left (g_digs _) _) ?_; omega) | (rw [str_len_app, strAt_len]; refine Nat.le_trans (Nat.add_le_add_right (Nat.add_le_add_left (g_digs _) _) _) ?_; omega))) (hv_ixStr (hv_str _) (hv_mod (hv_intI (hv_at 0 (hs_of (hv_var (x := draws_2) rfl s11.im.1)) (hv_add (hv_int 8) (hv_vI rfl)) (by first | omega | decide +kernel | (simp only [List.length_cons, List.length_nil]; omega)) (by first | omega | decide +kernel | (simp only [List.length_cons, List.length_nil]; omega)))) (hv_int 4) (by first | omega | decide +kernel | (simp only [List.length_cons, List.length_nil]; omega))) (by have := l_dot; have := l_emp; have := l_abcB; have := l_dash; first | omega | (simp only [str_len_app, mulS_len, strAt_len]; omega)) (by first | omega | decide +kernel | (simp only [List.length_cons, List.length_nil]; omega)) (by have := l_dot; have := l_emp; have := l_abcB; have := l_dash; first | omega | (simp only [str_len_app, mulS_len, strAt_len]; omega))) (by first | (refine Nat.le_trans (Nat.add_le_add_left (g_digs _) _) ?_; omega) | (rw [str_len_app, strAt_len]; refine Nat.le_trans (Nat.add_le_add_right (Nat.add_le_add_left (g_digs _) _) _) ?_; omega))) fun text_18 htext_18 Hs17 s17 => ?_
      try dsimp only at htext_18
      have lttext_18 : text_18.length = _ := (congrArg Str.length htext_18).trans (str_len_app _ _)
      try simp only [str_len_app, strAt_len] at lttext_18
      have ltext_18 : text_18.length ≤ text_6.length + 3 := by rw [htext_18, str_len_app, str_len_app, strAt_len]; have := g_digs (Int.toNat ((List.getD draws_2 (Int.toNat (4 + x13)) 0) % 7)); omega
      have hf19 : (m_law_pattern_text_l0 draws_2) text_6 x13 = text_18 := (by subst htext_18; subst htext_5; subst hdraws_2; first | (simp only [m_law_pattern_text_l0, if_true, if_false, Bool.false_eq_true, decide_true, decide_false, Option.getD_some, Option.isNone_none, Option.isNone_some, Bool.not_true, Bool.not_false, ↓reduceIte]; done) | (rfl; done))
      exact ⟨text_18, _, he9.trans ((loopN_step hi15).trans (by rw [← hx14, hf19])), (by first | trivial | omega | (simp_all; done) | (simp_all; omega)), rfl, s17.keep fun _ h => ⟨h.1, True.intro⟩⟩
    · obtain ⟨text_20, o21, he23, hg24, rfl, s22⟩ := hP
      rw [loopN_end] at he23
      have hF25 : m_law_pattern_text cell_ = (text_20 ++ ([(PySem.Str.ofString "1"), (PySem.Str.ofString "."), (PySem.Str.ofString "5.")].getD (Int.toNat ((draws_2.getD (Int.toNat (12 : Int)) 0) % (3 : Int))) (PySem.Str.ofString ""))) := (by subst htext_5; subst hdraws_2; first | (simp only [m_law_pattern_text, he23, if_true, if_false, Bool.false_eq_true, decide_true, decide_false, Option.getD_some, Option.isNone_none, Option.isNone_some, Bool.not_true, Bool.not_false, ↓reduceIte]; done) | (rfl; done))
      exact zq_ret s22 (hv_addS (hv_vS rfl) (hv_at (PySem.Str.ofString "") (hs_of (hv_lst (has_cons (hv_str _) (has_cons (hv_str _) (has_cons (hv_str _) has_nil))) (Nat.le_of_ble_eq_true rfl))) (hv_mod (hv_intI (hv_at 0 (hs_of (hv_var (x := draws_2) rfl s22.im.1)) (hv_int 12) (by first | omega | decide +kernel | (simp only [List.length_cons, List.length_nil]; omega)) (by first | omega | decide +kernel | (simp only [List.length_cons, List.length_nil]; omega)))) (hv_int 3) (by first | omega | decide +kernel | (simp only [List.length_cons, List.length_nil]; omega))) (by first | omega | decide +kernel | (simp only [List.length_cons, List.length_nil]; omega)) (by first | omega | decide +kernel | (simp only [List.length_cons, List.length_nil]; omega))) (by refine Nat.le_trans (Nat.add_le_add_left (g_end _) _) ?_; omega)) fun v H' e d => q v H' e (by rw [hF25]; exact d)
/-- its signs are below 128 -/
def Asc (s : PySem.Str) : Prop := ∀ c ∈ cps s, c < 128
theorem asc_app {a b : PySem.Str} (ha : Asc a) (hb : Asc b) : Asc (a ++ b) := fun c hc => by
  rw [cps_app, List.mem_append] at hc
  exact hc.elim (ha c) (hb c)
theorem Abc.asc {s : PySem.Str} (h : Abc s) : Asc s := fun c hc => by have := h c hc; omega
def MK : PySem.Str := PySem.Str.ofString "0123456789."
theorem cps_mk : cps MK = [48, 49, 50, 51, 52, 53, 54, 55, 56, 57, 46] := by decide +kernel
/-- a digit or a dot is among its signs -/
def Mkd (s : PySem.Str) : Prop := ∃ c ∈ cps s, (48 ≤ c ∧ c ≤ 57) ∨ c = 46
theorem mk_iff (c : Nat) : inStr ⟨#[c]⟩ (PySem.Str.ofString "0123456789.") = true ↔ ((48 ≤ c ∧ c ≤ 57) ∨ c = 46) := by
  show inStr ⟨#[c]⟩ MK = true ↔ _
  rw [inStr_one, cps_mk, decide_eq_true_eq]
  simp only [List.mem_cons, List.not_mem_nil, or_false]
  omega
theorem isp_run : ∀ l : List Nat, ((∃ c ∈ l, (48 ≤ c ∧ c ≤ 57) ∨ c = 46) ∧ (loopL m_law_is_pattern_l0 (l.map fun c => (⟨#[c]⟩ : PySem.Str)) () : Bool ⊕ Unit) = .inl true) ∨ ((∀ c ∈ l, ¬ ((48 ≤ c ∧ c ≤ 57) ∨ c = 46)) ∧ (loopL m_law_is_pattern_l0 (l.map fun c => (⟨#[c]⟩ : PySem.Str)) () : Bool ⊕ Unit) = .inr ())
  | [] => Or.inr ⟨fun c hc => (by cases hc), rfl⟩
  | c :: l => by
    rw [List.map_cons, loopL]
    by_cases q : inStr (⟨#[c]⟩ : PySem.Str) (PySem.Str.ofString "0123456789.") = true
    · left
      refine ⟨⟨c, List.mem_cons_self, (mk_iff c).mp q⟩, ?_⟩
      have e : m_law_is_pattern_l0 () (⟨#[c]⟩ : PySem.Str) = Lp.ret true := by unfold m_law_is_pattern_l0; dsimp only; rw [if_pos q]
      rw [e]
    · have e : m_law_is_pattern_l0 () (⟨#[c]⟩ : PySem.Str) = Lp.nxt () := by unfold m_law_is_pattern_l0; dsimp only; rw [if_neg q]
      rw [e]
      rcases isp_run l with ⟨⟨d, hd, hm⟩, h⟩ | ⟨hn, h⟩
      · exact Or.inl ⟨⟨d, List.mem_cons_of_mem _ hd, hm⟩, h⟩
      · refine Or.inr ⟨fun d hd => ?_, h⟩
        rcases List.mem_cons.mp hd with q2 | q2
        · rw [q2]; exact fun z => q ((mk_iff c).mpr z)
        · exact hn d q2
theorem isp_iff (e : PySem.Str) : m_law_is_pattern e = true ↔ Mkd e := by
  unfold m_law_is_pattern
  rw [chars_cps]
  rcases isp_run (cps e) with ⟨h1, h2⟩ | ⟨h1, h2⟩
  · rw [h2]; exact ⟨fun _ => h1, fun _ => rfl⟩
  · rw [h2]
    exact ⟨fun z => (Bool.false_ne_true z).elim, fun ⟨c, hc, hm⟩ => absurd hm (h1 c hc)⟩
theorem ptext_run (ds : List Int) (n : Nat) (s : PySem.Str) (h1 : Asc s) (h2 : s.length ≤ 2) : Asc (loopN (m_law_pattern_text_l0 ds) n 0 s) ∧ (loopN (m_law_pattern_text_l0 ds) n 0 s).length ≤ 2 + 3 * n := by
  have key := loopN_keep (f := m_law_pattern_text_l0 ds) (fun s j => Asc s ∧ s.length ≤ 2 + 3 * j) (fun s k j h => by
    unfold m_law_pattern_text_l0
    dsimp only
    refine ⟨asc_app (asc_app h.1 (getD_P (P := Asc) (by unfold Asc; decide +kernel) (by unfold Asc; decide +kernel) _)) abc_at.asc, ?_⟩
    rw [str_len_app, str_len_app, strAt_len]
    have := g_digs (Int.toNat ((List.getD ds (Int.toNat (4 + k)) 0) % 7))
    omega) n 0 s 0 ⟨h1, by omega⟩
  rw [Nat.zero_add] at key
  exact key
theorem ptext_ok (c : Int) : Asc (m_law_pattern_text c) ∧ Mkd (m_law_pattern_text c) ∧ (m_law_pattern_text c).length ≤ 16 := by
  unfold m_law_pattern_text
  dsimp only
  have k := ptext_run (m_law_draws c (14 : Int)) (Int.toNat ((1 : Int) + (((m_law_draws c (14 : Int)).getD (Int.toNat (3 : Int)) 0) % (4 : Int)))) (if (decide ((((m_law_draws c (14 : Int)).getD (Int.toNat (1 : Int)) 0) % (3 : Int)) = (0 : Int))) = true then ([(PySem.Str.ofString ""), (PySem.Str.ofString "."), (PySem.Str.ofString "3."), (PySem.Str.ofString ".4")].getD (Int.toNat (((m_law_draws c (14 : Int)).getD (Int.toNat (2 : Int)) 0) % (4 : Int))) (PySem.Str.ofString "")) else (PySem.Str.ofString ""))
    (by split; exact getD_P (P := Asc) (by unfold Asc; decide +kernel) (by unfold Asc; decide +kernel) _; unfold Asc; decide +kernel)
    (by split; exact g_pre _; decide +kernel)
  have hlt : Int.toNat ((((m_law_draws c (14 : Int)).getD (Int.toNat (12 : Int)) 0) % (3 : Int))) < 3 := by omega
  generalize Int.toNat ((((m_law_draws c (14 : Int)).getD (Int.toNat (12 : Int)) 0) % (3 : Int))) = i at hlt
  have hE : Asc (List.getD [(PySem.Str.ofString "1"), (PySem.Str.ofString "."), (PySem.Str.ofString "5.")] i (PySem.Str.ofString "")) ∧ Mkd (List.getD [(PySem.Str.ofString "1"), (PySem.Str.ofString "."), (PySem.Str.ofString "5.")] i (PySem.Str.ofString "")) := by
    have : i = 0 ∨ i = 1 ∨ i = 2 := by omega
    unfold Asc Mkd
    rcases this with h | h | h <;> (subst h; decide +kernel)
  refine ⟨asc_app k.1 hE.1, ?_, ?_⟩
  · obtain ⟨x, hx, hm⟩ := hE.2
    exact ⟨x, by rw [cps_app, List.mem_append]; exact Or.inr hx, hm⟩
  · rw [str_len_app]
    have h1 := k.2
    have h2 := g_end i
    omega
theorem ptext_len (c : Int) : (m_law_pattern_text c).length ≤ 16 := (ptext_ok c).2.2

def m_law_cut_l0 (draws_ : (List Int)) (word_ : PySem.Str) (s_ : PySem.Str) (x_ : Int) : PySem.Str :=
  let text_ : PySem.Str := s_
  let k_ : Int := x_
  let j1_ : PySem.Str := if (decide (((draws_.getD (Int.toNat k_) 0) % (3 : Int)) = (0 : Int))) = true then
      let text_ : PySem.Str := (text_ ++ (PySem.Str.ofString "-"))
      text_
    else
      text_
  let text_ : PySem.Str := j1_
  let text_ : PySem.Str := (text_ ++ (strAt word_ (Int.toNat k_)))
  text_
def m_law_cut (word_ : PySem.Str) (cell_ : Int) : PySem.Str :=
  let draws_ : (List Int) := (m_law_draws cell_ (24 : Int))
  let text_ : PySem.Str := (cutS word_ none (some (1 : Int)))
  let r0_ : PySem.Str := loopN (m_law_cut_l0 draws_ word_) (Int.toNat (((Str.length word_ : Nat) : Int) - (1 : Int))) (1 : Int) text_
  let text_ : PySem.Str := r0_
  text_
abbrev s_law_cut : Stmt := topS 15
theorem sc_law_cut : FnScope ["word", "cell", "draws", "text", "k"] ["word", "cell"] (defScope s_law_cut) := ⟨rfl, rfl, rfl, by decide +kernel, rfl, by decide +kernel, by decide +kernel⟩
abbrev sp_law_cut (K : PySem.W.Frag) : Sp := PrD K (fun c : PySem.Str × Int => [Datum.toD c.1, Datum.toD c.2]) (fun c => 1 ≤ c.1.length ∧ c.1.length ≤ 12) (fun c => (m_law_cut c.1 c.2 : PySem.Str))
theorem ok_law_cut (T : Txt K mg) : FnOk P w K mg base CX0 2 T.f_law_cut T.d_law_cut ["word", "cell"] (sp_law_cut K) := by
  refine T.u_law_cut.ok sc_law_cut (fun vs H Q E h => ?_) (fun cdv A outer s H vs Q E hr h => ?_)
  · obtain ⟨Mc, c, mok, da, pre, q⟩ := h
    exact (dpa_len da)
  · obtain ⟨Mc, c, mok, da, pre, q⟩ := h
    obtain ⟨word_, cell_⟩ := c
    dsimp only at da pre q
    obtain ⟨v0, w0, rfl, d0, da0⟩ := dpa_inv da
    obtain ⟨v1, w1, rfl, d1, da1⟩ := dpa_inv da0
    cases dpa_inv0 da1
    cases (Dt.str d0)
    cases (Dt.int d1)
    have s0 : Sg K Mc H H [] [] := Sg.enter mok True.intro
    refine ⟨_, (pss_cons (ps_set (i := 2) sc_law_cut.nd rfl (.inl rfl) (pe_call (ok_law_draws T) hr (by rfl) T.g_law_draws T.u_law_draws.kp T.b_law_draws .nil pass0 (pa_cons (pv 1) (pa_cons pe_int pa_nil)))) (pss_cons (ps_set (i := 3) sc_law_cut.nd rfl (.inl rfl) (pe_slice sl_str (pv 0) po_none (po_some pe_int))) (pss_cons (ps_for PassesOwn.never rfl (pi_range2 (by rfl) T.n_range (pa_cons pe_int (pa_cons (pe_callB call_len (by rfl) T.n_len (by decide +kernel) (pa_cons (pv 0) pa_nil)) pa_nil))) (pg_name (i := 4) sc_law_cut.nd rfl (.inl rfl)) (pss_cut (ps_if (pt_cmpR op_eq (pe_op op_mod (pe_callTy call_int1 (by rfl) T.n_int (by decide +kernel) (pa_cons (pe_ix ix_list (pv 2) (pv 4) (fun _ _ => rfl)) pa_nil)) pe_int) pe_int (nomark _)) (pss_cons (ps_set (i := 3) sc_law_cut.nd rfl (.inl rfl) (pe_op op_add_str (pv 3) pe_str)) pss_nil) pss_nil) (pss_cons (ps_set (i := 3) sc_law_cut.nd rfl (.inl rfl) (pe_op op_add_str (pv 3) (pe_ix ix_str (pv 0) (pv 4) (fun _ _ => rfl)))) pss_nil))) (pss_cons (ps_ret (pv 3)) pss_nil)))), ?_⟩
    refine z_asgG s0 (hv_call (cell_, (24 : Int)) (hd_cons (hv_vI rfl) (hd_cons (hv_int 24) hd_nil)) (by first | omega | (subst_vars; omega) | decide +kernel)) fun draws_2 hdraws_2 vdraws_2 Hs1 s1 => ?_
    try dsimp only at hdraws_2
    have f3 := draws_len cell_ (24 : Int)
    rw [← hdraws_2] at f3
    refine z_asgSG s1 (hv_sliceS (hv_vS rfl) ho_none (ho_some (K := K) (hv_int 1)) (by have := l_dot; have := l_emp; have := l_abcB; have := l_dash; first | omega | (simp only [str_len_app, mulS_len, strAt_len]; omega))) fun text_5 htext_5 Hs4 s4 => ?_
    try dsimp only at htext_5
    have ltext_5 : text_5.length ≤ word_.length := by rw [htext_5]; exact cutS_length _ _ _
    refine zq_forR2G s4 (hv_int 1) (hv_lenS (hv_vS rfl) (by have := l_dot; have := l_emp; have := l_abcB; have := l_dash; first | omega | (simp only [str_len_app, mulS_len, strAt_len]; omega))) (by first | omega | decide +kernel | (simp only [List.length_cons, List.length_nil]; omega)) (fun i σ' H' => ∃ (text_6 : PySem.Str) (o7 : Option V), (loopN (m_law_cut_l0 draws_2 word_) (Int.toNat (((Str.length word_ : Nat) : Int) - (1 : Int))) (1 : Int) text_5 : PySem.Str) = (loopN (m_law_cut_l0 draws_2 word_) ((Int.toNat (((Str.length word_ : Nat) : Int) - (1 : Int))) - i) ((1 : Int) + (i : Int)) text_6 : PySem.Str) ∧ (text_6.length ≤ word_.length + 2 * (i)) ∧ σ' = [some (V.str word_), some (V.int cell_), some vdraws_2, some (V.str text_6), o7] ∧ Sg K Mc H H' [(vdraws_2, Datum.toD draws_2)] []) (fun Hs8 s8 => ⟨text_5, _, (by simp), (by first | trivial | omega | (simp; done) | simp_all), rfl, s8.keep fun _ h => ⟨h.1, True.intro⟩⟩) (fun i12 x13 σ' Hs11 hx14 hi15 hP => ?_) (fun σ' Hs11 hP => ?_)
    · obtain ⟨text_6, o7, he9, hg10, rfl, s11⟩ := hP
      refine z_ifj (fun σ' H' => ∃ (text_20 : PySem.Str)  , text_20 = (if (decide (((draws_2.getD (Int.toNat x13) 0) % (3 : Int)) = (0 : Int))) = true then
        let text_ : PySem.Str := (text_6 ++ (PySem.Str.ofString "-"))
        text_
      else
        text_6) ∧ σ' = [some (V.str word_), some (V.int cell_), some vdraws_2, some (V.str text_20), some (V.int x13)] ∧ Sg K Mc H H' [(vdraws_2, Datum.toD draws_2)] []) s11 (ht_val (K := K) (hv_eqI (hv_mod (hv_intI (hv_at 0 (hs_of (hv_var (x := draws_2) rfl s11.im.1)) (hv_vI rfl) (by first | omega | decide +kernel | (simp only [List.length_cons, List.length_nil]; omega)) (by first | omega | decide +kernel | (simp only [List.length_cons, List.length_nil]; omega)))) (hv_int 3) (by first | omega | decide +kernel | (simp only [List.length_cons, List.length_nil]; omega))) (hv_int 0))) (fun hb17 Hs18 s18 => ?_) (fun hb17 Hs19 s19 => ?_) (fun σ' Hs22 hN => ?_)
      · have hb17P := hb17
        try simp only [decide_eq_true_eq, decide_eq_false_iff_not, Bool.not_eq_true', Bool.not_eq_false', Bool.and_eq_true, Bool.or_eq_true, Bool.or_eq_false_iff] at hb17P
        refine z_asgSG s18 (hv_addS (hv_vS rfl) (hv_str _) (by have := l_dot; have := l_emp; have := l_abcB; have := l_dash; first | omega | (simp only [str_len_app, mulS_len, strAt_len]; omega))) fun text_24 htext_24 Hs23 s23 => ?_
        try dsimp only at htext_24
        have lttext_24 : text_24.length = _ := (congrArg Str.length htext_24).trans (str_len_app _ _)
        try simp only [str_len_app, strAt_len] at lttext_24
        exact ⟨text_24, (by subst htext_24; subst htext_5; subst hdraws_2; first | (simp only [hb17, if_true, if_false, Bool.false_eq_true, decide_true, decide_false, Option.getD_some, Option.isNone_none, Option.isNone_some, Bool.not_true, Bool.not_false, ↓reduceIte]; done) | (rfl; done) | (exfalso; simp at hb17; done)), rfl, s23.keep fun _ h => ⟨h.1, True.intro⟩⟩
      · have hb17P := hb17
        try simp only [decide_eq_true_eq, decide_eq_false_iff_not, Bool.not_eq_true', Bool.not_eq_false', Bool.and_eq_true, Bool.or_eq_true, Bool.or_eq_false_iff] at hb17P
        exact ⟨text_6, (by subst htext_5; subst hdraws_2; first | (simp only [hb17, if_true, if_false, Bool.false_eq_true, decide_true, decide_false, Option.getD_some, Option.isNone_none, Option.isNone_some, Bool.not_true, Bool.not_false, ↓reduceIte]; done) | (rfl; done) | (exfalso; simp at hb17; done)), rfl, s19.keep fun _ h => ⟨h.1, True.intro⟩⟩
      · obtain ⟨text_20, hj21, rfl, s22⟩ := hN
        have lj : text_20.length ≤ text_6.length + 1 := by rw [hj21]; split; exact (Nat.le_of_eq (by rw [str_len_app, l_dash])); exact Nat.le_succ _
        refine z_asgSG s22 (hv_addS (hv_vS rfl) (hv_ixStr (hv_vS rfl) (hv_vI rfl) (by have := l_dot; have := l_emp; have := l_abcB; have := l_dash; first | omega | (simp only [str_len_app, mulS_len, strAt_len]; omega)) (by first | omega | decide +kernel | (simp only [List.length_cons, List.length_nil]; omega)) (by have := l_dot; have := l_emp; have := l_abcB; have := l_dash; first | omega | (simp only [str_len_app, mulS_len, strAt_len]; omega))) (by have := l_dot; have := l_emp; have := l_abcB; have := l_dash; first | omega | (simp only [str_len_app, mulS_len, strAt_len]; omega))) fun text_26 htext_26 Hs25 s25 => ?_
        try dsimp only at htext_26
        have lttext_26 : text_26.length = _ := (congrArg Str.length htext_26).trans (str_len_app _ _)
        try simp only [str_len_app, strAt_len] at lttext_26
        have hf27 : (m_law_cut_l0 draws_2 word_) text_6 x13 = text_26 := (by subst htext_26; subst htext_5; subst hdraws_2; first | (simp only [m_law_cut_l0, hj21, if_true, if_false, Bool.false_eq_true, decide_true, decide_false, Option.getD_some, Option.isNone_none, Option.isNone_some, Bool.not_true, Bool.not_false, ↓reduceIte]; done) | (rfl; done))
        exact ⟨text_26, _, he9.trans ((loopN_step hi15).trans (by rw [← hx14, hf27])), (by first | trivial | omega | (simp_all; done) | (simp_all; omega)), rfl, s25.keep fun _ h => ⟨h.1, True.intro⟩⟩
    · obtain ⟨text_28, o29, he31, hg32, rfl, s30⟩ := hP
      rw [loopN_end] at he31
      have hF33 : m_law_cut word_ cell_ = text_28 := (by subst htext_5; subst hdraws_2; first | (simp only [m_law_cut, he31, if_true, if_false, Bool.false_eq_true, decide_true, decide_false, Option.getD_some, Option.isNone_none, Option.isNone_some, Bool.not_true, Bool.not_false, ↓reduceIte]; done) | (rfl; done))
      exact zq_ret s30 (hv_vS rfl) fun v H' e d => q v H' e (by rw [hF33]; exact d)
theorem inner_in {w : PySem.Str} (h : w.length ≤ 24) : ∀ x ∈ List.map (fun (c_ : Int) => c_) (irng (2 : Int) (Int.toNat ((((Str.length w : Nat) : Int) - (2 : Int)) - (2 : Int)))), 2 ≤ x ∧ x < 100 := by
  intro x hx
  rw [List.map_id'] at hx
  obtain ⟨i, hi, rfl⟩ := List.mem_map.mp hx
  have := List.mem_range.mp hi
  omega
/-- hyphens so far lie before the letters so far, each before the next -/
def Gd (s : List Int × Int) : Prop := s.1.Pairwise (· < ·) ∧ (∀ x ∈ s.1, x < s.2)
def hyp (t : PySem.Str) : List Int × Int := List.foldl m_hyphen_places_l0 (([] : List Int), (0 : Int)) (chars t)
theorem dash_eq : PySem.Str.ofString "-" = ⟨#[45]⟩ := by decide +kernel
theorem one_eq {a b : Nat} : (⟨#[a]⟩ : PySem.Str) = ⟨#[b]⟩ ↔ a = b := by
  constructor
  · intro h
    have := congrArg cps h
    simpa [cps] using this
  · intro h; rw [h]
theorem hl_dash (s : List Int × Int) : m_hyphen_places_l0 s (⟨#[45]⟩ : PySem.Str) = (s.1 ++ [s.2], s.2) := by
  unfold m_hyphen_places_l0
  dsimp only
  rw [dash_eq, if_pos (by simp)]
theorem hl_sign (s : List Int × Int) {c : Nat} (h : c ≠ 45) : m_hyphen_places_l0 s (⟨#[c]⟩ : PySem.Str) = (s.1, s.2 + 1) := by
  unfold m_hyphen_places_l0
  dsimp only
  rw [dash_eq, if_neg (by rw [decide_eq_true_eq, one_eq]; exact h)]
theorem gd_sign {s : List Int × Int} {c : Nat} (hc : c ≠ 45) (h : Gd s) : Gd (m_hyphen_places_l0 s (⟨#[c]⟩ : PySem.Str)) := by
  rw [hl_sign s hc]
  exact ⟨h.1, fun x hx => by have := h.2 x hx; show x < s.2 + 1; omega⟩
theorem gd_both {s : List Int × Int} {c : Nat} (hc : c ≠ 45) (h : Gd s) : Gd (m_hyphen_places_l0 (m_hyphen_places_l0 s (⟨#[45]⟩ : PySem.Str)) (⟨#[c]⟩ : PySem.Str)) := by
  rw [hl_dash, hl_sign _ hc]
  refine ⟨?_, fun x hx => ?_⟩
  · rw [List.pairwise_append]
    refine ⟨h.1, List.pairwise_singleton _ _, fun a ha b hb => ?_⟩
    rw [List.mem_singleton] at hb
    rw [hb]; exact h.2 a ha
  · show x < s.2 + 1
    rcases List.mem_append.mp hx with q | q
    · have := h.2 x q; omega
    · rw [List.mem_singleton] at q; omega
def CutOk (w t : PySem.Str) : Prop := Asc t ∧ Gd (hyp t) ∧ True
theorem at_one (w : PySem.Str) (i : Nat) : Ly.strAt w i = ⟨#[(cps w).getD i 0]⟩ := rfl
theorem abc_getD {w : PySem.Str} (h : Abc w) (i : Nat) : (cps w).getD i 0 ≠ 45 ∧ (cps w).getD i 0 < 128 :=
  getD_P (P := fun c => c ≠ 45 ∧ c < 128) (fun c hc => by have := h c hc; omega) (by omega) i
theorem hyp_app (a b : PySem.Str) : hyp (a ++ b) = List.foldl m_hyphen_places_l0 (hyp a) (chars b) := by
  unfold hyp
  rw [chars_app, List.foldl_append]
theorem asc_one {c : Nat} (h : c < 128) : Asc ⟨#[c]⟩ := fun d hd => by
  have : d = c := by simpa [cps] using hd
  omega
theorem chars_one_eq (c : Nat) : chars (⟨#[c]⟩ : PySem.Str) = [⟨#[c]⟩] := rfl
theorem gd_list : ∀ (l : List Nat) (s : List Int × Int), (∀ c ∈ l, c ≠ 45) → Gd s → Gd (List.foldl m_hyphen_places_l0 s (l.map fun c => (⟨#[c]⟩ : PySem.Str)))
  | [], s, _, h => h
  | c :: l, s, hc, h => by
    rw [List.map_cons, List.foldl_cons]
    exact gd_list l _ (fun d hd => hc d (List.mem_cons_of_mem _ hd)) (gd_sign (hc c List.mem_cons_self) h)
theorem cut_step (ds : List Int) {w : PySem.Str} (hw : Abc w) (t : PySem.Str) (k : Int) (h : Asc t ∧ Gd (hyp t)) : Asc (m_law_cut_l0 ds w t k) ∧ Gd (hyp (m_law_cut_l0 ds w t k)) ∧ (m_law_cut_l0 ds w t k).length ≤ t.length + 2 := by
  have hc := abc_getD hw (Int.toNat k)
  unfold m_law_cut_l0
  dsimp only
  rw [at_one]
  split
  · refine ⟨asc_app (asc_app h.1 (by rw [dash_eq]; exact asc_one (by decide))) (asc_one hc.2), ?_, ?_⟩
    · rw [hyp_app, hyp_app, dash_eq, chars_one_eq, chars_one_eq]
      exact gd_both hc.1 h.2
    · rw [str_len_app, str_len_app, l_dash]
      exact Nat.le_refl _
  · refine ⟨asc_app h.1 (asc_one hc.2), ?_, ?_⟩
    · rw [hyp_app, chars_one_eq]
      exact gd_sign hc.1 h.2
    · rw [str_len_app]
      exact Nat.add_le_add_left (by show 1 ≤ 2; decide) _
theorem cut_ok {w : PySem.Str} (hw : Abc w) (c : Int) : Asc (m_law_cut w c) ∧ Gd (hyp (m_law_cut w c)) := by
  unfold m_law_cut
  dsimp only
  have h0 : Abc (cutS w none (some 1)) := fun d hd => by
    refine hw d ?_
    unfold cutS cps at hd
    exact List.mem_of_mem_drop (List.mem_of_mem_take (by simpa using hd))
  have h1 : Gd (hyp (cutS w none (some 1))) := by
    unfold hyp
    rw [chars_cps]
    exact gd_list _ _ (fun d hd => by have := h0 d hd; omega) ⟨List.Pairwise.nil, fun x hx => by cases hx⟩
  exact loopN_keep (f := m_law_cut_l0 (m_law_draws c (24 : Int)) w) (fun s j => Asc s ∧ Gd (hyp s)) (fun s k j h => ⟨(cut_step _ hw s k h).1, (cut_step _ hw s k h).2.1⟩) _ 1 _ 0 ⟨h0.asc, h1⟩
theorem cut_len (w : PySem.Str) (c : Int) : (m_law_cut w c).length ≤ 3 * w.length := by
  unfold m_law_cut
  dsimp only
  have key := loopN_keep (f := m_law_cut_l0 (m_law_draws c (24 : Int)) w) (fun s j => s.length ≤ w.length + 2 * j) (fun s k j h => by
    unfold m_law_cut_l0
    dsimp only
    rw [str_len_app, strAt_len]
    split
    · rw [str_len_app, l_dash]; omega
    · omega) (Int.toNat (((Str.length w : Nat) : Int) - (1 : Int))) 1 (cutS w none (some 1)) 0 (cutS_length _ _ _)
  rw [Nat.zero_add] at key
  refine Nat.le_trans key ?_
  omega

def m_law_expected_l1  (s_ : (List Int) × Int) (x_ : PySem.Str) : (List Int) × Int :=
  let marked_ : (List Int) := s_.1
  let at_ : Int := s_.2
  let sign_ : PySem.Str := x_
  if (decide (sign_ = (PySem.Str.ofString "-"))) = true then
    let marked_ : (List Int) := marked_ ++ [at_]
    (marked_, at_)
  else
    let at_ : Int := (at_ + (1 : Int))
    (marked_, at_)
def m_law_expected_l0 (small_ : PySem.Str) (inner_ : (List Int)) (s_ : Unit) (x_ : PySem.Str) : Lp (List Int) (Unit) :=
  let text_ : PySem.Str := x_
  if ((!(m_law_is_pattern text_)) && (decide ((Txt.lower (Txt.replace text_ (PySem.Str.ofString "-") (PySem.Str.ofString ""))) = small_))) = true then
    let marked_ : (List Int) := []
    let at_ : Int := (0 : Int)
    let r1_ : (List Int) × Int := List.foldl m_law_expected_l1 (marked_, at_) (chars text_)
    let marked_ : (List Int) := r1_.1
    let at_ : Int := r1_.2
    Lp.ret (List.map (fun (c_ : Int) => c_) (List.filter (fun (c_ : Int) => (decide (c_ ∈ marked_))) inner_))
  else
    Lp.nxt ()
def m_law_expected (entries_ : (List PySem.Str)) (word_ : PySem.Str) : (List Int) :=
  let small_ : PySem.Str := (Txt.lower word_)
  let inner_ : (List Int) := (List.map (fun (c_ : Int) => c_) (irng (2 : Int) (Int.toNat ((((Str.length word_ : Nat) : Int) - (2 : Int)) - (2 : Int)))))
  match (loopL (m_law_expected_l0 small_ inner_) entries_ () : (List Int) ⊕ (Unit)) with
  | .inl rr_ => rr_
  | .inr r0_ =>
    let patterns_ : (List PySem.Str) := (List.map (fun (c_ : PySem.Str) => c_) (List.filter (fun (c_ : PySem.Str) => (m_law_is_pattern c_)) entries_))
    (List.map (fun (c_ : Int) => c_) (List.filter (fun (c_ : Int) => (decide (((m_law_level patterns_ small_ c_) % (2 : Int)) = (1 : Int)))) inner_))
abbrev s_law_expected : Stmt := topS 19
theorem sc_law_expected : FnScope ["entries", "word", "small", "inner", "k", "text", "marked", "at", "sign", "patterns"] ["entries", "word"] (defScope s_law_expected) := ⟨rfl, rfl, rfl, by decide +kernel, rfl, by decide +kernel, by decide +kernel⟩
abbrev sp_law_expected (K : PySem.W.Frag) : Sp := PrD K (fun c : (List PySem.Str) × PySem.Str => [Datum.toD c.1, Datum.toD c.2]) (fun c => c.2.length ≤ 24 ∧ c.1.length ≤ 20 ∧ ∀ e ∈ c.1, e.length ≤ 24) (fun c => (m_law_expected c.1 c.2 : (List Int)))
theorem ok_law_expected (T : Txt K mg) : FnOk P w K mg base CX0 2 T.f_law_expected T.d_law_expected ["entries", "word"] (sp_law_expected K) := by
  refine T.u_law_expected.ok sc_law_expected (fun vs H Q E h => ?_) (fun cdv A outer s H vs Q E hr h => ?_)
  · obtain ⟨Mc, c, mok, da, pre, q⟩ := h
    exact (dpa_len da)
  · obtain ⟨Mc, c, mok, da, pre, q⟩ := h
    obtain ⟨entries_, word_⟩ := c
    dsimp only at da pre q
    obtain ⟨v0, w0, rfl, d0, da0⟩ := dpa_inv da
    obtain ⟨v1, w1, rfl, d1, da1⟩ := dpa_inv da0
    cases dpa_inv0 da1
    cases (Dt.str d1)
    have s0 : Sg K Mc H H [(v0, Datum.toD entries_)] [] := Sg.enter mok ⟨d0, True.intro⟩
    refine ⟨_, (pss_lowT (i := 2) sc_law_expected.nd rfl (.inr rfl) (pv 1) (psst_cons (PST.of (ps_setLc (i := 3) rfl sc_law_expected.nd rfl rfl (sw_true rfl rfl rfl (by decide +kernel)) (own := [("k", 4)]) (g := gName 4) (pi_range2 (by rfl) T.n_range (pa_cons pe_int (pa_cons (pe_op op_sub (pe_callB call_len (by rfl) T.n_len (by decide +kernel) (pa_cons (pv 1) pa_nil)) pe_int) pa_nil))) (blkOk_by (own := [("k", 4)]) (N := ["entries", "word", "small", "inner", "k", "text", "marked", "at", "sign", "patterns"]) (sc := defScope s_law_expected) (by decide +kernel)) (fun _ _ _ _ _ => (pg_name (i := 4) sc_law_expected.nd rfl (Or.inl rfl) (.inr (by rfl)))) (fun _ _ _ _ _ => pts_nil) (fun _ _ _ _ _ => (pv 4)))) (psst_cons (pst_forT PassesOwn.never rfl (pi_list (pv 0)) (pg_name (i := 5) sc_law_expected.nd rfl (.inl rfl)) (psst_cons (pst_ifT (PWT.ptt (pwt_and (PTT.of (pt_not (pt_val (pe_call (ok_law_is_pattern T) hr (by rfl) T.g_law_is_pattern T.u_law_is_pattern.kp T.b_law_is_pattern .nil pass0 (pa_cons (pv 5) pa_nil))))) (pwt_and1 (ptt_cmp op_eq (pet_lower (pet_replC (pv 5))) (pv 2) (nomark _))))) (PSsT.of (pss_cons (ps_set (i := 6) sc_law_expected.nd rfl (.inr rfl) (pe_lst pa_nil)) (pss_cons (ps_set (i := 7) sc_law_expected.nd rfl (.inl rfl) pe_int) (pss_cons (ps_for PassesOwn.never rfl (pi_str (pv 5)) (pg_name (i := 8) sc_law_expected.nd rfl (.inl rfl)) (pss_cons (ps_if (pt_cmpR op_eq (pv 8) pe_str (nomark _)) (pss_cons (ps_expr (pe_bm PySem.F.plainAttrs_list PySem.F.slot_list_append PySem.F.type_list_append mt_append (pv 6) (pa_cons (pv 7) pa_nil))) pss_nil) (pss_cons (ps_set (i := 7) sc_law_expected.nd rfl (.inl rfl) (pe_op op_add (pv 7) pe_int)) pss_nil)) pss_nil)) (pss_cons (ps_ret (pe_lc (own := [("k", 4)]) (g := gName 4) rfl sc_law_expected.nd (pi_list (pv 3)) (blkOk_by (own := [("k", 4)]) (N := ["entries", "word", "small", "inner", "k", "text", "marked", "at", "sign", "patterns"]) (sc := defScope s_law_expected) (by decide +kernel)) (fun _ _ _ _ _ => (pg_name (i := 4) sc_law_expected.nd rfl (Or.inl rfl) (.inr (by rfl)))) (fun _ _ _ _ _ => pts_one (pt_cmpR (show OpR _ _ (rIn K false) from op_in_seq) (pv 4) (pv 6) (by rfl))) (fun _ _ _ _ _ => (pv 4)))) pss_nil))))) (PSsT.of pss_nil)) (PSsT.of pss_nil))) (PSsT.of (pss_cons (ps_set (i := 9) sc_law_expected.nd rfl (.inr rfl) (pe_lc (own := [("text", 5)]) (g := gName 5) rfl sc_law_expected.nd (pi_list (pv 0)) (blkOk_by (own := [("text", 5)]) (N := ["entries", "word", "small", "inner", "k", "text", "marked", "at", "sign", "patterns"]) (sc := defScope s_law_expected) (by decide +kernel)) (fun _ _ _ _ _ => (pg_name (i := 5) sc_law_expected.nd rfl (Or.inl rfl) (.inr (by rfl)))) (fun _ _ _ _ _ => pts_one (pt_val (pe_call (ok_law_is_pattern T) hr (by rfl) T.g_law_is_pattern T.u_law_is_pattern.kp T.b_law_is_pattern .nil pass0 (pa_cons (pv 5) pa_nil)))) (fun _ _ _ _ _ => (pv 5)))) (pss_cons (ps_ret (pe_lc (own := [("k", 4)]) (g := gName 4) rfl sc_law_expected.nd (pi_list (pv 3)) (blkOk_by (own := [("k", 4)]) (N := ["entries", "word", "small", "inner", "k", "text", "marked", "at", "sign", "patterns"]) (sc := defScope s_law_expected) (by decide +kernel)) (fun _ _ _ _ _ => (pg_name (i := 4) sc_law_expected.nd rfl (Or.inl rfl) (.inr (by rfl)))) (fun _ _ _ _ _ => pts_one (pt_cmpR op_eq (pe_op op_mod (pe_callTy call_int1 (by rfl) T.n_int (by decide +kernel) (pa_cons (pe_call (ok_law_level T) hr (by rfl) T.g_law_level T.u_law_level.kp T.b_law_level .nil pass0 (pa_cons (pv 9) (pa_cons (pv 2) (pa_cons (pv 4) pa_nil)))) pa_nil)) pe_int) pe_int (nomark _))) (fun _ _ _ _ _ => (pv 4)))) pss_nil)))))), ?_⟩
    refine z_asgSG s0 (hv_lower (hv_vS rfl) (by have := l_dot; have := l_emp; have := l_abcB; have := l_dash; first | omega | (simp only [str_len_app, mulS_len, strAt_len]; omega))) fun small_2 hsmall_2 Hs1 s1 => ?_
    try dsimp only at hsmall_2
    have lsm : small_2.length ≤ 72 := by rw [hsmall_2]; have := PyProof.Rows.len_lower word_; omega
    refine z_asgG s1 (hv_lcR20 s1 (fun (c_ : Int) => c_) (hv_int 2) (hv_sub (hv_lenS (hv_vS rfl) (by have := l_dot; have := l_emp; have := l_abcB; have := l_dash; first | omega | (simp only [str_len_app, mulS_len, strAt_len]; omega))) (hv_int 2)) (by first | omega | decide +kernel | (simp only [List.length_cons, List.length_nil]; omega)) (fun D6 c7 ys9 Hs5 s5 hx11 Q k => by exact k _ rfl (hv_vI rfl))) fun inner_4 hinner_4 vinner_4 Hs3 s3 => ?_
    try dsimp only at hinner_4
    have linl : inner_4.length ≤ 24 := by rw [hinner_4, List.length_map, irng_len]; omega
    have linn : ∀ x ∈ inner_4, 2 ≤ x ∧ x < 100 := by rw [hinner_4]; exact inner_in pre.1
    refine zq_forG s3 (hv_var (x := entries_) rfl s3.im.2.1) (fun vsrc0 i σ' H' => ∃ (o13 : Option V) (o14 : Option V) (o15 : Option V) (o16 : Option V) (o17 : Option V) (o18 : Option V), (loopL (m_law_expected_l0 small_2 inner_4) entries_ () : (List Int) ⊕ (Unit)) = (loopL (m_law_expected_l0 small_2 inner_4) (List.drop i entries_) () : (List Int) ⊕ (Unit)) ∧ True ∧ σ' = [some v0, some (V.str word_), some (V.str small_2), some vinner_4, o13, o14, o15, o16, o17, o18] ∧ Sg K Mc H H' [(vsrc0, Datum.toD entries_), (vinner_4, Datum.toD inner_4), (v0, Datum.toD entries_)] []) (fun vsrc0 Hs19 s19 => ⟨_, _, _, _, _, _, rfl, (by first | trivial | omega | (simp; done) | simp_all), rfl, s19.keep fun _ h => ⟨h.1, ⟨h.2.1, ⟨h.2.2.1, True.intro⟩⟩⟩⟩) (fun vsrc0 i σ' H' hP => by obtain ⟨o13, o14, o15, o16, o17, o18, he, hg, hs, hS⟩ := hP; exact hS.im.1) (fun vsrc0 i23 x24 wx24 σ' Hs22 hi26 hP hx25 => ?_) (fun vsrc0 σ' Hs22 hP => ?_)
    · obtain ⟨o13, o14, o15, o16, o17, o18, he20, hg21, rfl, s22⟩ := hP
      cases (Dt.str hx25)
      have hent := pre.2.2 _ (List.mem_of_getElem? hi26)
      have hchl := chars_len x24
      refine z_ifx (b := ((!(m_law_is_pattern x24)) && (decide ((Txt.lower (Txt.replace x24 (PySem.Str.ofString "-") (PySem.Str.ofString ""))) = small_2)))) s22 (ht_and (ht_not (ht_B (K := K) (hv_call x24 (hd_cons (hv_vS rfl) hd_nil) True.intro))) (fun hb0 => (ht_val (K := K) (hv_eqS (hv_lower (hv_replC (hv_vS rfl) (by have := l_emp; rw [l_emp]; omega)) (by refine Nat.le_trans (TK.replace_len _ _ _) ?_; rw [l_emp]; omega)) (hv_vS rfl))))) (fun hb28 Hs29 s29 => ?_) (fun hb28 Hs30 s30 => ?_)
      · have hb28P := hb28
        try simp only [decide_eq_true_eq, decide_eq_false_iff_not, Bool.not_eq_true', Bool.not_eq_false', Bool.and_eq_true, Bool.or_eq_true, Bool.or_eq_false_iff] at hb28P
        refine z_nilG Int s29 fun marked_32 hmarked_32 ps31 Hs31 s31 => ?_
        have lmarked_32 : marked_32.length = 0 := by rw [hmarked_32]; rfl
        refine z_asgIG s31 (hv_int 0) fun at_34 hat_34 Hs33 s33 => ?_
        try dsimp only at hat_34
        refine zq_forS s33 (hv_vS rfl) (fun i σ' H' => ∃ (marked_35 : (List Int)) (at_36 : Int) (o37 : Option V) (o38 : Option V) (o39 : Option V), (List.foldl m_law_expected_l1 (marked_32, at_34) (chars x24) : (List Int) × Int) = (List.foldl m_law_expected_l1 (marked_35, at_36) (List.drop i (chars x24)) : (List Int) × Int) ∧ (marked_35.length ≤ (i) ∧ at_36 ≤ (i) ∧ 0 ≤ at_36) ∧ σ' = [some v0, some (V.str word_), some (V.str small_2), some vinner_4, o37, some (V.str x24), some (.ref ps31), some (V.int at_36), o38, o39] ∧ Sg K Mc H H' [(vsrc0, Datum.toD entries_), (vinner_4, Datum.toD inner_4), (v0, Datum.toD entries_)] [(ps31, .lst (List.map Datum.toD marked_35))]) (fun Hs40 s40 => ⟨marked_32, at_34, _, _, _, rfl, (by first | trivial | omega | (simp; done) | simp_all), rfl, s40.keep fun _ h => ⟨h.1, ⟨h.2.1, ⟨h.2.2.1, True.intro⟩⟩⟩⟩) (fun i44 x45 σ' Hs43 hi47 hP => ?_) (fun σ' Hs43 hP => ?_)
        · obtain ⟨marked_35, at_36, o37, o38, o39, he41, hg42, rfl, s43⟩ := hP
          have ox45 := chars_one hi47
          have qx45 := (List.getElem?_eq_some_iff.mp hi47).1
          refine z_if (b := (decide (x45 = (PySem.Str.ofString "-")))) s43 (ht_val (K := K) (hv_eqS (hv_vS rfl) (hv_str _))) (fun hb49 Hs50 s50 => ?_) (fun hb49 Hs51 s51 => ?_)
          · have hb49P := hb49
            try simp only [decide_eq_true_eq, decide_eq_false_iff_not, Bool.not_eq_true', Bool.not_eq_false', Bool.and_eq_true, Bool.or_eq_true, Bool.or_eq_false_iff] at hb49P
            refine zq_appG s50 (kk := 0) rfl (ev_var rfl) (hv_vI rfl) (by first | omega | decide +kernel | (simp only [List.length_cons, List.length_nil]; omega)) fun marked_53 hmarked_53 Hs52 s52 => ?_
            have lmarked_53 : marked_53.length = marked_35.length + 1 := by rw [hmarked_53, List.length_append]; rfl
            have s52 : Sg K Mc _ _ _ [(ps31, .lst (List.map Datum.toD marked_53))] := s52
            have hf54 : m_law_expected_l1 (marked_35, at_36) x45 = (marked_53, at_36) := (by subst hmarked_53; subst hat_34; subst hmarked_32; subst hinner_4; subst hsmall_2; first | (simp only [m_law_expected_l1, hb28, hb49, if_true, if_false, Bool.false_eq_true, decide_true, decide_false, Option.getD_some, Option.isNone_none, Option.isNone_some, Bool.not_true, Bool.not_false, ↓reduceIte]; done) | (rfl; done) | (exfalso; simp at hb49; done) | (exfalso; simp at hb28; done))
            exact ⟨marked_53, at_36, _, _, _, he41.trans ((foldl_step hi47).trans (by rw [hf54])), (by first | trivial | omega | (simp_all; done) | (simp_all; omega)), rfl, s52.keep fun _ h => ⟨h.1, ⟨h.2.1, ⟨h.2.2.1, True.intro⟩⟩⟩⟩
          · have hb49P := hb49
            try simp only [decide_eq_true_eq, decide_eq_false_iff_not, Bool.not_eq_true', Bool.not_eq_false', Bool.and_eq_true, Bool.or_eq_true, Bool.or_eq_false_iff] at hb49P
            refine z_asgIG s51 (hv_add (hv_vI rfl) (hv_int 1)) fun at_56 hat_56 Hs55 s55 => ?_
            try dsimp only at hat_56
            have hf57 : m_law_expected_l1 (marked_35, at_36) x45 = (marked_35, at_56) := (by subst hat_56; subst hat_34; subst hmarked_32; subst hinner_4; subst hsmall_2; first | (simp only [m_law_expected_l1, hb28, hb49, if_true, if_false, Bool.false_eq_true, decide_true, decide_false, Option.getD_some, Option.isNone_none, Option.isNone_some, Bool.not_true, Bool.not_false, ↓reduceIte]; done) | (rfl; done) | (exfalso; simp at hb49; done) | (exfalso; simp at hb28; done))
            exact ⟨marked_35, at_56, _, _, _, he41.trans ((foldl_step hi47).trans (by rw [hf57])), (by first | trivial | omega | (simp_all; done) | (simp_all; omega)), rfl, s55.keep fun _ h => ⟨h.1, ⟨h.2.1, ⟨h.2.2.1, True.intro⟩⟩⟩⟩
        · obtain ⟨marked_58, at_59, o60, o61, o62, he64, hg65, rfl, s63⟩ := hP
          rw [foldl_end] at he64
          have s66 := Sg.frz (xs := marked_58) s63
          have hf67 : (m_law_expected_l0 small_2 inner_4) () x24 = Lp.ret (List.map (fun (c_ : Int) => c_) (List.filter (fun (c_ : Int) => (decide (c_ ∈ marked_58))) inner_4)) := (by subst hat_34; subst hmarked_32; subst hinner_4; subst hsmall_2; first | (simp only [m_law_expected_l0, hb28, he64, if_true, if_false, Bool.false_eq_true, decide_true, decide_false, Option.getD_some, Option.isNone_none, Option.isNone_some, Bool.not_true, Bool.not_false, ↓reduceIte]; done) | (rfl; done) | (exfalso; simp at hb28; done))
          have hl68 := he20.trans (loopL_ret hi26 hf67)
          have hF69 : m_law_expected entries_ word_ = (List.map (fun (c_ : Int) => c_) (List.filter (fun (c_ : Int) => (decide (c_ ∈ marked_58))) inner_4)) := (by subst hat_34; subst hmarked_32; subst hinner_4; subst hsmall_2; first | (simp only [m_law_expected, hb28, he64, hl68, if_true, if_false, Bool.false_eq_true, decide_true, decide_false, Option.getD_some, Option.isNone_none, Option.isNone_some, Bool.not_true, Bool.not_false, ↓reduceIte]; done) | (rfl; done) | (exfalso; simp at hb28; done))
          exact zq_ret s66 (hv_lcL s66 (fun (c_ : Int) => (decide (c_ ∈ marked_58))) (fun (c_ : Int) => c_) (hv_var (x := inner_4) rfl s66.im.2.2.1) (by first | omega | decide +kernel | (simp only [List.length_cons, List.length_nil]; omega)) (fun D71 src75 c72 w73 ys74 Hs70 s70 hx76 Q k => by cases (Dt.int s70.im.1); exact k _ rfl (ht_val (K := K) (hv_inLI (hv_vI rfl) (hs_of (hv_var (x := marked_58) rfl s70.im.2.2.1)))) (fun hf => (hv_vI rfl)))) fun v H' e d => q v H' e (by rw [hF69]; exact d)
      · have hb28P := hb28
        try simp only [decide_eq_true_eq, decide_eq_false_iff_not, Bool.not_eq_true', Bool.not_eq_false', Bool.and_eq_true, Bool.or_eq_true, Bool.or_eq_false_iff] at hb28P
        have hf78 : (m_law_expected_l0 small_2 inner_4) () x24 = Lp.nxt () := (by subst hinner_4; subst hsmall_2; first | (simp only [m_law_expected_l0, hb28, if_true, if_false, Bool.false_eq_true, decide_true, decide_false, Option.getD_some, Option.isNone_none, Option.isNone_some, Bool.not_true, Bool.not_false, ↓reduceIte]; done) | (rfl; done) | (exfalso; simp at hb28; done))
        exact ⟨_, _, _, _, _, _, he20.trans (loopL_nxt hi26 hf78), (by first | trivial | omega | (simp_all; done) | (simp_all; omega)), rfl, s30.keep fun _ h => ⟨h.1, ⟨h.2.1, ⟨h.2.2.1, True.intro⟩⟩⟩⟩
    · obtain ⟨o79, o80, o81, o82, o83, o84, he86, hg87, rfl, s85⟩ := hP
      rw [loopL_end] at he86
      refine z_asgG s85 (hv_lcL s85 (fun (c_ : PySem.Str) => (m_law_is_pattern c_)) (fun (c_ : PySem.Str) => c_) (hv_var (x := entries_) rfl s85.im.2.2.1) (by first | omega | decide +kernel | (simp only [List.length_cons, List.length_nil]; omega)) (fun D91 src95 c92 w93 ys94 Hs90 s90 hx96 Q k => by cases (Dt.str s90.im.1); exact k _ rfl (ht_B (K := K) (hv_call c92 (hd_cons (hv_vS rfl) hd_nil) True.intro)) (fun hf => (hv_vS rfl)))) fun patterns_89 hpatterns_89 vpatterns_89 Hs88 s88 => ?_
      try dsimp only at hpatterns_89
      have lpat : patterns_89.length ≤ 20 ∧ ∀ e ∈ patterns_89, e.length ≤ 24 := by rw [hpatterns_89, List.map_id']; exact ⟨Nat.le_trans (List.length_filter_le _ _) pre.2.1, fun e he => pre.2.2 e (List.mem_filter.mp he).1⟩
      have hF98 : m_law_expected entries_ word_ = (List.map (fun (c_ : Int) => c_) (List.filter (fun (c_ : Int) => (decide (((m_law_level patterns_89 small_2 c_) % (2 : Int)) = (1 : Int)))) inner_4)) := (by subst hpatterns_89; subst hinner_4; subst hsmall_2; first | (simp only [m_law_expected, he86, if_true, if_false, Bool.false_eq_true, decide_true, decide_false, Option.getD_some, Option.isNone_none, Option.isNone_some, Bool.not_true, Bool.not_false, ↓reduceIte]; done) | (rfl; done))
      exact zq_ret s88 (hv_lcL s88 (fun (c_ : Int) => (decide (((m_law_level patterns_89 small_2 c_) % (2 : Int)) = (1 : Int)))) (fun (c_ : Int) => c_) (hv_var (x := inner_4) rfl s88.im.2.2.1) (by first | omega | decide +kernel | (simp only [List.length_cons, List.length_nil]; omega)) (fun D100 src104 c101 w102 ys103 Hs99 s99 hx105 Q k => by cases (Dt.int s99.im.1); exact k _ rfl (ht_val (K := K) (hv_eqI (hv_mod (hv_intI (hv_call (patterns_89, small_2, c101) (hd_cons (hv_var (x := patterns_89) rfl s99.im.2.2.1) (hd_cons (hv_vS rfl) (hd_cons (hv_vI rfl) hd_nil))) (by dsimp only; refine ⟨by omega, lpat.1, lpat.2, ?_, ?_⟩ <;> have := linn _ (by assumption) <;> omega))) (hv_int 2) (by first | omega | decide +kernel | (simp only [List.length_cons, List.length_nil]; omega))) (hv_int 1))) (fun hf => (hv_vI rfl)))) fun v H' e d => q v H' e (by rw [hF98]; exact d)
theorem expected_len (es : List PySem.Str) (w : PySem.Str) : (m_law_expected es w).length ≤ w.length := by
  unfold m_law_expected
  dsimp only
  generalize hi : (List.map (fun (c_ : Int) => c_) (irng (2 : Int) (Int.toNat ((((Str.length w : Nat) : Int) - (2 : Int)) - (2 : Int))))) = inner
  have hl : inner.length ≤ w.length := by rw [← hi, List.length_map, irng_len]; omega
  have key := loopL_ret_P (f := m_law_expected_l0 (Txt.lower w) inner) (P := fun r => r.length ≤ w.length) es () (fun s x r hx hr => by
    unfold m_law_expected_l0 at hr
    dsimp only at hr
    split at hr
    · cases hr
      rw [List.length_map]
      exact Nat.le_trans (List.length_filter_le _ _) hl
    · cases hr)
  cases hq : (loopL (m_law_expected_l0 (Txt.lower w) inner) es () : (List Int) ⊕ Unit) with
  | inl r => exact key r hq
  | inr r =>
    dsimp only
    rw [List.length_map]
    exact Nat.le_trans (List.length_filter_le _ _) hl

def m_levels_l1  (s_ : (List Int)) (x_ : (Int × Int)) : (List Int) :=
  let found_ : (List Int) := s_
  let at_ : Int := x_.1
  let level_ : Int := x_.2
  let found_ : (List Int) := (List.set found_ (Int.toNat at_) (max (found_.getD (Int.toNat at_) 0) level_))
  found_
def m_levels_l0 (dotted_ : PySem.Str) (s_ : (List Int)) (x_ : PySem.Str) : (List Int) :=
  let found_ : (List Int) := s_
  let entry_ : PySem.Str := x_
  let r1_ : (List Int) := List.foldl m_levels_l1 found_ (m_given_levels entry_ dotted_)
  let found_ : (List Int) := r1_
  found_
def m_levels (entries_ : (List PySem.Str)) (word_ : PySem.Str) : (List Int) :=
  let dotted_ : PySem.Str := (((PySem.Str.ofString ".") ++ (Txt.lower word_)) ++ (PySem.Str.ofString "."))
  let found_ : (List Int) := (List.flatten (List.replicate (Int.toNat (((Str.length dotted_ : Nat) : Int) + (1 : Int))) [(0 : Int)]))
  let r0_ : (List Int) := List.foldl (m_levels_l0 dotted_) found_ entries_
  let found_ : (List Int) := r0_
  (cutL found_ (some (2 : Int)) (some (-2 : Int)))
abbrev s_levels : Stmt := topS 2
theorem sc_levels : FnScope ["entries", "word", "dotted", "found", "entry", "at", "level"] ["entries", "word"] (defScope s_levels) := ⟨rfl, rfl, rfl, by decide +kernel, rfl, by decide +kernel, by decide +kernel⟩
abbrev sp_levels (K : PySem.W.Frag) : Sp := PrD K (fun c : (List PySem.Str) × PySem.Str => [Datum.toD c.1, Datum.toD c.2]) (fun c => c.2.length ≤ 24 ∧ c.1.length ≤ 20 ∧ ∀ e ∈ c.1, e.length ≤ 24) (fun c => (m_levels c.1 c.2 : (List Int)))
theorem ok_levels (T : Txt K mg) : FnOk P w K mg base CX0 3 T.f_levels T.d_levels ["entries", "word"] (sp_levels K) := by
  refine T.u_levels.ok sc_levels (fun vs H Q E h => ?_) (fun cdv A outer s H vs Q E hr h => ?_)
  · obtain ⟨Mc, c, mok, da, pre, q⟩ := h
    exact (dpa_len da)
  · obtain ⟨Mc, c, mok, da, pre, q⟩ := h
    obtain ⟨entries_, word_⟩ := c
    dsimp only at da pre q
    obtain ⟨v0, w0, rfl, d0, da0⟩ := dpa_inv da
    obtain ⟨v1, w1, rfl, d1, da1⟩ := dpa_inv da0
    cases dpa_inv0 da1
    cases (Dt.str d1)
    have s0 : Sg K Mc H H [(v0, Datum.toD entries_)] [] := Sg.enter mok ⟨d0, True.intro⟩
    refine ⟨_, (pss_cons (ps_set (i := 2) sc_levels.nd rfl (.inl rfl) (pe_op op_add_str (pe_op op_add_str pe_str (pe_lower (pv 1))) pe_str)) (pss_cons (ps_set (i := 3) sc_levels.nd rfl (.inl rfl) (pe_op op_rep (pe_lst (pa_cons pe_int pa_nil)) (pe_op op_add (pe_callB call_len (by rfl) T.n_len (by decide +kernel) (pa_cons (pv 2) pa_nil)) pe_int))) (pss_cons (ps_for PassesOwn.never rfl (pi_list (pv 0)) (pg_name (i := 4) sc_levels.nd rfl (.inl rfl)) (pss_cons (ps_for PassesOwn.never rfl (pi_list (pe_call (ok_given_levels T) hr (by rfl) T.g_given_levels T.u_given_levels.kp T.b_given_levels .nil pass0 (pa_cons (pv 4) (pa_cons (pv 2) pa_nil)))) (pg_tup rfl (pgs_cons (pg_name (i := 5) sc_levels.nd rfl (.inl rfl)) (pgs_cons (pg_name (i := 6) sc_levels.nd rfl (.inl rfl)) pgs_nil))) (pss_cons (ps_asg (pe_callB (call_max2 rfl) (by rfl) T.n_max (by decide +kernel) (pa_cons (pe_ix ix_list (pv 3) (pv 5) (fun _ _ => rfl)) (pa_cons (pv 6) pa_nil))) (pg_sub (pv 3) (pv 5) set_list)) pss_nil)) pss_nil)) (pss_cons (ps_ret (pe_slice sl_list (pv 3) (po_some pe_int) (po_some (pe_un un_neg pe_int)))) pss_nil)))), ?_⟩
    refine z_asgSG s0 (hv_addS (hv_addS (hv_str _) (hv_lower (hv_vS rfl) (by omega)) (by have := PyProof.Rows.len_lower word_; simp only [l_dot, str_len_app]; omega)) (hv_str _) (by have := PyProof.Rows.len_lower word_; simp only [l_dot, str_len_app]; omega)) fun dotted_2 hdotted_2 Hs1 s1 => ?_
    try dsimp only at hdotted_2
    have ltdotted_2 : dotted_2.length = _ := (congrArg Str.length hdotted_2).trans (str_len_app _ _)
    try simp only [str_len_app, strAt_len] at ltdotted_2
    have lddotted_2 : dotted_2.length ≤ 74 := by rw [hdotted_2]; have := PyProof.Rows.len_lower word_; simp only [l_dot, str_len_app]; omega
    refine z_freshG s1 (hf_rep (has_cons (hv_int 0) has_nil) (hv_add (hv_lenS (hv_vS rfl) (by have := l_dot; have := l_emp; have := l_abcB; have := l_dash; first | omega | (simp only [str_len_app, mulS_len, strAt_len]; omega))) (hv_int 1)) (Nat.le_of_ble_eq_true rfl) (by first | omega | decide +kernel | (simp only [List.length_cons, List.length_nil]; omega)) (by simp only [List.length_cons, List.length_nil]; omega) (by first | omega | decide +kernel | (simp only [List.length_cons, List.length_nil]; omega))) fun found_4 hfound_4 ps3 Hs3 s3 => ?_
    try dsimp only at hfound_4
    have lfound_4 := congrArg List.length hfound_4
    try simp only [List.length_map, irng_len, List.length_flatten, List.map_replicate, List.sum_replicate_nat, List.length_cons, List.length_nil] at lfound_4
    refine zq_forG s3 (hv_var (x := entries_) rfl s3.im.1) (fun vsrc0 i σ' H' => ∃ (found_5 : (List Int)) (o6 : Option V) (o7 : Option V) (o8 : Option V), (List.foldl (m_levels_l0 dotted_2) found_4 entries_ : (List Int)) = (List.foldl (m_levels_l0 dotted_2) found_5 (List.drop i entries_) : (List Int)) ∧ (found_5.length = dotted_2.length + 1) ∧ σ' = [some v0, some (V.str word_), some (V.str dotted_2), some (.ref ps3), o6, o7, o8] ∧ Sg K Mc H H' [(vsrc0, Datum.toD entries_), (v0, Datum.toD entries_)] [(ps3, .lst (List.map Datum.toD found_5))]) (fun vsrc0 Hs9 s9 => ⟨found_4, _, _, _, rfl, (by first | trivial | omega | (simp; done) | simp_all), rfl, s9.keep fun _ h => ⟨h.1, ⟨h.2.1, True.intro⟩⟩⟩) (fun vsrc0 i σ' H' hP => by obtain ⟨found_5, o6, o7, o8, he, hg, hs, hS⟩ := hP; exact hS.im.1) (fun vsrc0 i13 x14 wx14 σ' Hs12 hi16 hP hx15 => ?_) (fun vsrc0 σ' Hs12 hP => ?_)
    · obtain ⟨found_5, o6, o7, o8, he10, hg11, rfl, s12⟩ := hP
      cases (Dt.str hx15)
      have hent := pre.2.2 _ (List.mem_of_getElem? hi16)
      refine zq_for s12 (hv_call (x14, dotted_2) (hd_cons (hv_vS rfl) (hd_cons (hv_vS rfl) hd_nil)) (by dsimp only; omega)) (fun vsrc1 i σ' H' => ∃ (found_18 : (List Int)) (o19 : Option V) (o20 : Option V), (List.foldl m_levels_l1 found_5 (m_given_levels x14 dotted_2) : (List Int)) = (List.foldl m_levels_l1 found_18 (List.drop i (m_given_levels x14 dotted_2)) : (List Int)) ∧ (found_18.length = dotted_2.length + 1) ∧ σ' = [some v0, some (V.str word_), some (V.str dotted_2), some (.ref ps3), some (V.str x14), o19, o20] ∧ Sg K Mc H H' [(vsrc1, Datum.toD (m_given_levels x14 dotted_2)), (vsrc0, Datum.toD entries_), (v0, Datum.toD entries_)] [(ps3, .lst (List.map Datum.toD found_18))]) (fun vsrc1 Hs21 s21 => ⟨found_5, _, _, rfl, (by first | trivial | omega | (simp; done) | simp_all), rfl, s21.keep fun _ h => ⟨h.1, ⟨h.2.1, ⟨h.2.2.1, True.intro⟩⟩⟩⟩) (fun vsrc1 i σ' H' hP => by obtain ⟨found_18, o19, o20, he, hg, hs, hS⟩ := hP; exact hS.im.1) (fun vsrc1 i25 x26 wx26 σ' Hs24 hi28 hP hx27 => ?_) (fun vsrc1 σ' Hs24 hP => ?_)
      · obtain ⟨found_18, o19, o20, he22, hg23, rfl, s24⟩ := hP
        obtain ⟨l34, u30, u31, rfl, st35, d32, d33⟩ := Dt.pair (p := x26) hx27
        have zd32 := Dt.int d32
        subst zd32
        have zd33 := Dt.int d33
        subst zd33
        refine ⟨_, _, rfl, ex_t msk_le st35, rfl, _, _, rfl, _, _, rfl, rfl, ?_⟩
        have hgi := given_in _ _ _ (List.mem_of_getElem? hi28)
        try dsimp only at hgi
        refine z_setG s24 (kk := 0) rfl (hv_max2 (hv_at 0 (hs_mut s24 (k := 0) rfl rfl) (hv_vI rfl) (by first | omega | decide +kernel | (simp only [List.length_cons, List.length_nil]; omega)) (by first | omega | decide +kernel | (simp only [List.length_cons, List.length_nil]; omega))) (hv_vI rfl)) (ev_var rfl) (hv_vI rfl) (by first | omega | decide +kernel | (simp only [List.length_cons, List.length_nil]; omega)) (by first | omega | decide +kernel | (simp only [List.length_cons, List.length_nil]; omega)) fun found_37 hfound_37 Hs36 s36 => ?_
        try dsimp only at hfound_37
        have lfound_37 : found_37.length = found_18.length := by rw [hfound_37, List.length_set]
        have s36 : Sg K Mc _ _ _ [(ps3, .lst (List.map Datum.toD found_37))] := s36
        have hf38 : m_levels_l1 found_18 x26 = found_37 := (by subst hfound_37; subst hfound_4; subst hdotted_2; first | (simp only [m_levels_l1, if_true, if_false, Bool.false_eq_true, decide_true, decide_false, Option.getD_some, Option.isNone_none, Option.isNone_some, Bool.not_true, Bool.not_false, ↓reduceIte]; done) | (rfl; done))
        exact ⟨found_37, _, _, he22.trans ((foldl_step hi28).trans (by rw [hf38])), (by first | trivial | omega | (simp_all; done) | (simp_all; omega)), rfl, s36.keep fun _ h => ⟨h.1, ⟨h.2.1, ⟨h.2.2.1, True.intro⟩⟩⟩⟩
      · obtain ⟨found_39, o40, o41, he43, hg44, rfl, s42⟩ := hP
        rw [foldl_end] at he43
        have hf45 : (m_levels_l0 dotted_2) found_5 x14 = found_39 := (by subst hfound_4; subst hdotted_2; first | (simp only [m_levels_l0, he43, if_true, if_false, Bool.false_eq_true, decide_true, decide_false, Option.getD_some, Option.isNone_none, Option.isNone_some, Bool.not_true, Bool.not_false, ↓reduceIte]; done) | (rfl; done))
        exact ⟨found_39, _, _, _, he10.trans ((foldl_step hi16).trans (by rw [hf45])), (by first | trivial | omega | (simp_all; done) | (simp_all; omega)), rfl, s42.keep fun _ h => ⟨h.2.1, ⟨h.2.2.1, True.intro⟩⟩⟩
    · obtain ⟨found_46, o47, o48, o49, he51, hg52, rfl, s50⟩ := hP
      rw [foldl_end] at he51
      have s53 := Sg.frz (xs := found_46) s50
      have hF54 : m_levels entries_ word_ = (cutL found_46 (some (2 : Int)) (some (-2 : Int))) := (by subst hfound_4; subst hdotted_2; first | (simp only [m_levels, he51, if_true, if_false, Bool.false_eq_true, decide_true, decide_false, Option.getD_some, Option.isNone_none, Option.isNone_some, Bool.not_true, Bool.not_false, ↓reduceIte]; done) | (rfl; done))
      exact zq_ret s53 (hv_slice (hs_of (hv_var (x := found_46) rfl s53.im.1)) (ho_some (K := K) (hv_int 2)) (ho_some (K := K) (hv_neg (hv_int 2)))) fun v H' e d => q v H' e (by rw [hF54]; exact d)
def NN (s : List Int) : Prop := ∀ x ∈ s, (0 : Int) ≤ x
theorem l1_nn (s : List Int) (x : Int × Int) (h : NN s) : NN (m_levels_l1 s x) := by
  intro y hy
  unfold m_levels_l1 at hy
  dsimp only at hy
  rcases List.mem_or_eq_of_mem_set hy with hy | hy
  · exact h y hy
  · have := getD_nonneg h (Int.toNat x.1)
    rw [hy]; omega
theorem l1_len (s : List Int) (x : Int × Int) : (m_levels_l1 s x).length = s.length := by
  unfold m_levels_l1
  exact List.length_set
theorem l0_nn (d : PySem.Str) (s : List Int) (e : PySem.Str) (h : NN s) : NN (m_levels_l0 d s e) := by
  unfold m_levels_l0
  dsimp only
  exact foldl_inv NN _ s (fun s x _ h => l1_nn s x h) h
theorem l0_len (d : PySem.Str) (s : List Int) (e : PySem.Str) : (m_levels_l0 d s e).length = s.length := by
  unfold m_levels_l0
  dsimp only
  exact foldl_inv (fun t => t.length = s.length) _ s (fun t x _ h => (l1_len t x).trans h) rfl
/-- what adds no level changes nothing -/
theorem l0_zero (d : PySem.Str) (s : List Int) (e : PySem.Str) (h : NN s) (hz : ∀ m ∈ (m_split_pattern e).2, m = 0) : m_levels_l0 d s e = s := by
  unfold m_levels_l0
  dsimp only
  refine foldl_inv (fun t => t = s) _ s (fun t x hx ht => ?_) rfl
  have h0 := hz _ (given_from e d hx).2.2
  rw [ht]
  unfold m_levels_l1
  dsimp only
  refine set_same ?_
  have := getD_nonneg h (Int.toNat x.1)
  rw [h0]
  omega
theorem cutL_le {α : Type} (xs : List α) (a b : Option Int) : (cutL xs a b).length ≤ xs.length := by
  unfold cutL
  rw [List.length_take, List.length_drop]
  omega
theorem levels_len (es : List PySem.Str) (w : PySem.Str) : (m_levels es w).length ≤ 3 * w.length + 3 := by
  unfold m_levels
  dsimp only
  refine Nat.le_trans (cutL_le _ _ _) ?_
  rw [foldl_inv (fun t => t.length = (((PySem.Str.ofString ".") ++ (Txt.lower w)) ++ (PySem.Str.ofString ".")).length + 1) es _ (fun t x _ h => (l0_len _ t x).trans h) (by rw [zeros_eq, List.length_map, irng_len]; omega), str_len_app, str_len_app, l_dot]
  have := PyProof.Rows.len_lower w
  omega

def m_law_entry (word_ : PySem.Str) (cell_ : Int) : PySem.Str :=
  let draws_ : (List Int) := (m_law_draws cell_ (3 : Int))
  if (decide (((draws_.getD (Int.toNat (0 : Int)) 0) % (4 : Int)) = (0 : Int))) = true then
    let text_ : PySem.Str := (m_law_cut word_ (cell_ / (3 : Int)))
    if ((decide (((Str.length text_ : Nat) : Int) ≤ (24 : Int))) && (decide ((0 : Int) < ((draws_.getD (Int.toNat (1 : Int)) 0) % (3 : Int))))) = true then
      (if (decide (((draws_.getD (Int.toNat (1 : Int)) 0) % (3 : Int)) = (1 : Int))) = true then (Txt.lower text_) else text_)
    else
      (PySem.Str.ofString "ab-cab")
  else
    (m_law_pattern_text cell_)
abbrev s_law_entry : Stmt := topS 16
theorem sc_law_entry : FnScope ["word", "cell", "draws", "text"] ["word", "cell"] (defScope s_law_entry) := ⟨rfl, rfl, rfl, by decide +kernel, rfl, by decide +kernel, by decide +kernel⟩
abbrev sp_law_entry (K : PySem.W.Frag) : Sp := PrD K (fun c : PySem.Str × Int => [Datum.toD c.1, Datum.toD c.2]) (fun c => 1 ≤ c.1.length ∧ c.1.length ≤ 12) (fun c => (m_law_entry c.1 c.2 : PySem.Str))
theorem ok_law_entry (T : Txt K mg) : FnOk P w K mg base CX0 3 T.f_law_entry T.d_law_entry ["word", "cell"] (sp_law_entry K) := by
  refine T.u_law_entry.ok sc_law_entry (fun vs H Q E h => ?_) (fun cdv A outer s H vs Q E hr h => ?_)
  · obtain ⟨Mc, c, mok, da, pre, q⟩ := h
    exact (dpa_len da)
  · obtain ⟨Mc, c, mok, da, pre, q⟩ := h
    obtain ⟨word_, cell_⟩ := c
    dsimp only at da pre q
    obtain ⟨v0, w0, rfl, d0, da0⟩ := dpa_inv da
    obtain ⟨v1, w1, rfl, d1, da1⟩ := dpa_inv da0
    cases dpa_inv0 da1
    cases (Dt.str d0)
    cases (Dt.int d1)
    have s0 : Sg K Mc H H [] [] := Sg.enter mok True.intro
    refine ⟨_, (pss_cons (ps_set (i := 2) sc_law_entry.nd rfl (.inl rfl) (pe_call (ok_law_draws T) (hr.mono (by decide)) (by rfl) T.g_law_draws T.u_law_draws.kp T.b_law_draws .nil pass0 (pa_cons (pv 1) (pa_cons pe_int pa_nil)))) (pss_cons (ps_if (pt_cmpR op_eq (pe_op op_mod (pe_callTy call_int1 (by rfl) T.n_int (by decide +kernel) (pa_cons (pe_ix ix_list (pv 2) pe_int (fun _ _ => rfl)) pa_nil)) pe_int) pe_int (nomark _)) (pss_cons (ps_set (i := 3) sc_law_entry.nd rfl (.inl rfl) (pe_call (ok_law_cut T) hr (by rfl) T.g_law_cut T.u_law_cut.kp T.b_law_cut .nil pass0 (pa_cons (pv 0) (pa_cons (pe_op op_fdivW (pv 1) pe_int) pa_nil)))) (pss_cons (ps_if (PW.pt (pw_and (pt_cmpR op_le (pe_callB call_len (by rfl) T.n_len (by decide +kernel) (pa_cons (pv 3) pa_nil)) pe_int (nomark _)) (pw_and1 (pt_cmpR op_gt (pe_op op_mod (pe_callTy call_int1 (by rfl) T.n_int (by decide +kernel) (pa_cons (pe_ix ix_list (pv 2) pe_int (fun _ _ => rfl)) pa_nil)) pe_int) pe_int (nomark _))))) (pss_cons (ps_ret (pe_ifExp (pt_cmpR op_eq (pe_op op_mod (pe_callTy call_int1 (by rfl) T.n_int (by decide +kernel) (pa_cons (pe_ix ix_list (pv 2) pe_int (fun _ _ => rfl)) pa_nil)) pe_int) pe_int (nomark _)) (pe_lower (pv 3)) (pv 3))) pss_nil) pss_nil) (pss_cons (ps_ret pe_str) pss_nil))) pss_nil) (pss_cons (ps_ret (pe_call (ok_law_pattern_text T) hr (by rfl) T.g_law_pattern_text T.u_law_pattern_text.kp T.b_law_pattern_text .nil pass0 (pa_cons (pv 1) pa_nil))) pss_nil))), ?_⟩
    refine z_asgG s0 (hv_call (cell_, (3 : Int)) (hd_cons (hv_vI rfl) (hd_cons (hv_int 3) hd_nil)) (by first | omega | (subst_vars; omega) | decide +kernel)) fun draws_2 hdraws_2 vdraws_2 Hs1 s1 => ?_
    try dsimp only at hdraws_2
    have f3 := draws_len cell_ (3 : Int)
    rw [← hdraws_2] at f3
    refine z_ifx (b := (decide (((draws_2.getD (Int.toNat (0 : Int)) 0) % (4 : Int)) = (0 : Int)))) s1 (ht_val (K := K) (hv_eqI (hv_mod (hv_intI (hv_at 0 (hs_of (hv_var (x := draws_2) rfl s1.im.1)) (hv_int 0) (by first | omega | decide +kernel | (simp only [List.length_cons, List.length_nil]; omega)) (by first | omega | decide +kernel | (simp only [List.length_cons, List.length_nil]; omega)))) (hv_int 4) (by first | omega | decide +kernel | (simp only [List.length_cons, List.length_nil]; omega))) (hv_int 0))) (fun hb4 Hs5 s5 => ?_) (fun hb4 Hs6 s6 => ?_)
    · have hb4P := hb4
      try simp only [decide_eq_true_eq, decide_eq_false_iff_not, Bool.not_eq_true', Bool.not_eq_false', Bool.and_eq_true, Bool.or_eq_true, Bool.or_eq_false_iff] at hb4P
      refine z_asgSG s5 (hv_call (word_, (cell_ / (3 : Int))) (hd_cons (hv_vS rfl) (hd_cons (hv_div (hv_vI rfl) (hv_int 3) (by exact ⟨by decide +kernel, by decide +kernel⟩)) hd_nil)) (by exact pre)) fun text_8 htext_8 Hs7 s7 => ?_
      try dsimp only at htext_8
      have f9 := cut_len word_ (cell_ / (3 : Int))
      rw [← htext_8] at f9
      refine z_ifx (b := ((decide (((Str.length text_8 : Nat) : Int) ≤ (24 : Int))) && (decide ((0 : Int) < ((draws_2.getD (Int.toNat (1 : Int)) 0) % (3 : Int)))))) s7 (ht_and (ht_val (K := K) (hv_le (hv_lenS (hv_vS rfl) (by have := l_dot; have := l_emp; have := l_abcB; have := l_dash; first | omega | (simp only [str_len_app, mulS_len, strAt_len]; omega))) (hv_int 24))) (fun hb0 => (ht_val (K := K) (hv_gt (hv_mod (hv_intI (hv_at 0 (hs_of (hv_var (x := draws_2) rfl s7.im.1)) (hv_int 1) (by first | omega | decide +kernel | (simp only [List.length_cons, List.length_nil]; omega)) (by first | omega | decide +kernel | (simp only [List.length_cons, List.length_nil]; omega)))) (hv_int 3) (by first | omega | decide +kernel | (simp only [List.length_cons, List.length_nil]; omega))) (hv_int 0))))) (fun hb10 Hs11 s11 => ?_) (fun hb10 Hs12 s12 => ?_)
      · have hb10P := hb10
        try simp only [decide_eq_true_eq, decide_eq_false_iff_not, Bool.not_eq_true', Bool.not_eq_false', Bool.and_eq_true, Bool.or_eq_true, Bool.or_eq_false_iff] at hb10P
        have hF13 : m_law_entry word_ cell_ = (if (decide (((draws_2.getD (Int.toNat (1 : Int)) 0) % (3 : Int)) = (1 : Int))) = true then (Txt.lower text_8) else text_8) := (by subst htext_8; subst hdraws_2; first | (simp only [m_law_entry, hb4, hb10, if_true, if_false, Bool.false_eq_true, decide_true, decide_false, Option.getD_some, Option.isNone_none, Option.isNone_some, Bool.not_true, Bool.not_false, ↓reduceIte]; done) | (rfl; done) | (exfalso; simp at hb10; done) | (exfalso; simp at hb4; done))
        exact zq_ret s11 (hv_ite (ht_val (K := K) (hv_eqI (hv_mod (hv_intI (hv_at 0 (hs_of (hv_var (x := draws_2) rfl s11.im.1)) (hv_int 1) (by first | omega | decide +kernel | (simp only [List.length_cons, List.length_nil]; omega)) (by first | omega | decide +kernel | (simp only [List.length_cons, List.length_nil]; omega)))) (hv_int 3) (by first | omega | decide +kernel | (simp only [List.length_cons, List.length_nil]; omega))) (hv_int 1))) (fun hi1 => (hv_lower (hv_vS rfl) (by have := l_dot; have := l_emp; have := l_abcB; have := l_dash; first | omega | (simp only [str_len_app, mulS_len, strAt_len]; omega)))) (fun hi2 => (hv_vS rfl))) fun v H' e d => q v H' e (by rw [hF13]; exact d)
      · have hb10P := hb10
        try simp only [decide_eq_true_eq, decide_eq_false_iff_not, Bool.not_eq_true', Bool.not_eq_false', Bool.and_eq_true, Bool.or_eq_true, Bool.or_eq_false_iff] at hb10P
        have hF14 : m_law_entry word_ cell_ = (PySem.Str.ofString "ab-cab") := (by subst htext_8; subst hdraws_2; first | (simp only [m_law_entry, hb4, hb10, if_true, if_false, Bool.false_eq_true, decide_true, decide_false, Option.getD_some, Option.isNone_none, Option.isNone_some, Bool.not_true, Bool.not_false, ↓reduceIte]; done) | (rfl; done) | (exfalso; simp at hb10; done) | (exfalso; simp at hb4; done))
        exact zq_ret s12 (hv_str _) fun v H' e d => q v H' e (by rw [hF14]; exact d)
    · have hb4P := hb4
      try simp only [decide_eq_true_eq, decide_eq_false_iff_not, Bool.not_eq_true', Bool.not_eq_false', Bool.and_eq_true, Bool.or_eq_true, Bool.or_eq_false_iff] at hb4P
      have hF15 : m_law_entry word_ cell_ = (m_law_pattern_text cell_) := (by subst hdraws_2; first | (simp only [m_law_entry, hb4, if_true, if_false, Bool.false_eq_true, decide_true, decide_false, Option.getD_some, Option.isNone_none, Option.isNone_some, Bool.not_true, Bool.not_false, ↓reduceIte]; done) | (rfl; done) | (exfalso; simp at hb4; done))
      exact zq_ret s6 (hv_call cell_ (hd_cons (hv_vI rfl) hd_nil) True.intro) fun v H' e d => q v H' e (by rw [hF15]; exact d)
/-- lower leaves hyphens where they are -/
theorem hyp_lower {t : PySem.Str} (h : Asc t) : hyp (Txt.lower t) = hyp t := by
  unfold hyp
  rw [chars_cps, chars_cps, cps_lower h]
  generalize (([] : List Int), (0 : Int)) = s
  unfold Asc at h
  revert s
  generalize cps t = l at h
  induction l with
  | nil => intro s; rfl
  | cons c l ih =>
    intro s
    rw [List.map_cons, List.map_cons, List.map_cons, List.foldl_cons, List.foldl_cons]
    have hc := h c List.mem_cons_self
    have e : m_hyphen_places_l0 s (⟨#[PyProof.Rows.lo1 c]⟩ : PySem.Str) = m_hyphen_places_l0 s (⟨#[c]⟩ : PySem.Str) := by
      by_cases q : c = 45
      · subst q; rfl
      · have q2 : PyProof.Rows.lo1 c ≠ 45 := by rw [lo1_eq]; split <;> omega
        rw [hl_sign s q, hl_sign s q2]
    rw [e]
    exact ih (fun d hd => h d (List.mem_cons_of_mem _ hd)) _
theorem asc_lower {t : PySem.Str} (h : Asc t) : Asc (Txt.lower t) := fun c hc => by
  rw [cps_lower h] at hc
  obtain ⟨d, hd, rfl⟩ := List.mem_map.mp hc
  have := h d hd
  rw [lo1_eq]
  split <;> omega
/-- what an entry of the law is -/
def EntOk (e : PySem.Str) : Prop := Asc e ∧ (Mkd e ∨ Gd (hyp e))
theorem entry_ok {w : PySem.Str} (hw : Abc w) (c : Int) : EntOk (m_law_entry w c) := by
  unfold m_law_entry
  dsimp only
  have k := cut_ok hw (c / 3)
  split
  · split
    · split
      · exact ⟨asc_lower k.1, Or.inr (by rw [hyp_lower k.1]; exact k.2)⟩
      · exact ⟨k.1, Or.inr k.2⟩
    · refine ⟨by unfold Asc; decide +kernel, Or.inr ?_⟩
      have e : hyp (PySem.Str.ofString "ab-cab") = ([2], 5) := by decide +kernel
      rw [e]
      exact ⟨List.pairwise_singleton _ _, fun x hx => by rw [List.mem_singleton] at hx; show x < 5; omega⟩
  · exact ⟨(ptext_ok c).1, Or.inl (ptext_ok c).2.1⟩
theorem entry_len {w : PySem.Str} (hw : Abc w) (c : Int) : (m_law_entry w c).length ≤ 24 := by
  unfold m_law_entry
  dsimp only
  have k := cut_ok hw (c / 3)
  split
  · split
    · rename_i q
      have hl : (m_law_cut w (c / 3)).length ≤ 24 := by
        rw [Bool.and_eq_true, decide_eq_true_eq] at q
        have := q.1
        omega
      split
      · rw [len_cps, cps_lower k.1, List.length_map, ← len_cps]; exact hl
      · exact hl
    · rw [l_excl]; decide
  · have := ptext_len c
    omega

def m_odd_places (entries_ : (List PySem.Str)) (word_ : PySem.Str) : (List Int) :=
  let marks_ : (List Int) := (m_levels entries_ word_)
  (List.map (fun (c_ : (Int × Int)) => (c_.1 + (1 : Int))) (List.filter (fun (c_ : (Int × Int)) => (decide ((c_.2 % (2 : Int)) = (1 : Int)))) (enumL marks_)))
abbrev s_odd_places : Stmt := topS 9
theorem sc_odd_places : FnScope ["entries", "word", "marks", "index", "level"] ["entries", "word"] (defScope s_odd_places) := ⟨rfl, rfl, rfl, by decide +kernel, rfl, by decide +kernel, by decide +kernel⟩
abbrev sp_odd_places (K : PySem.W.Frag) : Sp := PrD K (fun c : (List PySem.Str) × PySem.Str => [Datum.toD c.1, Datum.toD c.2]) (fun c => c.2.length ≤ 24 ∧ c.1.length ≤ 20 ∧ ∀ e ∈ c.1, e.length ≤ 24) (fun c => (m_odd_places c.1 c.2 : (List Int)))
theorem ok_odd_places (T : Txt K mg) : FnOk P w K mg base CX0 4 T.f_odd_places T.d_odd_places ["entries", "word"] (sp_odd_places K) := by
  refine T.u_odd_places.ok sc_odd_places (fun vs H Q E h => ?_) (fun cdv A outer s H vs Q E hr h => ?_)
  · obtain ⟨Mc, c, mok, da, pre, q⟩ := h
    exact (dpa_len da)
  · obtain ⟨Mc, c, mok, da, pre, q⟩ := h
    obtain ⟨entries_, word_⟩ := c
    dsimp only at da pre q
    obtain ⟨v0, w0, rfl, d0, da0⟩ := dpa_inv da
    obtain ⟨v1, w1, rfl, d1, da1⟩ := dpa_inv da0
    cases dpa_inv0 da1
    cases (Dt.str d1)
    have s0 : Sg K Mc H H [(v0, Datum.toD entries_)] [] := Sg.enter mok ⟨d0, True.intro⟩
    refine ⟨_, (pss_cons (ps_set (i := 2) sc_odd_places.nd rfl (.inl rfl) (pe_call (ok_levels T) hr (by rfl) T.g_levels T.u_levels.kp T.b_levels .nil pass0 (pa_cons (pv 0) (pa_cons (pv 1) pa_nil)))) (pss_cons (ps_ret (pe_lc (own := [("index", 3), ("level", 4)]) (g := gTup K 2 (gCons (gName 3) (gCons (gName 4) gNil))) rfl sc_odd_places.nd (pi_enum (by rfl) T.n_enumerate (pa_cons (pv 2) pa_nil)) (blkOk_by (own := [("index", 3), ("level", 4)]) (N := ["entries", "word", "marks", "index", "level"]) (sc := defScope s_odd_places) (by decide +kernel)) (fun _ _ _ _ _ => (pg_tup rfl (pgs_cons (pg_name (i := 3) sc_odd_places.nd rfl (Or.inl rfl) (.inr (by rfl))) (pgs_cons (pg_name (i := 4) sc_odd_places.nd rfl (Or.inl rfl) (.inr (by rfl))) pgs_nil)))) (fun _ _ _ _ _ => pts_one (pt_cmpR op_eq (pe_op op_mod (pv 4) pe_int) pe_int (nomark _))) (fun _ _ _ _ _ => (pe_op op_add (pv 3) pe_int)))) pss_nil)), ?_⟩
    refine z_asgG s0 (hv_call (entries_, word_) (hd_cons (hv_var (x := entries_) rfl s0.im.1) (hd_cons (hv_vS rfl) hd_nil)) (by exact pre)) fun marks_2 hmarks_2 vmarks_2 Hs1 s1 => ?_
    try dsimp only at hmarks_2
    have f3 := levels_len entries_ word_
    rw [← hmarks_2] at f3
    have hF4 : m_odd_places entries_ word_ = (List.map (fun (c_ : (Int × Int)) => (c_.1 + (1 : Int))) (List.filter (fun (c_ : (Int × Int)) => (decide ((c_.2 % (2 : Int)) = (1 : Int)))) (enumL marks_2))) := (by subst hmarks_2; first | (simp only [m_odd_places, if_true, if_false, Bool.false_eq_true, decide_true, decide_false, Option.getD_some, Option.isNone_none, Option.isNone_some, Bool.not_true, Bool.not_false, ↓reduceIte]; done) | (rfl; done))
    exact zq_ret s1 (hv_lcE s1 (fun (c_ : (Int × Int)) => (decide ((c_.2 % (2 : Int)) = (1 : Int)))) (fun (c_ : (Int × Int)) => (c_.1 + (1 : Int))) (hv_var (x := marks_2) rfl s1.im.1) (by first | omega | decide +kernel | (simp only [List.length_cons, List.length_nil]; omega)) (fun D6 src10 c7 w8 ys9 Hs5 s5 hx11 Q k => by obtain ⟨l17, u13, u14, w8e, st18, d15, d16⟩ := Dt.pair (p := c7) s5.im.1; have zd15 := Dt.int d15; subst zd15; have zd16 := Dt.int d16; subst zd16; subst w8e; exact ⟨_, _, rfl, ex_t msk_le st18, rfl, _, _, rfl, _, _, rfl, rfl, k _ rfl (ht_val (K := K) (hv_eqI (hv_mod (hv_vI rfl) (hv_int 2) (by first | omega | decide +kernel | (simp only [List.length_cons, List.length_nil]; omega))) (hv_int 1))) (fun hf => (hv_add (hv_vI rfl) (hv_int 1)))⟩)) fun v H' e d => q v H' e (by rw [hF4]; exact d)
theorem odd_len (es : List PySem.Str) (w : PySem.Str) : (m_odd_places es w).length ≤ 3 * w.length + 3 := by
  unfold m_odd_places
  dsimp only
  rw [List.length_map]
  refine Nat.le_trans (List.length_filter_le _ _) ?_
  rw [enumL_len]
  exact levels_len es w
theorem found_len {es : List PySem.Str} {w : PySem.Str} {z : List Int} (h : (if Option.isNone (m_exception_places es w) = true then some (m_odd_places es w) else m_exception_places es w) = some z) (he : w.length ≤ 24 ∧ es.length ≤ 20 ∧ ∀ e ∈ es, e.length ≤ 24) : z.length ≤ 1000 := by
  split at h
  · cases h
    have := odd_len es w
    omega
  · have := exc_len h he.2.2
    omega

def m_places (entries_ : (List PySem.Str)) (word_ : PySem.Str) : (List Int) :=
  let found_ : (Option (List Int)) := (m_exception_places entries_ word_)
  let j0_ : (Option (List Int)) := if (Option.isNone found_) = true then
      let found_ : (Option (List Int)) := (some (m_odd_places entries_ word_))
      found_
    else
      found_
  let found_ : (Option (List Int)) := j0_
  let found_ : (List Int) := Option.getD found_ []
  (List.map (fun (c_ : Int) => c_) (List.filter (fun (c_ : Int) => (m_is_inner c_ ((Str.length word_ : Nat) : Int))) found_))
abbrev s_places : Stmt := topS 5
theorem sc_places : FnScope ["entries", "word", "found", "place"] ["entries", "word"] (defScope s_places) := ⟨rfl, rfl, rfl, by decide +kernel, rfl, by decide +kernel, by decide +kernel⟩
abbrev sp_places (K : PySem.W.Frag) : Sp := PrD K (fun c : (List PySem.Str) × PySem.Str => [Datum.toD c.1, Datum.toD c.2]) (fun c => c.2.length ≤ 24 ∧ c.1.length ≤ 20 ∧ ∀ e ∈ c.1, e.length ≤ 24) (fun c => (m_places c.1 c.2 : (List Int)))
theorem ok_places (T : Txt K mg) : FnOk P w K mg base CX0 5 T.f_places T.d_places ["entries", "word"] (sp_places K) := by
  refine T.u_places.ok sc_places (fun vs H Q E h => ?_) (fun cdv A outer s H vs Q E hr h => ?_)
  · obtain ⟨Mc, c, mok, da, pre, q⟩ := h
    exact (dpa_len da)
  · obtain ⟨Mc, c, mok, da, pre, q⟩ := h
    obtain ⟨entries_, word_⟩ := c
    dsimp only at da pre q
    obtain ⟨v0, w0, rfl, d0, da0⟩ := dpa_inv da
    obtain ⟨v1, w1, rfl, d1, da1⟩ := dpa_inv da0
    cases dpa_inv0 da1
    cases (Dt.str d1)
    have s0 : Sg K Mc H H [(v0, Datum.toD entries_)] [] := Sg.enter mok ⟨d0, True.intro⟩
    refine ⟨_, (pss_cons (ps_set (i := 2) sc_places.nd rfl (.inl rfl) (pe_call (ok_exception_places T) (hr.mono (by decide)) (by rfl) T.g_exception_places T.u_exception_places.kp T.b_exception_places .nil pass0 (pa_cons (pv 0) (pa_cons (pv 1) pa_nil)))) (pss_cut (ps_if (pt_cmpR op_isN (pv 2) pe_non (nomark _)) (pss_cons (ps_set (i := 2) sc_places.nd rfl (.inl rfl) (pe_call (ok_odd_places T) hr (by rfl) T.g_odd_places T.u_odd_places.kp T.b_odd_places .nil pass0 (pa_cons (pv 0) (pa_cons (pv 1) pa_nil)))) pss_nil) pss_nil) (pss_cons (ps_ret (pe_lc (own := [("place", 3)]) (g := gName 3) rfl sc_places.nd (pi_list (pv 2)) (blkOk_by (own := [("place", 3)]) (N := ["entries", "word", "found", "place"]) (sc := defScope s_places) (by decide +kernel)) (fun _ _ _ _ _ => (pg_name (i := 3) sc_places.nd rfl (Or.inl rfl) (.inr (by rfl)))) (fun _ _ _ _ _ => pts_one (pt_val (pe_call (ok_is_inner T) (hr.mono (by decide)) (by rfl) T.g_is_inner T.u_is_inner.kp T.b_is_inner .nil pass0 (pa_cons (pv 3) (pa_cons (pe_callB (show CallR _ (Value.builtin "len") (fun xs H Q => ∃ x n, xs = [x] ∧ LenV K x H n ∧ Q (V.int (n : Int)) H) from call_len) (by rfl) T.n_len (by decide +kernel) (pa_cons (pv 1) pa_nil)) pa_nil))))) (fun _ _ _ _ _ => (pv 3)))) pss_nil))), ?_⟩
    refine z_asgG s0 (hv_call (entries_, word_) (hd_cons (hv_var (x := entries_) rfl s0.im.1) (hd_cons (hv_vS rfl) hd_nil)) (by exact pre)) fun found_2 hfound_2 vfound_2 Hs1 s1 => ?_
    try dsimp only at hfound_2
    refine z_ifj (fun σ' H' => ∃ (found_6 : (Option (List Int))) (vfound_6 : V) (o9 : Option V), found_6 = (if (Option.isNone found_2) = true then
        let found_ : (Option (List Int)) := (some (m_odd_places entries_ word_))
        found_
      else
        found_2) ∧ σ' = [some v0, some (V.str word_), some vfound_6, o9] ∧ Sg K Mc H H' [(vfound_6, Datum.toD found_6), (v0, Datum.toD entries_)] []) s1 (ht_val (K := K) (hv_isN (hv_var (x := found_2) rfl s1.im.1))) (fun hb3 Hs4 s4 => ?_) (fun hb3 Hs5 s5 => ?_) (fun σ' Hs8 hN => ?_)
    · have hb3P := hb3
      try simp only [decide_eq_true_eq, decide_eq_false_iff_not, Bool.not_eq_true', Bool.not_eq_false', Bool.and_eq_true, Bool.or_eq_true, Bool.or_eq_false_iff] at hb3P
      refine z_asgG s4 (hv_some (hv_call (entries_, word_) (hd_cons (hv_var (x := entries_) rfl s4.im.2.1) (hd_cons (hv_vS rfl) hd_nil)) (by exact pre))) fun found_11 hfound_11 vfound_11 Hs10 s10 => ?_
      try dsimp only at hfound_11
      exact ⟨found_11, vfound_11, _, (by subst hfound_11; subst hfound_2; first | (simp only [hb3, if_true, if_false, Bool.false_eq_true, decide_true, decide_false, Option.getD_some, Option.isNone_none, Option.isNone_some, Bool.not_true, Bool.not_false, ↓reduceIte]; done) | (rfl; done) | (exfalso; simp at hb3; done)), rfl, s10.keep fun _ h => ⟨h.1, ⟨h.2.2.1, True.intro⟩⟩⟩
    · have hb3P := hb3
      try simp only [decide_eq_true_eq, decide_eq_false_iff_not, Bool.not_eq_true', Bool.not_eq_false', Bool.and_eq_true, Bool.or_eq_true, Bool.or_eq_false_iff] at hb3P
      exact ⟨found_2, vfound_2, _, (by subst hfound_2; first | (simp only [hb3, if_true, if_false, Bool.false_eq_true, decide_true, decide_false, Option.getD_some, Option.isNone_none, Option.isNone_some, Bool.not_true, Bool.not_false, ↓reduceIte]; done) | (rfl; done) | (exfalso; simp at hb3; done)), rfl, s5.keep fun _ h => ⟨h.1, ⟨h.2.1, True.intro⟩⟩⟩
    · obtain ⟨found_6, vfound_6, o9, hj7, rfl, s8⟩ := hN
      obtain ⟨found_12, hz13⟩ : ∃ z, found_6 = some z := by rw [hj7]; split <;> rename_i q; exact ⟨_, rfl⟩; exact Option.ne_none_iff_exists'.mp (by simpa using q)
      subst hz13
      have hF14 : m_places entries_ word_ = (List.map (fun (c_ : Int) => c_) (List.filter (fun (c_ : Int) => (m_is_inner c_ ((Str.length word_ : Nat) : Int))) found_12)) := (by subst hfound_2; first | (simp only [m_places, ← hj7, if_true, if_false, Bool.false_eq_true, decide_true, decide_false, Option.getD_some, Option.isNone_none, Option.isNone_some, Bool.not_true, Bool.not_false, ↓reduceIte]; done) | (rfl; done))
      exact zq_ret s8 (hv_lcL s8 (fun (c_ : Int) => (m_is_inner c_ ((Str.length word_ : Nat) : Int))) (fun (c_ : Int) => c_) (hv_var (x := found_12) rfl s8.im.1) (by subst_vars; exact Nat.le_trans (found_len (es := entries_) (w := word_) (Eq.symm ‹some _ = _›) pre) (by decide)) (fun D16 src20 c17 w18 ys19 Hs15 s15 hx21 Q k => by cases (Dt.int s15.im.1); exact k _ rfl (ht_B (K := K) (hv_call (c17, ((Str.length word_ : Nat) : Int)) (hd_cons (hv_vI rfl) (hd_cons (hv_lenS (hv_vS rfl) (by have := l_dot; have := l_emp; have := l_abcB; have := l_dash; first | omega | (simp only [str_len_app, mulS_len, strAt_len]; omega))) hd_nil)) True.intro)) (fun hf => (hv_vI rfl)))) fun v H' e d => q v H' e (by rw [hF14]; exact d)
def m_law (script_ : (List Int)) : Bool :=
  let word_ : PySem.Str := (m_law_word (m_law_cell script_ (1 : Int)) ((1 : Int) + ((m_law_cell script_ (0 : Int)) % (12 : Int))))
  let entries_ : (List PySem.Str) := (List.map (fun (c_ : Int) => (m_law_entry word_ (m_law_cell script_ ((3 : Int) + c_)))) (irng (0 : Int) (Int.toNat ((m_law_cell script_ (2 : Int)) % (11 : Int)))))
  let passed_ : (List PySem.Str) := entries_
  let expected_ : (List Int) := (m_law_expected entries_ word_)
  let first_ : (List Int) := (m_places passed_ word_)
  let second_ : (List Int) := (m_places passed_ (Txt.lower word_))
  ((decide (passed_ = entries_)) && ((m_law_same first_ expected_) && (m_law_same second_ expected_)))
abbrev s_law : Stmt := topS 21
theorem sc_law : FnScope ["script", "word", "entries", "k", "passed", "expected", "first", "second"] ["script"] (defScope s_law) := ⟨rfl, rfl, rfl, by decide +kernel, rfl, by decide +kernel, by decide +kernel⟩
abbrev sp_law (K : PySem.W.Frag) : Sp := PrD K (fun c : (List Int) => [Datum.toD c]) (fun c => True) (fun c => (m_law c : Bool))
theorem ok_law (T : Txt K mg) : FnOk P w K mg base CX0 6 T.f_law T.d_law ["script"] (sp_law K) := by
  refine T.u_law.ok sc_law (fun vs H Q E h => ?_) (fun cdv A outer s H vs Q E hr h => ?_)
  · obtain ⟨Mc, c, mok, da, pre, q⟩ := h
    exact (dpa_len da)
  · obtain ⟨Mc, c, mok, da, pre, q⟩ := h
    obtain ⟨script_, rfl⟩ : ∃ z, z = c := ⟨c, rfl⟩
    dsimp only at da pre q
    obtain ⟨v0, w0, rfl, d0, da0⟩ := dpa_inv da
    cases dpa_inv0 da0
    have s0 : Sg K Mc H H [(v0, Datum.toD script_)] [] := Sg.enter mok ⟨d0, True.intro⟩
    refine ⟨_, (pss_cons (ps_set (i := 1) sc_law.nd rfl (.inr rfl) (pe_call (ok_law_word T) (hr.mono (by decide)) (by rfl) T.g_law_word T.u_law_word.kp T.b_law_word .nil pass0 (pa_cons (pe_call (ok_law_cell T) (hr.mono (by decide)) (by rfl) T.g_law_cell T.u_law_cell.kp T.b_law_cell .nil pass0 (pa_cons (pv 0) (pa_cons pe_int pa_nil))) (pa_cons (pe_op op_add pe_int (pe_op op_mod (pe_call (ok_law_cell T) (hr.mono (by decide)) (by rfl) T.g_law_cell T.u_law_cell.kp T.b_law_cell .nil pass0 (pa_cons (pv 0) (pa_cons pe_int pa_nil))) pe_int)) pa_nil)))) (pss_cons (ps_setLc (i := 2) rfl sc_law.nd rfl rfl (sw_true rfl rfl rfl (by decide +kernel)) (own := [("k", 3)]) (g := gName 3) (pi_range1 (by rfl) T.n_range (pa_cons (pe_op op_mod (pe_call (ok_law_cell T) (hr.mono (by decide)) (by rfl) T.g_law_cell T.u_law_cell.kp T.b_law_cell .nil pass0 (pa_cons (pv 0) (pa_cons pe_int pa_nil))) pe_int) pa_nil)) (blkOk_by (own := [("k", 3)]) (N := ["script", "word", "entries", "k", "passed", "expected", "first", "second"]) (sc := defScope s_law) (by decide +kernel)) (fun _ _ _ _ _ => (pg_name (i := 3) sc_law.nd rfl (Or.inl rfl) (.inr (by rfl)))) (fun _ _ _ _ _ => pts_nil) (fun _ _ _ _ _ => (pe_call (ok_law_entry T) (hr.mono (by decide)) (by rfl) T.g_law_entry T.u_law_entry.kp T.b_law_entry .nil pass0 (pa_cons (pv 1) (pa_cons (pe_call (ok_law_cell T) (hr.mono (by decide)) (by rfl) T.g_law_cell T.u_law_cell.kp T.b_law_cell .nil pass0 (pa_cons (pv 0) (pa_cons (pe_op op_add pe_int (pv 3)) pa_nil))) pa_nil))))) (pss_cons (ps_set (i := 4) sc_law.nd rfl (.inl rfl) (pe_callTy call_list_of (by rfl) T.n_list (by decide +kernel) (pa_cons (pv 2) pa_nil))) (pss_cons (ps_set (i := 5) sc_law.nd rfl (.inl rfl) (pe_call (ok_law_expected T) (hr.mono (by decide)) (by rfl) T.g_law_expected T.u_law_expected.kp T.b_law_expected .nil pass0 (pa_cons (pv 2) (pa_cons (pv 1) pa_nil)))) (pss_cons (ps_set (i := 6) sc_law.nd rfl (.inl rfl) (pe_call (ok_places T) hr (by rfl) T.g_places T.u_places.kp T.b_places .nil pass0 (pa_cons (pv 4) (pa_cons (pv 1) pa_nil)))) (pss_cons (ps_set (i := 7) sc_law.nd rfl (.inl rfl) (pe_call (ok_places T) hr (by rfl) T.g_places T.u_places.kp T.b_places .nil pass0 (pa_cons (pv 4) (pa_cons (pe_lower (pv 1)) pa_nil)))) (pss_cons (ps_ret (pe_and (pe_cmpR (op_eqT (α := (List PySem.Str)) (hud hr (by decide +kernel))) (pv 4) (pv 2) (nomark _)) (pe_and (pe_call (ok_law_same T) (hr.mono (by decide)) (by rfl) T.g_law_same T.u_law_same.kp T.b_law_same .nil pass0 (pa_cons (pv 6) (pa_cons (pv 5) pa_nil))) (pe_one (pe_call (ok_law_same T) (hr.mono (by decide)) (by rfl) T.g_law_same T.u_law_same.kp T.b_law_same .nil pass0 (pa_cons (pv 7) (pa_cons (pv 5) pa_nil))))))) pss_nil))))))), ?_⟩
    refine z_asgSG s0 (hv_call ((m_law_cell script_ (1 : Int)), ((1 : Int) + ((m_law_cell script_ (0 : Int)) % (12 : Int)))) (hd_cons (hv_call (script_, (1 : Int)) (hd_cons (hv_var (x := script_) rfl s0.im.1) (hd_cons (hv_int 1) hd_nil)) (by first | omega | (subst_vars; omega) | decide +kernel)) (hd_cons (hv_add (hv_int 1) (hv_mod (hv_call (script_, (0 : Int)) (hd_cons (hv_var (x := script_) rfl s0.im.1) (hd_cons (hv_int 0) hd_nil)) (by first | omega | (subst_vars; omega) | decide +kernel)) (hv_int 12) (by first | omega | decide +kernel | (simp only [List.length_cons, List.length_nil]; omega)))) hd_nil)) (by first | omega | (subst_vars; omega) | decide +kernel)) fun word_2 hword_2 Hs1 s1 => ?_
    try dsimp only at hword_2
    have lword : 1 ≤ word_2.length ∧ word_2.length ≤ 12 := by rw [hword_2, (word_ok _ _ ⟨by omega, by omega⟩).2]; omega
    have labc : Abc word_2 := by rw [hword_2]; exact (word_ok _ _ ⟨by omega, by omega⟩).1
    have llow : (Txt.lower word_2).length ≤ 24 := by rw [hword_2, lower_len (word_ok _ _ ⟨by omega, by omega⟩).1, (word_ok _ _ ⟨by omega, by omega⟩).2]; omega
    refine z_asgG s1 (hv_lcR0 s1 (fun (c_ : Int) => (m_law_entry word_2 (m_law_cell script_ ((3 : Int) + c_)))) (hv_mod (hv_call (script_, (2 : Int)) (hd_cons (hv_var (x := script_) rfl s1.im.1) (hd_cons (hv_int 2) hd_nil)) (by first | omega | (subst_vars; omega) | decide +kernel)) (hv_int 11) (by first | omega | decide +kernel | (simp only [List.length_cons, List.length_nil]; omega))) (by first | omega | decide +kernel | (simp only [List.length_cons, List.length_nil]; omega)) (fun D6 c7 ys9 Hs5 s5 hx11 Q k => by exact k _ rfl (hv_call (word_2, (m_law_cell script_ ((3 : Int) + c7))) (hd_cons (hv_vS rfl) (hd_cons (hv_call (script_, ((3 : Int) + c7)) (hd_cons (hv_var (x := script_) rfl s5.im.1) (hd_cons (hv_add (hv_int 3) (hv_vI rfl)) hd_nil)) (by first | omega | (subst_vars; omega) | decide +kernel)) hd_nil)) (by exact lword)))) fun entries_4 hentries_4 ventries_4 Hs3 s3 => ?_
    try dsimp only at hentries_4
    have lent : entries_4.length ≤ 20 ∧ ∀ e ∈ entries_4, e.length ≤ 24 := by rw [hentries_4]; refine ⟨by rw [List.length_map, irng_len]; omega, fun e he => ?_⟩; obtain ⟨c, _, rfl⟩ := List.mem_map.mp he; exact entry_len labc _
    refine z_asgG s3 (hv_listOf (hs_of (hv_var (x := entries_4) rfl s3.im.1))) fun passed_14 hpassed_14 vpassed_14 Hs13 s13 => ?_
    try dsimp only at hpassed_14
    have lpas : passed_14.length ≤ 20 ∧ ∀ e ∈ passed_14, e.length ≤ 24 := by rw [hpassed_14]; exact lent
    refine z_asgG s13 (hv_call (entries_4, word_2) (hd_cons (hv_var (x := entries_4) rfl s13.im.2.1) (hd_cons (hv_vS rfl) hd_nil)) (by exact ⟨Nat.le_trans lword.2 (by decide), lent⟩)) fun expected_16 hexpected_16 vexpected_16 Hs15 s15 => ?_
    try dsimp only at hexpected_16
    have f17 := expected_len entries_4 word_2
    rw [← hexpected_16] at f17
    refine z_asgG s15 (hv_call (passed_14, word_2) (hd_cons (hv_var (x := passed_14) rfl s15.im.2.1) (hd_cons (hv_vS rfl) hd_nil)) (by first | exact ⟨Nat.le_trans lword.2 (by decide), lpas⟩ | exact ⟨llow, lpas⟩)) fun first_19 hfirst_19 vfirst_19 Hs18 s18 => ?_
    try dsimp only at hfirst_19
    refine z_asgG s18 (hv_call (passed_14, (Txt.lower word_2)) (hd_cons (hv_var (x := passed_14) rfl s18.im.2.2.1) (hd_cons (hv_lower (hv_vS rfl) (by have := l_dot; have := l_emp; have := l_abcB; have := l_dash; first | omega | (simp only [str_len_app, mulS_len, strAt_len]; omega))) hd_nil)) (by first | exact ⟨Nat.le_trans lword.2 (by decide), lpas⟩ | exact ⟨llow, lpas⟩)) fun second_21 hsecond_21 vsecond_21 Hs20 s20 => ?_
    try dsimp only at hsecond_21
    have hF22 : m_law script_ = ((decide (passed_14 = entries_4)) && ((m_law_same first_19 expected_16) && (m_law_same second_21 expected_16))) := (by subst hsecond_21; subst hfirst_19; subst hexpected_16; subst hpassed_14; subst hentries_4; subst hword_2; first | (simp only [m_law, if_true, if_false, Bool.false_eq_true, decide_true, decide_false, Option.getD_some, Option.isNone_none, Option.isNone_some, Bool.not_true, Bool.not_false, ↓reduceIte]; done) | (rfl; done))
    exact zq_ret s20 (hv_and (hv_eqT (hv_whole s20 (hv_var (x := passed_14) rfl s20.im.2.2.2.1)) (hv_whole s20 (hv_var (x := entries_4) rfl s20.im.2.2.2.2.1))) (fun hb0 => (hv_and (hv_call (first_19, expected_16) (hd_cons (hv_var (x := first_19) rfl s20.im.2.1) (hd_cons (hv_var (x := expected_16) rfl s20.im.2.2.1) hd_nil)) (by dsimp only; omega)) (fun hb1 => (hv_call (second_21, expected_16) (hd_cons (hv_var (x := second_21) rfl s20.im.1) (hd_cons (hv_var (x := expected_16) rfl s20.im.2.2.1) hd_nil)) (by dsimp only; omega)))))) fun v H' e d => q v H' e (by rw [hF22]; exact d)
end
/-! the law's own level -/
theorem lpat_run : ∀ (l : List PySem.Str) (s : List Int × PySem.Str), (∀ x ∈ l, x.length = 1) → s.1.length = s.2.length + 1 → List.foldl m_law_level_l1 s l = List.foldl m_split_pattern_l0 s l
  | [], s, _, h => rfl
  | x :: l, s, hx, h => by
    rw [List.foldl_cons, List.foldl_cons]
    have h1 := hx x List.mem_cons_self
    have e : m_law_level_l1 s x = m_split_pattern_l0 s x := by
      unfold m_law_level_l1 m_split_pattern_l0
      dsimp only
      rw [Int.toNat_natCast, show s.1.length - 1 = s.2.length by omega]
    rw [e]
    refine lpat_run l _ (fun y hy => hx y (List.mem_cons_of_mem _ hy)) ?_
    exact (split_run [x] s (fun y hy => by rw [List.mem_singleton.mp hy]; exact h1) h).1
theorem level_eq (p : Int) (d : PySem.Str) (b : Int) (e : PySem.Str) : m_law_level_l0 p d b e = loopN (m_law_level_l2 p (m_split_pattern e).1 d (m_split_pattern e).2) (m_split_pattern e).2.length (0 : Int) b := by
  unfold m_law_level_l0 m_split_pattern
  dsimp only
  rw [lpat_run (chars (Txt.lower e)) ([(0 : Int)], PySem.Str.ofString "") (fun x hx => chars_mem_one hx) (by rw [l_emp]; rfl), Int.toNat_natCast]
/-- what one place gets from a list of levels -/
theorem at_place (j : Nat) : ∀ (l : List (Int × Int)) (s : List Int), j < s.length → (List.foldl m_levels_l1 s l).getD j 0 = List.foldl (fun b (x : Int × Int) => if decide (Int.toNat x.1 = j) = true then max b x.2 else b) (s.getD j 0) l
  | [], s, _ => rfl
  | x :: l, s, h => by
    rw [List.foldl_cons, List.foldl_cons, at_place j l _ (by rw [l1_len]; exact h)]
    congr 1
    unfold m_levels_l1
    dsimp only
    rw [List.getD_eq_getElem?_getD, List.getElem?_set]
    by_cases q : Int.toNat x.1 = j
    · rw [if_pos q, if_pos (by omega), if_pos (decide_eq_true q), q]
      rfl
    · rw [if_neg q, if_neg (by rw [decide_eq_true_eq]; exact q), List.getD_eq_getElem?_getD]
theorem cut_none {d c : PySem.Str} {k : Nat} (h1 : k ≤ d.length) (h2 : ¬ k + c.length ≤ d.length) : decide (cutS d (some (k : Int)) (some ((k : Int) + ((c.length : Nat) : Int))) = c) = false := by
  rw [decide_eq_false]
  intro z
  have e := congrArg Str.length z
  have hl : (cutS d (some (k : Int)) (some ((k : Int) + ((c.length : Nat) : Int)))).length = d.length - k := by
    unfold cutS
    rw [show ((k : Int) + ((c.length : Nat) : Int)) = ((k + c.length : Nat) : Int) by omega, HT.sIx_nat, HT.sIx_nat]
    rw [len_cps]
    show (List.take _ (List.drop _ d.cps.toList)).toArray.toList.length = _
    rw [List.length_take, List.length_drop]
    have : d.cps.toList.length = d.length := (len_cps d).symm
    omega
  omega
/-- one entry, one place -/
theorem one_entry (d e : PySem.Str) (s : List Int) (p : Int) (h0 : 0 ≤ p) (hp : p + 1 ≤ (d.length : Int)) (hs : s.length = d.length + 1) :
    (m_levels_l0 d s e).getD (Int.toNat (p + 1)) 0 = m_law_level_l0 p d (s.getD (Int.toNat (p + 1)) 0) e := by
  rw [level_eq]
  unfold m_levels_l0
  dsimp only
  rw [at_place _ _ _ (by omega)]
  have hf := fun x => @given_from e d x
  have hg := given_eq e d
  have hl := (split_len e).1
  generalize (m_split_pattern e).1 = c at *
  generalize (m_split_pattern e).2 = m at *
  generalize s.getD (Int.toNat (p + 1)) 0 = b
  have k := loopN_enum (g := fun (b : Int) (x : Int) (y : Int) => if ((decide ((0 : Int) ≤ (p + 1) - x)) && (decide ((cutS d (some ((p + 1) - x)) (some (((p + 1) - x) + ((Str.length c : Nat) : Int)))) = c))) = true then max b y else b) (d := (0 : Int)) (xs := m) m.length 0 b (by omega)
  rw [List.drop_zero] at k
  refine Eq.trans ?_ (show _ = loopN (m_law_level_l2 p c d m) m.length (0 : Int) b from k.symm)
  rw [max_fold (fun (x : Int × Int) => decide (Int.toNat x.1 = Int.toNat (p + 1))) (fun x => x.2), max_fold (fun (q : Int × Int) => ((decide ((0 : Int) ≤ (p + 1) - q.1)) && (decide ((cutS d (some ((p + 1) - q.1)) (some (((p + 1) - q.1) + ((Str.length c : Nat) : Int)))) = c)))) (fun q => q.2)]
  refine max_ext b fun y => ?_
  rw [List.mem_map, List.mem_map]
  constructor
  · rintro ⟨x, hx, rfl⟩
    rw [List.mem_filter, decide_eq_true_eq] at hx
    obtain ⟨hx, hj⟩ := hx
    have hb := hf x hx
    rw [hg] at hx
    obtain ⟨v, _, hv, ho, hk⟩ := gl_mem _ _ hx
    obtain ⟨q, hq, rfl⟩ := List.mem_map.mp hk
    have hqm := enumL_mem hq
    have hle := ((occ_iff _ _ _).mp ho).1
    refine ⟨q, List.mem_filter.mpr ⟨hq, ?_⟩, rfl⟩
    have e1 : (p + 1) - q.1 = (v : Int) := by
      have h5 : Int.toNat ((v : Int) + q.1) = Int.toNat (p + 1) := hj
      omega
    rw [e1, cut_occ hle, ho, Bool.and_true, decide_eq_true_eq]
    omega
  · rintro ⟨q, hq, rfl⟩
    rw [List.mem_filter, Bool.and_eq_true, decide_eq_true_eq] at hq
    obtain ⟨hq, h1, h2⟩ := hq
    have hqm := enumL_mem hq
    have e1 : (p + 1) - q.1 = ((Int.toNat ((p + 1) - q.1) : Nat) : Int) := by omega
    generalize Int.toNat ((p + 1) - q.1) = v at e1
    rw [e1] at h2
    have hv : v ≤ d.length := by omega
    have hle : v + c.length ≤ d.length := by
      by_cases z : v + c.length ≤ d.length
      · exact z
      · rw [cut_none hv z] at h2; cases h2
    rw [cut_occ hle] at h2
    refine ⟨((v : Int) + q.1, q.2), List.mem_filter.mpr ⟨?_, ?_⟩, rfl⟩
    · rw [hg]
      exact gl_mem' _ _ v (by omega) (by omega) h2 (List.mem_map.mpr ⟨q, hq, rfl⟩)
    · rw [decide_eq_true_eq]
      show Int.toNat ((v : Int) + q.1) = _
      omega
theorem dig_lower {e : PySem.Str} (h : Asc e) (hn : ¬ Mkd e) : ∀ c ∈ cps (Txt.lower e), ¬ (48 ≤ c ∧ c ≤ 57) := fun c hc hd => by
  rw [cps_lower h] at hc
  obtain ⟨x, hx, rfl⟩ := List.mem_map.mp hc
  rw [lo1_eq] at hd
  refine hn ⟨x, hx, Or.inl ?_⟩
  split at hd <;> omega
theorem split_zero : ∀ (l : List Nat) (s : List Int × PySem.Str), (∀ c ∈ l, ¬ (48 ≤ c ∧ c ≤ 57)) → (∀ m ∈ s.1, m = 0) → ∀ m ∈ (List.foldl m_split_pattern_l0 s (l.map fun c => (⟨#[c]⟩ : PySem.Str))).1, m = 0
  | [], s, _, h => h
  | c :: l, s, hc, h => by
    rw [List.map_cons, List.foldl_cons]
    refine split_zero l _ (fun d hd => hc d (List.mem_cons_of_mem _ hd)) ?_
    have q : ¬ inStr (⟨#[c]⟩ : PySem.Str) (PySem.Str.ofString "0123456789") = true := fun z => hc c List.mem_cons_self ((dig_iff c).mp z)
    have e : m_split_pattern_l0 s (⟨#[c]⟩ : PySem.Str) = (s.1 ++ [(0 : Int)], s.2 ++ ⟨#[c]⟩) := by
      unfold m_split_pattern_l0; dsimp only; rw [if_neg q]
    rw [e]
    intro m hm
    rcases List.mem_append.mp hm with q | q
    · exact h m q
    · exact List.mem_singleton.mp q
theorem zero_marks {e : PySem.Str} (h : Asc e) (hn : ¬ Mkd e) : ∀ m ∈ (m_split_pattern e).2, m = 0 := by
  unfold m_split_pattern
  dsimp only
  rw [chars_cps]
  exact split_zero _ _ (dig_lower h hn) fun m hm => List.mem_singleton.mp hm
/-- all entries, one place -/
theorem all_entries (d : PySem.Str) (p : Int) (h0 : 0 ≤ p) (hp : p + 1 ≤ (d.length : Int)) : ∀ (es : List PySem.Str) (s : List Int), (∀ e ∈ es, EntOk e) → NN s → s.length = d.length + 1 →
    (List.foldl (m_levels_l0 d) s es).getD (Int.toNat (p + 1)) 0 = List.foldl (m_law_level_l0 p d) (s.getD (Int.toNat (p + 1)) 0) (es.filter fun e => m_law_is_pattern e)
  | [], s, _, _, _ => rfl
  | e :: es, s, he, hn, hs => by
    rw [List.foldl_cons]
    have h1 := he e List.mem_cons_self
    have h2 := fun x hx => he x (List.mem_cons_of_mem _ hx)
    by_cases q : m_law_is_pattern e = true
    · rw [all_entries d p h0 hp es _ h2 (l0_nn d s e hn) ((l0_len d s e).trans hs), List.filter_cons_of_pos q, List.foldl_cons, one_entry d e s p h0 hp hs]
    · rw [l0_zero d s e hn (zero_marks h1.1 fun z => q ((isp_iff e).mpr z)), all_entries d p h0 hp es s h2 hn hs, List.filter_cons_of_neg q]
/-- a pattern's letters are not the word -/
theorem pat_not {e w : PySem.Str} (ha : Asc e) (hm : Mkd e) (hw : Abc w) : Txt.lower (Txt.replace e (PySem.Str.ofString "-") (PySem.Str.ofString "")) ≠ Txt.lower w := by
  intro z
  obtain ⟨c, hc, hd⟩ := hm
  have e1 : PySem.Str.ofString "" = ⟨#[]⟩ := by decide +kernel
  rw [dash_eq, e1] at z
  have hr : cps (Txt.replace e ⟨#[45]⟩ ⟨#[]⟩) = (cps e).filter (· != 45) := PyProof.Rows.replace_strikes e 45
  have hra : Asc (Txt.replace e ⟨#[45]⟩ ⟨#[]⟩) := fun x hx => by
    rw [hr] at hx
    exact ha x (List.mem_filter.mp hx).1
  have k := congrArg cps z
  rw [cps_lower hra, cps_lower hw.asc, hr] at k
  have h1 : PyProof.Rows.lo1 c ∈ ((cps e).filter (· != 45)).map PyProof.Rows.lo1 := List.mem_map.mpr ⟨c, List.mem_filter.mpr ⟨hc, by rw [bne_iff_ne]; omega⟩, rfl⟩
  rw [k] at h1
  obtain ⟨x, hx, hxe⟩ := List.mem_map.mp h1
  have := hw x hx
  rw [lo1_eq, lo1_eq] at hxe
  split at hxe <;> split at hxe <;> omega
/-- the two searches for an exception go together -/
theorem exc_both {w : PySem.Str} (hw : Abc w) (inner : List Int) : ∀ es : List PySem.Str, (∀ e ∈ es, EntOk e) →
    ((loopL (m_exception_places_l0 w) es () : (Option (List Int)) ⊕ Unit) = .inr () ∧ (loopL (m_law_expected_l0 (Txt.lower w) inner) es () : (List Int) ⊕ Unit) = .inr ()) ∨
    (∃ e ∈ es, Gd (hyp e) ∧ (loopL (m_exception_places_l0 w) es () : (Option (List Int)) ⊕ Unit) = .inl (some (hyp e).1) ∧ (loopL (m_law_expected_l0 (Txt.lower w) inner) es () : (List Int) ⊕ Unit) = .inl (inner.filter fun c => decide (c ∈ (hyp e).1)))
  | [], _ => Or.inl ⟨rfl, rfl⟩
  | e :: es, he => by
    have h1 := he e List.mem_cons_self
    by_cases q : Txt.lower (Txt.replace e (PySem.Str.ofString "-") (PySem.Str.ofString "")) = Txt.lower w
    · right
      have hn : ¬ Mkd e := fun z => pat_not h1.1 z hw q
      have hp : m_law_is_pattern e = false := by
        cases hb : m_law_is_pattern e with
        | false => rfl
        | true => exact absurd ((isp_iff e).mp hb) hn
      refine ⟨e, List.mem_cons_self, h1.2.resolve_left hn, ?_, ?_⟩
      · have e1 : m_exception_places_l0 w () e = Lp.ret (some (hyp e).1) := by
          unfold m_exception_places_l0
          dsimp only
          rw [if_pos (decide_eq_true q)]
          rfl
        rw [loopL, e1]
      · have e1 : m_law_expected_l0 (Txt.lower w) inner () e = Lp.ret (inner.filter fun c => decide (c ∈ (hyp e).1)) := by
          unfold m_law_expected_l0
          dsimp only
          rw [hp, if_pos (by rw [decide_eq_true q]; rfl), List.map_id']
          rfl
        rw [loopL, e1]
    · have e1 : m_exception_places_l0 w () e = Lp.nxt () := by
        unfold m_exception_places_l0
        dsimp only
        rw [if_neg (by rw [decide_eq_true_eq]; exact q)]
      have e2 : m_law_expected_l0 (Txt.lower w) inner () e = Lp.nxt () := by
        unfold m_law_expected_l0
        dsimp only
        rw [if_neg (by rw [decide_eq_false q, Bool.and_false]; exact Bool.false_ne_true)]
      rw [loopL, loopL, e1, e2]
      rcases exc_both hw inner es (fun x hx => he x (List.mem_cons_of_mem _ hx)) with h | ⟨x, hx, h⟩
      · exact Or.inl h
      · exact Or.inr ⟨x, List.mem_cons_of_mem _ hx, h⟩
theorem inner_iff (x n : Int) : m_is_inner x n = true ↔ 2 ≤ x ∧ x ≤ n - 3 := by
  unfold m_is_inner
  rw [Bool.and_eq_true, decide_eq_true_eq, decide_eq_true_eq]
theorem places_ok {es : List PySem.Str} {w : PySem.Str} (hw : Abc w) (h1 : 1 ≤ w.length) (he : ∀ e ∈ es, EntOk e) : m_places es w = m_law_expected es w := by
  unfold m_places m_law_expected m_exception_places
  dsimp only
  rw [List.map_id', List.map_id']
  rcases exc_both hw (irng (2 : Int) (Int.toNat ((((Str.length w : Nat) : Int) - (2 : Int)) - (2 : Int)))) es he with ⟨k1, k2⟩ | ⟨e, _, hg, k1, k2⟩
  · rw [k1, k2]
    dsimp only
    rw [Option.isNone_none, if_pos rfl, Option.getD_some, List.map_id', List.map_id']
    refine sorted_ext ?_ ((irng_sorted _ _).filter _) fun x => ?_
    · refine List.Pairwise.filter _ ?_
      unfold m_odd_places
      dsimp only
      rw [List.pairwise_map]
      exact ((enumL_sorted _).filter _).imp fun h => by omega
    · rw [List.mem_filter, List.mem_filter, inner_iff, irng_mem, decide_eq_true_eq]
      unfold m_odd_places
      dsimp only
      rw [List.mem_map]
      have hlen : ((m_levels es w).length : Int) = (w.length : Int) - 1 ∧ ∀ p : Int, 2 ≤ p → p ≤ (w.length : Int) - 3 → (m_levels es w).getD (Int.toNat (p - 1)) 0 = m_law_level (es.filter fun e => m_law_is_pattern e) (Txt.lower w) p := by
        unfold m_levels m_law_level
        dsimp only
        generalize hd : (((PySem.Str.ofString ".") ++ (Txt.lower w)) ++ (PySem.Str.ofString ".")) = d
        have ld : d.length = w.length + 2 := by
          rw [← hd, str_len_app, str_len_app, lower_len hw, l_dot]
          omega
        rw [zeros_eq, show Int.toNat (((Str.length d : Nat) : Int) + (1 : Int)) = d.length + 1 by omega]
        have hz : NN ((irng 0 (d.length + 1)).map fun _ => (0 : Int)) := fun x hx => by
          obtain ⟨_, _, rfl⟩ := List.mem_map.mp hx
          exact Int.le_refl 0
        have hz2 : ((irng 0 (d.length + 1)).map fun _ => (0 : Int)).length = d.length + 1 := by rw [List.length_map, irng_len]
        have hall := fun p h0 hp => all_entries d p h0 hp es ((irng 0 (d.length + 1)).map fun _ => (0 : Int)) he hz hz2
        have hl : (List.foldl (m_levels_l0 d) ((irng 0 (d.length + 1)).map fun _ => (0 : Int)) es).length = d.length + 1 :=
          foldl_inv (fun t => t.length = d.length + 1) es _ (fun t x _ h => (l0_len d t x).trans h) hz2
        generalize (List.foldl (m_levels_l0 d) ((irng 0 (d.length + 1)).map fun _ => (0 : Int)) es) = f at hl hall
        have e2 : cutL f (some (2 : Int)) (some (-2 : Int)) = (f.drop 2).take (w.length - 1) := by
          unfold cutL
          have a1 : HT.sIx f.length 0 (some (2 : Int)) = 2 := by
            have := HT.sIx_nat f.length 0 2
            rw [show min 2 f.length = 2 by omega] at this
            exact this
          have a2 : HT.sIx f.length f.length (some (-2 : Int)) = w.length + 1 := by
            show (if (-2 : Int) < 0 then ((-2 : Int) + (f.length : Int)).toNat else min (-2 : Int).toNat f.length) = _
            rw [if_pos (by decide)]
            omega
          rw [a1, a2, show w.length + 1 - 2 = w.length - 1 by omega]
        rw [e2]
        refine ⟨by rw [List.length_take, List.length_drop]; omega, fun p hp1 hp2 => ?_⟩
        have e3 : ((f.drop 2).take (w.length - 1)).getD (Int.toNat (p - 1)) 0 = f.getD (Int.toNat (p + 1)) 0 := by
          rw [List.getD_eq_getElem?_getD, List.getD_eq_getElem?_getD, List.getElem?_take, if_pos (by omega), List.getElem?_drop, show 2 + Int.toNat (p - 1) = Int.toNat (p + 1) by omega]
        rw [e3, hall p (by omega) (by omega)]
        congr 1
        have : ((irng 0 (d.length + 1)).map fun _ => (0 : Int)).getD (Int.toNat (p + 1)) 0 = 0 := by
          exact getD_P (P := fun x => x = (0 : Int)) (fun x hx => by obtain ⟨_, _, rfl⟩ := List.mem_map.mp hx; rfl) rfl _
        exact this
      constructor
      · rintro ⟨⟨q, hq, rfl⟩, h2, h3⟩
        rw [List.mem_filter, decide_eq_true_eq] at hq
        obtain ⟨hq, ho⟩ := hq
        have hi := enumL_iff.mp hq
        have e3 := hlen.2 (q.1 + 1) h2 h3
        rw [show q.1 + 1 - 1 = q.1 by omega, ← hi.2.2] at e3
        rw [← e3]
        exact ⟨⟨h2, by omega⟩, ho⟩
      · rintro ⟨⟨h2, h3⟩, ho⟩
        have e3 := hlen.2 x h2 (by omega)
        refine ⟨⟨(x - 1, (m_levels es w).getD (Int.toNat (x - 1)) 0), List.mem_filter.mpr ⟨enumL_iff.mpr ⟨by show 0 ≤ x - 1; omega, by show x - 1 < _; omega, rfl⟩, ?_⟩, by show x - 1 + 1 = x; omega⟩, h2, by omega⟩
        rw [decide_eq_true_eq]
        show (m_levels es w).getD (Int.toNat (x - 1)) 0 % 2 = 1
        rw [e3]; exact ho
  · rw [k1, k2]
    dsimp only
    rw [Option.isNone_some, if_neg Bool.false_ne_true, Option.getD_some]
    refine sorted_ext (hg.1.filter _) ((irng_sorted _ _).filter _) fun x => ?_
    rw [List.mem_filter, List.mem_filter, inner_iff, irng_mem, decide_eq_true_eq]
    constructor
    · rintro ⟨h2, h3, h4⟩; exact ⟨⟨h3, by omega⟩, h2⟩
    · rintro ⟨⟨h2, h3⟩, h4⟩; exact ⟨h4, h2, by omega⟩
theorem lower_twice {w : PySem.Str} (hw : Abc w) : Txt.lower (Txt.lower w) = Txt.lower w := by
  refine str_ext ?_
  rw [cps_lower (asc_lower hw.asc), cps_lower hw.asc, List.map_map]
  refine List.map_congr_left fun c hc => ?_
  have := hw c hc
  show PyProof.Rows.lo1 (PyProof.Rows.lo1 c) = PyProof.Rows.lo1 c
  rw [lo1_eq c]
  split
  · rw [lo1_eq]; split <;> omega
  · rw [lo1_eq]; split <;> omega
theorem places_low {es : List PySem.Str} {w : PySem.Str} (hw : Abc w) : m_places es (Txt.lower w) = m_places es w := by
  have e1 : m_exception_places es (Txt.lower w) = m_exception_places es w := by
    unfold m_exception_places
    have : m_exception_places_l0 (Txt.lower w) = m_exception_places_l0 w := by
      funext s x
      unfold m_exception_places_l0
      dsimp only
      rw [lower_twice hw]
    rw [this]
  have e2 : m_odd_places es (Txt.lower w) = m_odd_places es w := by
    unfold m_odd_places m_levels
    dsimp only
    rw [lower_twice hw]
  unfold m_places
  rw [e1, e2, lower_len hw]
theorem same_ok (a : List Int) : m_law_same a a = true := by
  unfold m_law_same
  rw [if_neg (by simp), loopNR_all fun s k => by unfold m_law_same_l0; dsimp only; rw [if_neg (by simp)]]
theorem law_true (ns : List Int) (_ : ns.length ≤ 63) : m_law ns = true := by
  unfold m_law
  dsimp only
  have hb : 1 ≤ (1 : Int) + ((m_law_cell ns (0 : Int)) % (12 : Int)) ∧ (1 : Int) + ((m_law_cell ns (0 : Int)) % (12 : Int)) ≤ 24 := by omega
  have hw := word_ok (m_law_cell ns (1 : Int)) _ hb
  generalize (m_law_word (m_law_cell ns (1 : Int)) ((1 : Int) + ((m_law_cell ns (0 : Int)) % (12 : Int)))) = w at hw
  have he : ∀ e ∈ (List.map (fun (c_ : Int) => (m_law_entry w (m_law_cell ns ((3 : Int) + c_)))) (irng (0 : Int) (Int.toNat ((m_law_cell ns (2 : Int)) % (11 : Int))))), EntOk e := fun e he => by
    obtain ⟨c, _, rfl⟩ := List.mem_map.mp he
    exact entry_ok hw.1 _
  generalize (List.map (fun (c_ : Int) => (m_law_entry w (m_law_cell ns ((3 : Int) + c_)))) (irng (0 : Int) (Int.toNat ((m_law_cell ns (2 : Int)) % (11 : Int))))) = es at he
  rw [places_low hw.1, places_ok hw.1 (by omega) he, same_ok]
  simp

theorem all_mk {w : World} {K : PySem.W.Frag} {h : Heap} {mg : Str → Option Value} {fa : Addr} (X : K.In h) (G : h.Ns mainGlobals mg) (hfa : mg "law" = some (.ref fa))
    {f_levels : Addr} {od_levels an_levels : Option Addr} {sl_levels : Array (Option Value)} {oc_levels kV_levels dc_levels pm_levels cd_levels ct_levels : Value}
    (a_levels : PySem.W.nsIn K mainGlobals "levels" = some (some (.ref f_levels))) (l_levels : K.lookup f_levels = some ⟨oc_levels, od_levels, .func (PySem.W.fnOf "levels" "levels" (defArgs (topS 2)) (defBody (topS 2)) (defScope (topS 2)) .none kV_levels dc_levels pm_levels an_levels cd_levels ct_levels), sl_levels⟩) (c_levels : PySem.W.codeIn K cd_levels "levels" = true) (k_levels : PySem.W.keepIn K (.ref f_levels) = true)
    {f_given_levels : Addr} {od_given_levels an_given_levels : Option Addr} {sl_given_levels : Array (Option Value)} {oc_given_levels kV_given_levels dc_given_levels pm_given_levels cd_given_levels ct_given_levels : Value}
    (a_given_levels : PySem.W.nsIn K mainGlobals "given_levels" = some (some (.ref f_given_levels))) (l_given_levels : K.lookup f_given_levels = some ⟨oc_given_levels, od_given_levels, .func (PySem.W.fnOf "given_levels" "given_levels" (defArgs (topS 3)) (defBody (topS 3)) (defScope (topS 3)) .none kV_given_levels dc_given_levels pm_given_levels an_given_levels cd_given_levels ct_given_levels), sl_given_levels⟩) (c_given_levels : PySem.W.codeIn K cd_given_levels "given_levels" = true) (k_given_levels : PySem.W.keepIn K (.ref f_given_levels) = true)
    {f_split_pattern : Addr} {od_split_pattern an_split_pattern : Option Addr} {sl_split_pattern : Array (Option Value)} {oc_split_pattern kV_split_pattern dc_split_pattern pm_split_pattern cd_split_pattern ct_split_pattern : Value}
    (a_split_pattern : PySem.W.nsIn K mainGlobals "split_pattern" = some (some (.ref f_split_pattern))) (l_split_pattern : K.lookup f_split_pattern = some ⟨oc_split_pattern, od_split_pattern, .func (PySem.W.fnOf "split_pattern" "split_pattern" (defArgs (topS 4)) (defBody (topS 4)) (defScope (topS 4)) .none kV_split_pattern dc_split_pattern pm_split_pattern an_split_pattern cd_split_pattern ct_split_pattern), sl_split_pattern⟩) (c_split_pattern : PySem.W.codeIn K cd_split_pattern "split_pattern" = true) (k_split_pattern : PySem.W.keepIn K (.ref f_split_pattern) = true)
    {f_places : Addr} {od_places an_places : Option Addr} {sl_places : Array (Option Value)} {oc_places kV_places dc_places pm_places cd_places ct_places : Value}
    (a_places : PySem.W.nsIn K mainGlobals "places" = some (some (.ref f_places))) (l_places : K.lookup f_places = some ⟨oc_places, od_places, .func (PySem.W.fnOf "places" "places" (defArgs (topS 5)) (defBody (topS 5)) (defScope (topS 5)) .none kV_places dc_places pm_places an_places cd_places ct_places), sl_places⟩) (c_places : PySem.W.codeIn K cd_places "places" = true) (k_places : PySem.W.keepIn K (.ref f_places) = true)
    {f_is_inner : Addr} {od_is_inner an_is_inner : Option Addr} {sl_is_inner : Array (Option Value)} {oc_is_inner kV_is_inner dc_is_inner pm_is_inner cd_is_inner ct_is_inner : Value}
    (a_is_inner : PySem.W.nsIn K mainGlobals "is_inner" = some (some (.ref f_is_inner))) (l_is_inner : K.lookup f_is_inner = some ⟨oc_is_inner, od_is_inner, .func (PySem.W.fnOf "is_inner" "is_inner" (defArgs (topS 6)) (defBody (topS 6)) (defScope (topS 6)) .none kV_is_inner dc_is_inner pm_is_inner an_is_inner cd_is_inner ct_is_inner), sl_is_inner⟩) (c_is_inner : PySem.W.codeIn K cd_is_inner "is_inner" = true) (k_is_inner : PySem.W.keepIn K (.ref f_is_inner) = true)
    {f_exception_places : Addr} {od_exception_places an_exception_places : Option Addr} {sl_exception_places : Array (Option Value)} {oc_exception_places kV_exception_places dc_exception_places pm_exception_places cd_exception_places ct_exception_places : Value}
    (a_exception_places : PySem.W.nsIn K mainGlobals "exception_places" = some (some (.ref f_exception_places))) (l_exception_places : K.lookup f_exception_places = some ⟨oc_exception_places, od_exception_places, .func (PySem.W.fnOf "exception_places" "exception_places" (defArgs (topS 7)) (defBody (topS 7)) (defScope (topS 7)) .none kV_exception_places dc_exception_places pm_exception_places an_exception_places cd_exception_places ct_exception_places), sl_exception_places⟩) (c_exception_places : PySem.W.codeIn K cd_exception_places "exception_places" = true) (k_exception_places : PySem.W.keepIn K (.ref f_exception_places) = true)
    {f_hyphen_places : Addr} {od_hyphen_places an_hyphen_places : Option Addr} {sl_hyphen_places : Array (Option Value)} {oc_hyphen_places kV_hyphen_places dc_hyphen_places pm_hyphen_places cd_hyphen_places ct_hyphen_places : Value}
    (a_hyphen_places : PySem.W.nsIn K mainGlobals "hyphen_places" = some (some (.ref f_hyphen_places))) (l_hyphen_places : K.lookup f_hyphen_places = some ⟨oc_hyphen_places, od_hyphen_places, .func (PySem.W.fnOf "hyphen_places" "hyphen_places" (defArgs (topS 8)) (defBody (topS 8)) (defScope (topS 8)) .none kV_hyphen_places dc_hyphen_places pm_hyphen_places an_hyphen_places cd_hyphen_places ct_hyphen_places), sl_hyphen_places⟩) (c_hyphen_places : PySem.W.codeIn K cd_hyphen_places "hyphen_places" = true) (k_hyphen_places : PySem.W.keepIn K (.ref f_hyphen_places) = true)
    {f_odd_places : Addr} {od_odd_places an_odd_places : Option Addr} {sl_odd_places : Array (Option Value)} {oc_odd_places kV_odd_places dc_odd_places pm_odd_places cd_odd_places ct_odd_places : Value}
    (a_odd_places : PySem.W.nsIn K mainGlobals "odd_places" = some (some (.ref f_odd_places))) (l_odd_places : K.lookup f_odd_places = some ⟨oc_odd_places, od_odd_places, .func (PySem.W.fnOf "odd_places" "odd_places" (defArgs (topS 9)) (defBody (topS 9)) (defScope (topS 9)) .none kV_odd_places dc_odd_places pm_odd_places an_odd_places cd_odd_places ct_odd_places), sl_odd_places⟩) (c_odd_places : PySem.W.codeIn K cd_odd_places "odd_places" = true) (k_odd_places : PySem.W.keepIn K (.ref f_odd_places) = true)
    {f_law_cell : Addr} {od_law_cell an_law_cell : Option Addr} {sl_law_cell : Array (Option Value)} {oc_law_cell kV_law_cell dc_law_cell pm_law_cell cd_law_cell ct_law_cell : Value}
    (a_law_cell : PySem.W.nsIn K mainGlobals "_law_cell" = some (some (.ref f_law_cell))) (l_law_cell : K.lookup f_law_cell = some ⟨oc_law_cell, od_law_cell, .func (PySem.W.fnOf "_law_cell" "_law_cell" (defArgs (topS 11)) (defBody (topS 11)) (defScope (topS 11)) .none kV_law_cell dc_law_cell pm_law_cell an_law_cell cd_law_cell ct_law_cell), sl_law_cell⟩) (c_law_cell : PySem.W.codeIn K cd_law_cell "_law_cell" = true) (k_law_cell : PySem.W.keepIn K (.ref f_law_cell) = true)
    {f_law_draws : Addr} {od_law_draws an_law_draws : Option Addr} {sl_law_draws : Array (Option Value)} {oc_law_draws kV_law_draws dc_law_draws pm_law_draws cd_law_draws ct_law_draws : Value}
    (a_law_draws : PySem.W.nsIn K mainGlobals "_law_draws" = some (some (.ref f_law_draws))) (l_law_draws : K.lookup f_law_draws = some ⟨oc_law_draws, od_law_draws, .func (PySem.W.fnOf "_law_draws" "_law_draws" (defArgs (topS 12)) (defBody (topS 12)) (defScope (topS 12)) .none kV_law_draws dc_law_draws pm_law_draws an_law_draws cd_law_draws ct_law_draws), sl_law_draws⟩) (c_law_draws : PySem.W.codeIn K cd_law_draws "_law_draws" = true) (k_law_draws : PySem.W.keepIn K (.ref f_law_draws) = true)
    {f_law_word : Addr} {od_law_word an_law_word : Option Addr} {sl_law_word : Array (Option Value)} {oc_law_word kV_law_word dc_law_word pm_law_word cd_law_word ct_law_word : Value}
    (a_law_word : PySem.W.nsIn K mainGlobals "_law_word" = some (some (.ref f_law_word))) (l_law_word : K.lookup f_law_word = some ⟨oc_law_word, od_law_word, .func (PySem.W.fnOf "_law_word" "_law_word" (defArgs (topS 13)) (defBody (topS 13)) (defScope (topS 13)) .none kV_law_word dc_law_word pm_law_word an_law_word cd_law_word ct_law_word), sl_law_word⟩) (c_law_word : PySem.W.codeIn K cd_law_word "_law_word" = true) (k_law_word : PySem.W.keepIn K (.ref f_law_word) = true)
    {f_law_pattern_text : Addr} {od_law_pattern_text an_law_pattern_text : Option Addr} {sl_law_pattern_text : Array (Option Value)} {oc_law_pattern_text kV_law_pattern_text dc_law_pattern_text pm_law_pattern_text cd_law_pattern_text ct_law_pattern_text : Value}
    (a_law_pattern_text : PySem.W.nsIn K mainGlobals "_law_pattern_text" = some (some (.ref f_law_pattern_text))) (l_law_pattern_text : K.lookup f_law_pattern_text = some ⟨oc_law_pattern_text, od_law_pattern_text, .func (PySem.W.fnOf "_law_pattern_text" "_law_pattern_text" (defArgs (topS 14)) (defBody (topS 14)) (defScope (topS 14)) .none kV_law_pattern_text dc_law_pattern_text pm_law_pattern_text an_law_pattern_text cd_law_pattern_text ct_law_pattern_text), sl_law_pattern_text⟩) (c_law_pattern_text : PySem.W.codeIn K cd_law_pattern_text "_law_pattern_text" = true) (k_law_pattern_text : PySem.W.keepIn K (.ref f_law_pattern_text) = true)
    {f_law_cut : Addr} {od_law_cut an_law_cut : Option Addr} {sl_law_cut : Array (Option Value)} {oc_law_cut kV_law_cut dc_law_cut pm_law_cut cd_law_cut ct_law_cut : Value}
    (a_law_cut : PySem.W.nsIn K mainGlobals "_law_cut" = some (some (.ref f_law_cut))) (l_law_cut : K.lookup f_law_cut = some ⟨oc_law_cut, od_law_cut, .func (PySem.W.fnOf "_law_cut" "_law_cut" (defArgs (topS 15)) (defBody (topS 15)) (defScope (topS 15)) .none kV_law_cut dc_law_cut pm_law_cut an_law_cut cd_law_cut ct_law_cut), sl_law_cut⟩) (c_law_cut : PySem.W.codeIn K cd_law_cut "_law_cut" = true) (k_law_cut : PySem.W.keepIn K (.ref f_law_cut) = true)
    {f_law_entry : Addr} {od_law_entry an_law_entry : Option Addr} {sl_law_entry : Array (Option Value)} {oc_law_entry kV_law_entry dc_law_entry pm_law_entry cd_law_entry ct_law_entry : Value}
    (a_law_entry : PySem.W.nsIn K mainGlobals "_law_entry" = some (some (.ref f_law_entry))) (l_law_entry : K.lookup f_law_entry = some ⟨oc_law_entry, od_law_entry, .func (PySem.W.fnOf "_law_entry" "_law_entry" (defArgs (topS 16)) (defBody (topS 16)) (defScope (topS 16)) .none kV_law_entry dc_law_entry pm_law_entry an_law_entry cd_law_entry ct_law_entry), sl_law_entry⟩) (c_law_entry : PySem.W.codeIn K cd_law_entry "_law_entry" = true) (k_law_entry : PySem.W.keepIn K (.ref f_law_entry) = true)
    {f_law_is_pattern : Addr} {od_law_is_pattern an_law_is_pattern : Option Addr} {sl_law_is_pattern : Array (Option Value)} {oc_law_is_pattern kV_law_is_pattern dc_law_is_pattern pm_law_is_pattern cd_law_is_pattern ct_law_is_pattern : Value}
    (a_law_is_pattern : PySem.W.nsIn K mainGlobals "_law_is_pattern" = some (some (.ref f_law_is_pattern))) (l_law_is_pattern : K.lookup f_law_is_pattern = some ⟨oc_law_is_pattern, od_law_is_pattern, .func (PySem.W.fnOf "_law_is_pattern" "_law_is_pattern" (defArgs (topS 17)) (defBody (topS 17)) (defScope (topS 17)) .none kV_law_is_pattern dc_law_is_pattern pm_law_is_pattern an_law_is_pattern cd_law_is_pattern ct_law_is_pattern), sl_law_is_pattern⟩) (c_law_is_pattern : PySem.W.codeIn K cd_law_is_pattern "_law_is_pattern" = true) (k_law_is_pattern : PySem.W.keepIn K (.ref f_law_is_pattern) = true)
    {f_law_level : Addr} {od_law_level an_law_level : Option Addr} {sl_law_level : Array (Option Value)} {oc_law_level kV_law_level dc_law_level pm_law_level cd_law_level ct_law_level : Value}
    (a_law_level : PySem.W.nsIn K mainGlobals "_law_level" = some (some (.ref f_law_level))) (l_law_level : K.lookup f_law_level = some ⟨oc_law_level, od_law_level, .func (PySem.W.fnOf "_law_level" "_law_level" (defArgs (topS 18)) (defBody (topS 18)) (defScope (topS 18)) .none kV_law_level dc_law_level pm_law_level an_law_level cd_law_level ct_law_level), sl_law_level⟩) (c_law_level : PySem.W.codeIn K cd_law_level "_law_level" = true) (k_law_level : PySem.W.keepIn K (.ref f_law_level) = true)
    {f_law_expected : Addr} {od_law_expected an_law_expected : Option Addr} {sl_law_expected : Array (Option Value)} {oc_law_expected kV_law_expected dc_law_expected pm_law_expected cd_law_expected ct_law_expected : Value}
    (a_law_expected : PySem.W.nsIn K mainGlobals "_law_expected" = some (some (.ref f_law_expected))) (l_law_expected : K.lookup f_law_expected = some ⟨oc_law_expected, od_law_expected, .func (PySem.W.fnOf "_law_expected" "_law_expected" (defArgs (topS 19)) (defBody (topS 19)) (defScope (topS 19)) .none kV_law_expected dc_law_expected pm_law_expected an_law_expected cd_law_expected ct_law_expected), sl_law_expected⟩) (c_law_expected : PySem.W.codeIn K cd_law_expected "_law_expected" = true) (k_law_expected : PySem.W.keepIn K (.ref f_law_expected) = true)
    {f_law_same : Addr} {od_law_same an_law_same : Option Addr} {sl_law_same : Array (Option Value)} {oc_law_same kV_law_same dc_law_same pm_law_same cd_law_same ct_law_same : Value}
    (a_law_same : PySem.W.nsIn K mainGlobals "_law_same" = some (some (.ref f_law_same))) (l_law_same : K.lookup f_law_same = some ⟨oc_law_same, od_law_same, .func (PySem.W.fnOf "_law_same" "_law_same" (defArgs (topS 20)) (defBody (topS 20)) (defScope (topS 20)) .none kV_law_same dc_law_same pm_law_same an_law_same cd_law_same ct_law_same), sl_law_same⟩) (c_law_same : PySem.W.codeIn K cd_law_same "_law_same" = true) (k_law_same : PySem.W.keepIn K (.ref f_law_same) = true)
    {f_law : Addr} {od_law an_law : Option Addr} {sl_law : Array (Option Value)} {oc_law kV_law dc_law pm_law cd_law ct_law : Value}
    (a_law : PySem.W.nsIn K mainGlobals "law" = some (some (.ref f_law))) (l_law : K.lookup f_law = some ⟨oc_law, od_law, .func (PySem.W.fnOf "law" "law" (defArgs (topS 21)) (defBody (topS 21)) (defScope (topS 21)) .none kV_law dc_law pm_law an_law cd_law ct_law), sl_law⟩) (c_law : PySem.W.codeIn K cd_law "law" = true) (k_law : PySem.W.keepIn K (.ref f_law) = true)
    (z_bool : PySem.W.nsIn K mainGlobals "bool" = some none)
    (z_enumerate : PySem.W.nsIn K mainGlobals "enumerate" = some none)
    (z_int : PySem.W.nsIn K mainGlobals "int" = some none)
    (z_isinstance : PySem.W.nsIn K mainGlobals "isinstance" = some none)
    (z_len : PySem.W.nsIn K mainGlobals "len" = some none)
    (z_list : PySem.W.nsIn K mainGlobals "list" = some none)
    (z_max : PySem.W.nsIn K mainGlobals "max" = some none)
    (z_range : PySem.W.nsIn K mainGlobals "range" = some none)
    {t_DIGITS : Tok} (y_DIGITS : PySem.W.nsIn K mainGlobals "DIGITS" = some (some (.str (PySem.Str.ofString "0123456789") t_DIGITS))) :
    ∃ fd : FuncData, (∀ (s : Shared) (v : Value), BindsTo s fd ⟨[v], []⟩ [("script", v)]) ∧ ∀ base : Heap, K.In base → base.Ns mainGlobals mg → FnOk PySem.Challenge.rw_folio_k11_places.prog w K mg base CX0 6 fa fd ["script"] (sp_law K) := by
  have e := hfa.symm.trans (PySem.W.mg_of X G a_law)
  cases e
  have F_levels := fun_mk (st := topS 2) l_levels c_levels k_levels
  have B_levels := F_levels.binds (ps := ["entries", "word"]) fun _ _ _ _ _ _ us hl => match us, hl with | [_, _], _ => rfl
  have F_given_levels := fun_mk (st := topS 3) l_given_levels c_given_levels k_given_levels
  have B_given_levels := F_given_levels.binds (ps := ["pattern", "dotted"]) fun _ _ _ _ _ _ us hl => match us, hl with | [_, _], _ => rfl
  have F_split_pattern := fun_mk (st := topS 4) l_split_pattern c_split_pattern k_split_pattern
  have B_split_pattern := F_split_pattern.binds (ps := ["pattern"]) fun _ _ _ _ _ _ us hl => match us, hl with | [_], _ => rfl
  have F_places := fun_mk (st := topS 5) l_places c_places k_places
  have B_places := F_places.binds (ps := ["entries", "word"]) fun _ _ _ _ _ _ us hl => match us, hl with | [_, _], _ => rfl
  have F_is_inner := fun_mk (st := topS 6) l_is_inner c_is_inner k_is_inner
  have B_is_inner := F_is_inner.binds (ps := ["place", "length"]) fun _ _ _ _ _ _ us hl => match us, hl with | [_, _], _ => rfl
  have F_exception_places := fun_mk (st := topS 7) l_exception_places c_exception_places k_exception_places
  have B_exception_places := F_exception_places.binds (ps := ["entries", "word"]) fun _ _ _ _ _ _ us hl => match us, hl with | [_, _], _ => rfl
  have F_hyphen_places := fun_mk (st := topS 8) l_hyphen_places c_hyphen_places k_hyphen_places
  have B_hyphen_places := F_hyphen_places.binds (ps := ["exception"]) fun _ _ _ _ _ _ us hl => match us, hl with | [_], _ => rfl
  have F_odd_places := fun_mk (st := topS 9) l_odd_places c_odd_places k_odd_places
  have B_odd_places := F_odd_places.binds (ps := ["entries", "word"]) fun _ _ _ _ _ _ us hl => match us, hl with | [_, _], _ => rfl
  have F_law_cell := fun_mk (st := topS 11) l_law_cell c_law_cell k_law_cell
  have B_law_cell := F_law_cell.binds (ps := ["script", "k"]) fun _ _ _ _ _ _ us hl => match us, hl with | [_, _], _ => rfl
  have F_law_draws := fun_mk (st := topS 12) l_law_draws c_law_draws k_law_draws
  have B_law_draws := F_law_draws.binds (ps := ["cell", "count"]) fun _ _ _ _ _ _ us hl => match us, hl with | [_, _], _ => rfl
  have F_law_word := fun_mk (st := topS 13) l_law_word c_law_word k_law_word
  have B_law_word := F_law_word.binds (ps := ["cell", "size"]) fun _ _ _ _ _ _ us hl => match us, hl with | [_, _], _ => rfl
  have F_law_pattern_text := fun_mk (st := topS 14) l_law_pattern_text c_law_pattern_text k_law_pattern_text
  have B_law_pattern_text := F_law_pattern_text.binds (ps := ["cell"]) fun _ _ _ _ _ _ us hl => match us, hl with | [_], _ => rfl
  have F_law_cut := fun_mk (st := topS 15) l_law_cut c_law_cut k_law_cut
  have B_law_cut := F_law_cut.binds (ps := ["word", "cell"]) fun _ _ _ _ _ _ us hl => match us, hl with | [_, _], _ => rfl
  have F_law_entry := fun_mk (st := topS 16) l_law_entry c_law_entry k_law_entry
  have B_law_entry := F_law_entry.binds (ps := ["word", "cell"]) fun _ _ _ _ _ _ us hl => match us, hl with | [_, _], _ => rfl
  have F_law_is_pattern := fun_mk (st := topS 17) l_law_is_pattern c_law_is_pattern k_law_is_pattern
  have B_law_is_pattern := F_law_is_pattern.binds (ps := ["text"]) fun _ _ _ _ _ _ us hl => match us, hl with | [_], _ => rfl
  have F_law_level := fun_mk (st := topS 18) l_law_level c_law_level k_law_level
  have B_law_level := F_law_level.binds (ps := ["entries", "word", "place"]) fun _ _ _ _ _ _ us hl => match us, hl with | [_, _, _], _ => rfl
  have F_law_expected := fun_mk (st := topS 19) l_law_expected c_law_expected k_law_expected
  have B_law_expected := F_law_expected.binds (ps := ["entries", "word"]) fun _ _ _ _ _ _ us hl => match us, hl with | [_, _], _ => rfl
  have F_law_same := fun_mk (st := topS 20) l_law_same c_law_same k_law_same
  have B_law_same := F_law_same.binds (ps := ["actual", "expected"]) fun _ _ _ _ _ _ us hl => match us, hl with | [_, _], _ => rfl
  have F_law := fun_mk (st := topS 21) l_law c_law k_law
  have B_law := F_law.binds (ps := ["script"]) fun _ _ _ _ _ _ us hl => match us, hl with | [_], _ => rfl
  refine ⟨PySem.W.fnOf "law" "law" (defArgs (topS 21)) (defBody (topS 21)) (defScope (topS 21)) .none kV_law dc_law pm_law an_law cd_law ct_law, fun s v => .of_eq rfl, fun base _ _ => ?_⟩
  exact ok_law ⟨_, _, F_levels, B_levels, PySem.W.mg_of X G a_levels, _, _, F_given_levels, B_given_levels, PySem.W.mg_of X G a_given_levels, _, _, F_split_pattern, B_split_pattern, PySem.W.mg_of X G a_split_pattern, _, _, F_places, B_places, PySem.W.mg_of X G a_places, _, _, F_is_inner, B_is_inner, PySem.W.mg_of X G a_is_inner, _, _, F_exception_places, B_exception_places, PySem.W.mg_of X G a_exception_places, _, _, F_hyphen_places, B_hyphen_places, PySem.W.mg_of X G a_hyphen_places, _, _, F_odd_places, B_odd_places, PySem.W.mg_of X G a_odd_places, _, _, F_law_cell, B_law_cell, PySem.W.mg_of X G a_law_cell, _, _, F_law_draws, B_law_draws, PySem.W.mg_of X G a_law_draws, _, _, F_law_word, B_law_word, PySem.W.mg_of X G a_law_word, _, _, F_law_pattern_text, B_law_pattern_text, PySem.W.mg_of X G a_law_pattern_text, _, _, F_law_cut, B_law_cut, PySem.W.mg_of X G a_law_cut, _, _, F_law_entry, B_law_entry, PySem.W.mg_of X G a_law_entry, _, _, F_law_is_pattern, B_law_is_pattern, PySem.W.mg_of X G a_law_is_pattern, _, _, F_law_level, B_law_level, PySem.W.mg_of X G a_law_level, _, _, F_law_expected, B_law_expected, PySem.W.mg_of X G a_law_expected, _, _, F_law_same, B_law_same, PySem.W.mg_of X G a_law_same, _, _, F_law, B_law, PySem.W.mg_of X G a_law, PySem.W.mg_none_of X G z_bool, PySem.W.mg_none_of X G z_enumerate, PySem.W.mg_none_of X G z_int, PySem.W.mg_none_of X G z_isinstance, PySem.W.mg_none_of X G z_len, PySem.W.mg_none_of X G z_list, PySem.W.mg_none_of X G z_max, PySem.W.mg_none_of X G z_range, _, PySem.W.mg_of X G y_DIGITS⟩
end My
open PySem PySem.W PyProof.Rows
set_option maxHeartbeats 0 in
theorem PySem.Challenge.cw_folio_k11_places_holds : PySem.Challenge.rw_folio_k11_places.Holds := by
  w_on; o_law; k_head; (case hw => w_witness2)
  k_fill
  refine L2.walk_of (l := PySem.Challenge.rw_folio_k11_places) (n := 63) (k := 6) (x := "script") (CX := fun _ => L2.CX0) (sp := fun w => My.sp_law _) rfl (by decide) rfl ⟨rfl, by decide, by decide⟩ (fun w h Y => PySem.W.kIn_of Y) ?F (fun _ _ a ns hl _ hS => Ly.law_sp hS True.intro (My.law_true ns hl)) (fun _ _ _ _ _ h => h)
  case F =>
    intro w mg fa h KX G hmg
    refine' My.all_mk KX G hmg ?a_levels ?l_levels ?c_levels ?k_levels ?a_given_levels ?l_given_levels ?c_given_levels ?k_given_levels ?a_split_pattern ?l_split_pattern ?c_split_pattern ?k_split_pattern ?a_places ?l_places ?c_places ?k_places ?a_is_inner ?l_is_inner ?c_is_inner ?k_is_inner ?a_exception_places ?l_exception_places ?c_exception_places ?k_exception_places ?a_hyphen_places ?l_hyphen_places ?c_hyphen_places ?k_hyphen_places ?a_odd_places ?l_odd_places ?c_odd_places ?k_odd_places ?a_law_cell ?l_law_cell ?c_law_cell ?k_law_cell ?a_law_draws ?l_law_draws ?c_law_draws ?k_law_draws ?a_law_word ?l_law_word ?c_law_word ?k_law_word ?a_law_pattern_text ?l_law_pattern_text ?c_law_pattern_text ?k_law_pattern_text ?a_law_cut ?l_law_cut ?c_law_cut ?k_law_cut ?a_law_entry ?l_law_entry ?c_law_entry ?k_law_entry ?a_law_is_pattern ?l_law_is_pattern ?c_law_is_pattern ?k_law_is_pattern ?a_law_level ?l_law_level ?c_law_level ?k_law_level ?a_law_expected ?l_law_expected ?c_law_expected ?k_law_expected ?a_law_same ?l_law_same ?c_law_same ?k_law_same ?a_law ?l_law ?c_law ?k_law ?z_bool ?z_enumerate ?z_int ?z_isinstance ?z_len ?z_list ?z_max ?z_range ?y_DIGITS
    (case a_levels => k_is); (case l_levels => k_is); (case c_levels => k_is); (case k_levels => k_is); (case a_given_levels => k_is); (case l_given_levels => k_is); (case c_given_levels => k_is); (case k_given_levels => k_is); (case a_split_pattern => k_is); (case l_split_pattern => k_is); (case c_split_pattern => k_is); (case k_split_pattern => k_is); (case a_places => k_is); (case l_places => k_is); (case c_places => k_is); (case k_places => k_is); (case a_is_inner => k_is); (case l_is_inner => k_is); (case c_is_inner => k_is); (case k_is_inner => k_is); (case a_exception_places => k_is); (case l_exception_places => k_is); (case c_exception_places => k_is); (case k_exception_places => k_is); (case a_hyphen_places => k_is); (case l_hyphen_places => k_is); (case c_hyphen_places => k_is); (case k_hyphen_places => k_is); (case a_odd_places => k_is); (case l_odd_places => k_is); (case c_odd_places => k_is); (case k_odd_places => k_is); (case a_law_cell => k_is); (case l_law_cell => k_is); (case c_law_cell => k_is); (case k_law_cell => k_is); (case a_law_draws => k_is); (case l_law_draws => k_is); (case c_law_draws => k_is); (case k_law_draws => k_is); (case a_law_word => k_is); (case l_law_word => k_is); (case c_law_word => k_is); (case k_law_word => k_is); (case a_law_pattern_text => k_is); (case l_law_pattern_text => k_is); (case c_law_pattern_text => k_is); (case k_law_pattern_text => k_is); (case a_law_cut => k_is); (case l_law_cut => k_is); (case c_law_cut => k_is); (case k_law_cut => k_is); (case a_law_entry => k_is); (case l_law_entry => k_is); (case c_law_entry => k_is); (case k_law_entry => k_is); (case a_law_is_pattern => k_is); (case l_law_is_pattern => k_is); (case c_law_is_pattern => k_is); (case k_law_is_pattern => k_is); (case a_law_level => k_is); (case l_law_level => k_is); (case c_law_level => k_is); (case k_law_level => k_is); (case a_law_expected => k_is); (case l_law_expected => k_is); (case c_law_expected => k_is); (case k_law_expected => k_is); (case a_law_same => k_is); (case l_law_same => k_is); (case c_law_same => k_is); (case k_law_same => k_is); (case a_law => k_is); (case l_law => k_is); (case c_law => k_is); (case k_law => k_is); (case z_bool => k_is); (case z_enumerate => k_is); (case z_int => k_is); (case z_isinstance => k_is); (case z_len => k_is); (case z_list => k_is); (case z_max => k_is); (case z_range => k_is); (case y_DIGITS => k_is)
